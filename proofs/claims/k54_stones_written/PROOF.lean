import PyProof.Rows.All
import Wide.All
import OpenK.AllK
import Wide.FinOn
import Lean
import PyProof.EqAt
import PyProof.EqKinds
import PyProof.TupleCall
import PySem.Challenge.RW_ripestone_k54_stones_written
open Array renaming length_toList→G8,toList→R9
open Bool renaming false_ne_true→C7,eq_iff_iff→G0,and_eq_true→K4,and_false→R5
open Int renaming emod_lt_of_pos→E7,emod_nonneg→F3,toNat_natCast→G9,mul_nonneg→O3,mul_le_mul→O4,zero_add→P6,pow_pos→Q0
open List renaming size_toArray→B3,getElem?_eq_getElem→B4,length_map→B6,getElem?_eq_some_iff→B8,mem_cons_of_mem→B9,getElem?_map→C3,mem_cons_self→C6,map_cons→C9,length_append→D2,mem_append_right→D4,replicate→D7,length_cons→E3,mem_cons→E4,map_append→E5,mem_singleton→E6,range→E9,mem_append→F2,getD_eq_getElem?_getD→F5,length_singleton→F7,map_nil→G1,map_map→G2,mem_map→G6,mem_range→I0,mem_of_getElem?→J3,cons_append→J4,append_nil→J5,drop_eq_getElem_cons→J6,length_take→K2,lookup_cons→K3,mem_append_left→K6,getElem?_set_ne→K7,nodup_cons→K8,filterMap_cons→L0,map_eq_nil_iff→L1,getElem?_append_right→L6,length_range→M4,getElem?_append_left→M5,length_drop→M8,all_eq_true→M9,getElem_mem→N0,getElem?_replicate→N3,of_mem_zip→N6,getElem?_set_self→N8,length_replicate→O1,getElem_of_mem→O6,take_succ_cons→O7,replicate_succ→O8,map_congr_left→O9,mem_filterMap→P1,zip_cons_cons→P4,getElem_range→P5,ext_getElem→Q5,drop_length→Q6,cons_ne_nil→Q7,take_length→Q8,getElem_map→Q9,mem_filter→R0,nil_append→R4
open Nat renaming lt_of_lt_of_le→B5,le_refl→B7,ne_of_lt→D8,le_trans→D9,lt_irrefl→F0,ne_of_gt→J7,zero_le→L4,digitChar→L8,lt_succ_of_lt→M3,zero_add→N1,toDigits→N2,toDigits_of_lt_base→N4,strongRecOn→N7,le_of_lt→P0,le_succ→P9,lt_succ_self→Q3
open Option renaming bind_some→C5,getD_none→Q2,getD_some→Q4,none→S1
open Option.some renaming inj→E1
open Or renaming inr→D3,inl→D5
open PyProof.Rows renaming boot_list→G5,boot_str→G7,boot_tuple→J9,boot_all→K5,boot_isinstance→L3,callWith_type1→L5,boot_int→O2
open PySem renaming boot_len→C4,mem_of_lookup→F4,intText?→J2,call→R1,Within→R8
open PySem.F renaming plainAttrs_str→D1,plainAttrs_list→F1,slot_str_join→F8,type_str_join→F9,slot_list_append→G3,type_list_append→G4,slot_str_split→K0,type_str_split→K1
open PySem.Str renaming ofString→J8
open PySem.W renaming kitOne→C8,kia_one→D6,fnOf→E2,mg_none_of→E8,keepIn→F6,findIn→J0,codeIn→J1,nsIn→K9,mg_of→L7,methodObj→L9,kitx_list→M0,instObj→N5,cellsFrom_some→N9,lookIn→O0,kitx_tuple→P2,specialIn→P7,kitx_dict→P8,plainGet→Q1,OpenLaw→R3,kitCls→R6,WalkO→R7,isFn→S0
open PySem.W.KIN renaming val_back→O5
open Sum renaming inl→M6,inr→M7
abbrev aA:=PySem.W.Frag
theorem aP{α:Type u_1}{b:α}{β:Type u_2}{x:Option β}{f:β→Option α}(h:x.bind f=some b):∃a,x=some a∧f a=some b:=Option.bind_eq_some_iff.mp h
theorem iG{α:Type u_1}{b:α}{β:Type u_2}{x:Option β}{f:β→α}(h:x.map f=some b):∃a,x=some a∧f a=b:=Option.map_eq_some_iff.mp h

set_option Elab.async false
set_option linter.all false
set_option maxRecDepth 100000
namespace L2
open PySem PySem.Spec PyProof.Rows
abbrev Key:=Sum Int Str
def Tf:Key→Value→Bool
 | .inl k,v=>Value.isInt k v
 | .inr x,v=>Value.isStrOf x v
def GR(w:World):Key→Int
 | .inl k=>hashInt k
 | .inr x=>hashStr w x
theorem bM:∀{k:Key} {v:Value},Tf k v=true→(∃i t,k=M6 i∧v=Value.int i t)∨(∃x t,k=M7 x∧v=Value.str x t)
 | .inl i,v,h=>by
  obtain⟨t,e⟩:=Value.isInt_shape (k:=i) (v:=v) h
  exact .inl ⟨i,t,rfl,e⟩
 | .inr x,v,h=>by
  obtain⟨t,e⟩:=Value.isStrOf_shape (x:=x) (v:=v) h
  exact .inr ⟨x,t,rfl,e⟩
theorem Ur(a b:Int):decide ((M6 a:Key)=M6 b)=(a==b):=by
 by_cases e:a=b
 ·subst e;simp
 ·have h:¬(M6 a:Key)=M6 b:=λq=>e (Sum.inl.inj q)
  rw[decide_eq_false h]
  exact(beq_eq_false_iff_ne.mpr e).symm
theorem Us(a b:Str):decide ((M7 a:Key)=M7 b)=decide (a=b):=by
 by_cases e:a=b
 ·subst e;simp
 ·have h:¬(M7 a:Key)=M7 b:=λq=>e (Sum.inr.inj q)
  rw[decide_eq_false h,decide_eq_false e]
theorem Ut(a:Int)(b:Str):decide ((M6 a:Key)=M7 b)=false:=decide_eq_false (λq=>nomatch q)
theorem Uu(a:Str)(b:Int):decide ((M7 a:Key)=M6 b)=false:=decide_eq_false (λq=>nomatch q)
def Eo(prog:Program)(w:World):PySem.KeyKind prog w Key where
  is:=Tf
  hash:=GR w
  inj:=λv a b ha hb=>by
    rcases bM ha with ⟨i,t,rfl,rfl⟩ | ⟨x,t,rfl,rfl⟩
    · rcases bM hb with ⟨j,u,rfl,e⟩ | ⟨y,u,rfl,e⟩
      · injection e with e1 _;rw[e1]
      · exact nomatch e
    · rcases bM hb with ⟨j,u,rfl,e⟩ | ⟨y,u,rfl,e⟩
      · exact nomatch e
      · injection e with e1 _;rw[e1]
  byValue:=λk v h=>by
    rcases bM h with ⟨i,t,rfl,rfl⟩ | ⟨x,t,rfl,rfl⟩<;>rfl
  pyHash:=λhv h=>by
    rcases bM hv with ⟨i,t,rfl,rfl⟩ | ⟨x,t,rfl,rfl⟩
    · exact wpAny_pyHash_int h
    · exact wpAny_pyHash_str h
  eqBool:=λhu hv h=>by
    rcases bM hu with ⟨i,t,rfl,rfl⟩ | ⟨x,t,rfl,rfl⟩
    · rcases bM hv with ⟨j,u,rfl,rfl⟩ | ⟨y,u,rfl,rfl⟩
      · rw[Ur]at h;exact wpAny_eqBool_int h
      · rw[Ut]at h;exact SeqAt.EqAt.int_str i t y u _ _ _ _ h
    · rcases bM hv with ⟨j,u,rfl,rfl⟩ | ⟨y,u,rfl,rfl⟩
      · rw[Uu]at h;exact SeqAt.EqAt.str_int x t j u _ _ _ _ h
      · rw[Us]at h;exact wpAny_eqBool_str h
  «strs»:=λk x t v h=>by
    rcases bM h with ⟨i,u,rfl,e⟩ | ⟨y,u,rfl,e⟩
    · exact nomatch e
    · injection e with e1 _
      subst e1
      cases v<;>rfl
end L2
namespace L2
open PySem PySem.Spec PyProof.Rows
inductive V where
  | non | bl (b:Bool) | int (i:Int) | str (x:Str) | byt (b:Array UInt8) | flt (b:UInt64) | ref (a:Addr) | ty (n:String)
  deriving DecidableEq
def RelV:V→Value→Prop
 | .non,u=>u=Value.none
 | .bl b,u=>u=Value.bool b
 | .int i,u=>∃t,u=Value.int i t
 | .str x,u=>∃t,u=Value.str x t
 | .byt b,u=>∃t,u=Value.bytes b t
 | .flt b,u=>∃t,u=Value.float b t
 | .ref a,u=>u=Value.ref a
 | .ty n,u=>u=Value.type n
abbrev Vals:List V→List Value→Prop:=Paired RelV
theorem Vals.length{xs:List V}{us:List Value}(r:Vals xs us):xs.length=us.length:=Paired.length r
theorem Vals.get:∀{xs:List V} {us:List Value} {i:Nat} {x:V},Vals xs us→xs[i]?=some x→∃u,us[i]?=some u∧RelV x u
 | _,_,_,_,.nil,e=>by simp at e
 | _,_,0,_,.cons r _,e=>by simp at e;subst e;exact⟨_,rfl,r⟩
 | _,_,i+1,x,.cons _ t,e=>by
  obtain⟨u,h1,h2⟩:=Vals.get (i:=i) (x:=x) t (by simpa using e)
  exact⟨u,by simpa using h1,h2⟩
theorem Vals.append:∀{xs ys:List V} {us ws:List Value},Vals xs us→Vals ys ws→Vals (xs++ys) (us++ws)
 | _,_,_,_,.nil,s=>s
 | _,_,_,_,.cons r t,s=>.cons r (Vals.append t s)
theorem Vals.take:∀{xs:List V} {us:List Value} (n:Nat),Vals xs us→Vals (xs.take n) (us.take n)
 | _,_,0,_=>.nil
 | _,_,_+1,.nil=>.nil
 | _,_,n+1,.cons r t=>.cons r (Vals.take n t)
theorem Vals.drop:∀{xs:List V} {us:List Value} (n:Nat),Vals xs us→Vals (xs.drop n) (us.drop n)
 | _,_,0,r=>r
 | _,_,_+1,.nil=>.nil
 | _,_,n+1,.cons _ t=>Vals.drop n t
def Uv:Option V→Option Value→Prop
 | some v,some u=>RelV v u
 | none,none=>True
 | _,_=>False
def KV{κ:Type}:List (κ×V)→List (κ×Value)→Prop:=Paired λ(p:κ×V) (q:κ×Value)=>p.1=q.1∧RelV p.2 q.2
def kV:Key→V
 | .inl i=>.int i
 | .inr x=>.str x
inductive HO where
  | lst (xs:List V)
  | tup (xs:List V)
  | dK (kvs:List (Key×V)) | dT (kvs:List (List Key×V))
  | set (S:Int→Bool) (n:Nat)
  | ins (C dx:Addr) (fs:List (Str×V))
  | own (x:Addr)
  | xd (fs:List (Str×V))
  | met (f x:Addr)
  | rng (lo hi:Int)
  | oX (o:Obj) (u:HO)
  | tbl (ps:Array Value)
  | ext (φ:Heap→Prop)
abbrev Hp:=Addr→Option HO
def upd(H:Hp)(a:Addr)(o:HO):Hp:=λb=>if b=a then some o else H b
theorem bI{H:Hp}{a:Addr}{o:HO}:upd H a o a=some o:=by unfold upd;rw[if_pos rfl]
theorem aX{H:Hp}{a b:Addr}{o:HO}(h:b≠a):upd H a o b=H b:=by unfold upd;rw[if_neg h]
theorem dM{H:Hp}{a b:Addr}{o:HO}(h:H a=some o)(h':H b=none):a≠b:=by
 intro e;subst e;rw[h]at h';cases h'
section
variable(P:Program)(w:World)
def dO(H:Hp)(h:Heap)(a:Addr):HO→Prop
 | .lst xs=>xs.length≤sizeLine∧∃(its:List Value)(n:Nat),Vals xs its∧h.get? a=some {cls:=.type "list", data:=.seq its.toArray n}
 | .tup xs=>xs.length≤sizeLine∧∃its:List Value,Vals xs its∧IsTup h a its.toArray
 | .dK kvs=>kvs.length≤sizeLine∧(a==sysModules)=false∧∃vs,KV kvs vs∧h.DictOf (Eo P w) a vs
 | .dT kvs=>kvs.length≤sizeLine∧(a==sysModules)=false∧∃xs:List (List Key×Addr×Value),
   Paired (λ(p:List Key×V) (q:List Key×Addr×Value)=>p.1=q.1∧H q.2.1=some (.tup (p.1.map kV))∧RelV p.2 q.2.2) kvs xs ∧
   ∃o es ep,h.get? a=some o∧o.ExactDict∧o.data=.dict es ep∧es.toList=xs.map (entryOfKey (tupleKind (Eo P w)))∧(xs.map (·.1)).Nodup
 | .set S n=>h.SetOf (intKind P w) a S n
 | .ins C dx fs=>H dx=some (.own a)∧fs.length≤1000∧dx≠a∧h.get? a=some (N5 C dx) ∧
   ∃mA,h.Ns1 dx mA∧(∀f,Uv (fs.lookup f) (mA f))∧R8 mA (fs.map (·.1))
 | .own _=>∃o,h.get? a=some o
 | .xd fs=>∃mA,h.Ns1 a mA∧∀f,Uv (fs.lookup f) (mA f)
 | .rng lo hi=>∃t u v,h.get? a=some {cls:=.type "range", data:=.fields #[.int lo t,.int hi u,.int 1 v]}
 | .oX o u=>h.get? a=some o∧dO H h a u
 | .tbl ps=>h.get? a=some {cls:=.none,data:=.fields ps}
 | .met f x=>h.get? a=some (L9 (.ref f) (.ref x))
 | .ext φ=>φ h∧(∃o,h.get? a=some o)∧∀h1 h2:Heap,φ h1→(∀o,h1.get? a=some o→h2.get? a=some o)→φ h2
def qM(H:Hp)(h:Heap):Prop:=∀a o,H a=some o→dO P w H h a o
end
section
variable{P:Program}{w:World}{H H':Hp}{h h':Heap}{a:Addr}{o:HO}
theorem dO.lt(x:dO P w H h a o):a<h.objs.size:=by
 cases o with
 | lst xs=>obtain⟨_,_,_,_,e⟩:=x;exact Heap.lt_size e
 | tup xs=>obtain⟨_,_,_,p⟩:=x;exact p.lt
 | dK kvs=>obtain⟨_,_,_,_,o,_,_,e,_⟩:=x;exact Heap.lt_size e
 | dT kvs=>obtain⟨_,_,_,_,o,_,_,e,_⟩:=x;exact Heap.lt_size e
 | set S n=>obtain⟨o,_,_,_,e,_⟩:=x;exact Heap.lt_size e
 | ins C dx fs=>obtain⟨_,_,_,e,_⟩:=x;exact Heap.lt_size e
 | own y=>obtain⟨_,e⟩:=x;exact Heap.lt_size e
 | xd fs=>obtain⟨_,⟨_,_,_,e,_⟩,_⟩:=x;exact Heap.lt_size e
 | rng lo hi=>obtain⟨_,_,_,e⟩:=x;exact Heap.lt_size e
 | oX ob u=>obtain⟨e,_⟩:=x;exact Heap.lt_size e
 | tbl ps=>exact Heap.lt_size (show h.get? a=some _ from x)
 | met f y=>exact Heap.lt_size (show h.get? a=some _ from x)
 | ext φ=>obtain⟨_,⟨_,e⟩,_⟩:=x;exact Heap.lt_size e
theorem Paired.Yp{α β:Type}{F G:α→β→Prop}:∀{l₁:List α} {l₂:List β},Paired F l₁ l₂→(∀a b,F a b→G a b)→Paired G l₁ l₂
 | _,_,.nil,_=>.nil
 | _,_,.cons r t,f=>.cons (f _ _ r) (Paired.Yp t f)
theorem dO.stay(x:dO P w H h a o)(k:∀b u,(b=a∨H b=some (.own a))→h.get? b=some u→h'.get? b=some u)
  (ho:∀b,H b=some (.own a)→H' b=some (.own a)) (ht:∀b xs,H b=some (.tup xs)→H' b=some (.tup xs)):dO P w H' h' a o:=by
 induction o with
 | lst xs=>obtain⟨z,its,n,r,e⟩:=x;exact⟨z,its,n,r,k _ _ (.inl rfl) e⟩
 | tup xs=>obtain⟨z,its,r,ob,e,c⟩:=x;exact⟨z,its,r,ob,k _ _ (.inl rfl) e,c⟩
 | dK kvs=>obtain⟨z,y,vs,r,ob,es,ep,e,c⟩:=x;exact⟨z,y,vs,r,ob,es,ep,k _ _ (.inl rfl) e,c⟩
 | dT kvs=>
  obtain⟨z,y,xs,r,ob,es,ep,e,c⟩:=x
  exact⟨z,y,xs,Paired.Yp r λp q z=>⟨z.1,ht _ _ z.2.1,z.2.2⟩,ob,es,ep,k _ _ (.inl rfl) e,c⟩
 | set S n=>obtain⟨ob,es,ep,t,e,c⟩:=x;exact⟨ob,es,ep,t,k _ _ (.inl rfl) e,c⟩
 | ins C dx fs=>
  obtain⟨d,z,ne,e,mA,⟨od,es,ep,e2,c⟩,r⟩:=x
  exact⟨ho _ d,z,ne,k _ _ (.inl rfl) e,mA,⟨od,es,ep,k _ _ (.inr d) e2,c⟩,r⟩
 | own y=>obtain⟨ob,e⟩:=x;exact⟨ob,k _ _ (.inl rfl) e⟩
 | xd fs=>obtain⟨mA,⟨od,es,ep,e,c⟩,r⟩:=x;exact⟨mA,⟨od,es,ep,k _ _ (.inl rfl) e,c⟩,r⟩
 | rng lo hi=>obtain⟨t,u,v,e⟩:=x;exact⟨t,u,v,k _ _ (.inl rfl) e⟩
 | oX ob u ih=>obtain⟨e,q⟩:=x;exact⟨k _ _ (.inl rfl) e,ih q⟩
 | tbl ps=>
  have e:h.get? a=some {cls:=.none,data:=.fields ps}:=x
  show h'.get? a=some {cls:=.none,data:=.fields ps}
  exact k a _ (.inl rfl) e
 | met f y=>
  have e:h.get? a=some (L9 (.ref f) (.ref y)):=x
  show h'.get? a=some (L9 (.ref f) (.ref y))
  exact k a _ (.inl rfl) e
 | ext φ=>obtain⟨p,⟨o,e⟩,st⟩:=x;exact⟨st _ _ p λo q=>k _ _ (.inl rfl) q,⟨o,k _ _ (.inl rfl) e⟩,st⟩
theorem qM.lt(x:qM P w H h)(e:H a=some o):a<h.objs.size:=(x a o e).lt
theorem qM.fresh(x:qM P w H h)(e:h.objs.size≤a):H a=none:=by
 cases q:H a with
 | none=>rfl
 | some u=>exact absurd (B5 (x.lt q) e) (F0 _)
theorem qM.kept(x:qM P w H h)(k:∀b u,h.get? b=some u→h'.get? b=some u):qM P w H h':=λa o e=>
 (x a o e).stay (λb u _ q=>k b u q) (λ_ q=>q) λ_ _ q=>q
theorem qM.laid(x:qM P w H h)(k:∀b u,h.get? b=some u→h'.get? b=some u)(hp:h.objs.size≤a)(new:dO P w (upd H a o) h' a o):qM P w (upd H a o) h':=λb u e=>by
 have hn:=x.fresh hp
 by_cases hb:b=a
 ·subst hb;rw[bI]at e;cases e;exact new
 ·rw[aX hb]at e
  exact(x b u e).stay (λc v _ q=>k c v q) (λc q=>by rw[aX (dM q hn)];exact q) λc xs q=>by rw[aX (dM q hn)];exact q
end
def Rd(H:Hp)(a:Addr)(u:HO):Prop:=H a=some u∨∃o,H a=some (.oX o u)
theorem Rd.ok{P:Program}{w:World}{H:Hp}{h:Heap}{a:Addr}{u:HO}(r:Rd H a u)(x:qM P w H h):dO P w H h a u:=by
 rcases r with r | ⟨o,r⟩
 ·exact x a u r
 ·obtain⟨_,q⟩:=x a _ r
  exact q
def DX:Option HO→Prop
 | some (.lst _)=>True
 | some (.dK _)=>True
 | some (.dT _)=>True
 | some (.set _ _)=>True
 | some (.ins _ _ _)=>True
 | some (.ext _)=>True
 | _=>False
section
variable{P:Program}{w:World}{H:Hp}{h h':Heap}{x e:Addr}{o':HO}
theorem qM.write(ok:qM P w H h)(mu:DX (H x))(he:e=x∨H e=some (.own x))(k:∀b u,b≠e→h.get? b=some u→h'.get? b=some u)(heo:∃u,h'.get? e=some u)
  (new:dO P w (upd H x o') h' x o'):qM P w (upd H x o') h':=λb u q=>by
 have Yq:∀c y,H c=some (.own y)→c≠x:=λc y r z=>by subst z;rw[r]at mu;exact mu
 have GX:∀c xs,H c=some (.tup xs)→c≠x:=λc xs r z=>by subst z;rw[r]at mu;exact mu
 by_cases hb:b=x
 ·subst hb;rw[bI]at q;cases q;exact new
 ·rw[aX hb]at q
  by_cases hbe:b=e
  ·have q':H b=some (.own x):=by
    rcases he with z | z
    ·exact absurd (hbe.trans z) hb
    ·rw[hbe];exact z
   rw[q]at q';cases q'
   obtain⟨v,hv⟩:=heo
   exact⟨v,by rw[hbe];exact hv⟩
  ·refine(ok b u q).stay (λc v hc r=>k c v ?_ r) (λc r=>by rw[aX (Yq c b r)];exact r) λc xs r=>by rw[aX (GX c xs r)];exact r
   rcases hc with rfl | hc
   ·exact hbe
   ·rintro rfl
    rcases he with z | z
    ·exact Yq c b hc z
    ·rw[hc]at z;cases z;exact hb rfl
end
structure Un(fs ex:List Addr)(H H':Hp)(h h':Heap):Prop where
 keep:∀b o,h.get? b=some o→H b=none→b∉fs→b∉ex→h'.get? b=some o
 slot:∀b o,h.get? b=some o→H b=none→b∈fs→b∉ex→∃sl,h'.get? b=some {o with slots:=sl}
 free:∀b o,h.get? b=some o→H b=none→b∉ex→H' b=none
 there:∀b o,h.get? b=some o→b∉ex→∃o',h'.get? b=some o'
 tups:∀b xs,H b=some (.tup xs)→H' b=some (.tup xs)
 wM:∀b o u,H b=some (.oX o u)→H' b=some (.oX o u)
 zP:∀b ps,H b=some (.tbl ps)→∃more,H' b=some (.tbl (ps++more))
section
variable{fs fs' ex ex':List Addr}{H H1 H2:Hp}{h h1 h2 h':Heap}{a x e:Addr}{o:HO}
theorem Un.any(u:Un fs ex H H1 h h1){b:Addr}{ob:Obj}(q:h.get? b=some ob)(n:H b=none)(hx:b∉ex):∃sl,h1.get? b=some {ob with slots:=sl}:=by
 by_cases hb:b∈fs
 ·exact u.slot b ob q n hb hx
 ·exact⟨ob.slots,u.keep b ob q n hb hx⟩
theorem Un.kept(k:∀b u,h.get? b=some u→h'.get? b=some u):Un fs ex H H h h':=
 ⟨λb ob q _ _ _=>k b ob q,λb ob q _ _ _=>⟨ob.slots,k b ob q⟩,λ_ _ _ n _=>n,λb ob q _=>⟨ob,k b ob q⟩,λ_ _ q=>q,λ_ _ _ q=>q,λ_ ps q=>⟨#[],by rw[q];simp⟩⟩
theorem Un.refl:Un fs ex H H h h:=Un.kept λ_ _ q=>q
theorem Un.laid(k:∀b u,h.get? b=some u→h'.get? b=some u)(hp:h.objs.size≤a)(hn:H a=none):Un fs ex H (upd H a o) h h' where
 keep:=λb u q _ _ _=>k b u q
 slot:=λb u q _ _ _=>⟨u.slots,k b u q⟩
 free:=λb u q n _=>by rw[aX (D8 (B5 (Heap.lt_size q) hp))];exact n
 there:=λb u q _=>⟨u,k b u q⟩
 tups:=λb xs q=>by rw[aX (dM q hn)];exact q
 wM:=λb u xs q=>by rw[aX (dM q hn)];exact q
 zP:=λb ps q=>⟨#[],by rw[aX (dM q hn),q];simp⟩
theorem Un.write(mu:DX (H x))(he:e=x∨H e=some (.own x))(k:∀b u,b≠e→h.get? b=some u→h'.get? b=some u)(heo:∃u,h'.get? e=some u):Un fs ex H (upd H x o) h h':=by
 have hx:∀b,H b=none→b≠x:=λb n z=>by subst z;rw[n]at mu;exact mu
 have hb:∀b,H b=none→b≠e:=λb n z=>by
  subst z
  rcases he with r | r
  ·exact hx b n r
  ·rw[n]at r;cases r
 have hm:∀b u,H b=some u→¬DX (some u)→b≠x:=λb u q nm z=>by subst z;rw[q]at mu;exact nm mu
 refine⟨λb u q n _ _=>k b u (hb b n) q,λb u q n _ _=>⟨u.slots,k b u (hb b n) q⟩,λb u q n _=>by rw[aX (hx b n)];exact n,λb u q _=>?_,
  λb xs q=>by rw[aX (hm b _ q λz=>z)];exact q,λb u xs q=>by rw[aX (hm b _ q λz=>z)];exact q,λb ps q=>⟨#[],by rw[aX (hm b _ q λz=>z),q];simp⟩⟩
 by_cases hbe:b=e
 ·subst hbe;exact heo
 ·exact⟨u,k b u hbe q⟩
end
def DY(h:Heap)(H:Hp):List Addr:=(E9 h.objs.size).filter λa=>(H a).isSome
def wN(h:Heap)(H:Hp):Heap:=PySem.W.hideAll h (DY h H)
theorem Gx(h:Heap)(H:Hp):(wN h H).objs.size=h.objs.size:=PySem.W.hideAll_size _ _
theorem Jf{h:Heap}{H:Hp}{b:Addr}{o:Obj}(e:h.get? b=some o)(n:H b=none):(wN h H).get? b=some o:=
 PySem.W.hideAll_get _ e λhm=>by
  have q:(H b).isSome=true:=(R0.mp hm).2
  rw[n]at q;simp at q
theorem Oj{h:Heap}{H:Hp}{b:Addr}{o:Obj}(e:(wN h H).get? b=some o):h.get? b=some o∧H b=none:=by
 have e':h.get? b=some o:=PySem.W.of_hideAll (DY h H) e
 refine⟨e',?_⟩
 cases q:H b with
 | none=>rfl
 | some x=>
  have hm:b∈DY h H:=R0.mpr ⟨I0.mpr (Heap.lt_size e'),by simp[q]⟩
  have z:(wN h H).get? b=none:=PySem.W.hideAll_none (DY h H) hm
  rw[z]at e;cases e
def Ol(g h:Heap)(L:Addr):List (Addr×Obj):=(E9 h.objs.size).filterMap λa=>if a=L∨(g.get? a).isSome=true then none else(h.get? a).map λo=>(a,o)
def rest(g h:Heap)(L d:Addr):List (Addr×Obj):=(Ol g h L).filter λp=>decide (p.1≠d)
end L2
namespace L2
open PySem PySem.Spec PyProof.Rows
structure Mod(K:aA)(mg:Str→Option Value)(base:Heap):Prop where
 GZ:K.In base
 glob:base.Ns mainGlobals mg
 blt:∃mb,base.Ns builtinsNs mb∧∀x:Str,x ≠ "__name__" → mb x=bootBuiltins x
 nolimit:base.NoLimit
structure Cx where
 prog:Program
 w:World
 K:aA
 mg:Str→Option Value
 base:Heap
 A:Around
 N:List Str
 s₀:Shared
 H₀:Hp
 env:Env
 outer:List Env
 stack:List Env
 ex:List Addr
 fn:Str→Bool
 calm:Bool
 pn:List (Addr×Obj)
 xe:Value→Shared→Prop
def frs(l:List Env):List Addr:=l.filterMap (·.frame)
abbrev Cx.fs(X:Cx):List Addr:=frs X.outer
def EY(sc:Scope)(x:Str):Prop:=sc.names.lookup x=some .local∨sc.names.lookup x=some .cell∨sc.names.lookup x=some .free
def Loc(sc:Scope)(x:Str):Prop:=sc.names.lookup x=some .local∨sc.names.lookup x=some .cell
def Look(env:Env)(h:Heap)(m:Str→Option Value)(x:Str)(u:Value):Prop:=
 (env.kindOf x=some .local∧m x=some u)∨((env.kindOf x=some .cell∨env.kindOf x=some .free)∧∃c,env.cells.lookup x=some c∧h.IsCell c (some u))
structure Cx.Ok(X:Cx):Prop where
 mod:Mod X.K X.mg X.base
 kind:X.env.scope.kind=.function
 glob:X.env.globals=mainGlobals
 blt:X.env.builtins=builtinsNs
 above:X.s₀.heap.objs.size≤X.env.locals
 inj:∀x y c,X.env.cells.lookup x=some c→X.env.cells.lookup y=some c→x=y
 has:∀x,(X.env.kindOf x=some .cell∨X.env.kindOf x=some .free)→∃c,X.env.cells.lookup x=some c
 cab:∀x c,X.fn x=true→X.env.cells.lookup x=some c→X.s₀.heap.objs.size≤c
 hd:X.calm=true→X.A.handled=none
 frames:X.A.frames=some X.stack
 FJ:X.stack=X.outer∨(X.stack=X.env::X.outer∧X.env.frame=some X.env.locals)
 LK:∀b∈X.ex,b≠X.env.locals∧∀x c,X.env.cells.lookup x=some c→c≠b
 bs:∀b o,X.base.get? b=some o→X.s₀.heap.get? b=some o∧X.H₀ b=none
 Tg:X.base.objs.size≤X.s₀.heap.objs.size
 Jg:∀b o,X.base.get? b=some o→b∉X.ex
 Om:∀b∈X.ex,b∉X.fs
 rC:X.s₀.heap.FunFrames X.base X.outer
 Yi:∀b∈X.fs,X.H₀ b=none
structure Inv(X:Cx)(pins:List (Addr×Obj))(σ:List (Option V))(H:Hp)(s:Shared):Prop where
 ok:X.Ok
 os:s.os=X.s₀.os
 bare:AllBare s.gens
 base:Un X.fs X.ex X.H₀ H X.s₀.heap s.heap
 loc:∃m,s.heap.Ns X.env.locals m∧∀(i:Nat)(x:Str)(v:V),X.N[i]?=some x→σ[i]?=some (some v)→EY X.env.scope x→∃u,RelV v u∧Look X.env s.heap m x u
 cell:∀x c,X.env.cells.lookup x=some c→∃v,s.heap.IsCell c v
 free:H X.env.locals=none
 lA:∀x c,X.env.cells.lookup x=some c→H c=none
 pin:∀p∈X.pn++pins,s.heap.get? p.1=some p.2∧H p.1=none∧p.1≠X.env.locals∧p.1∉X.fs∧∀v,p.2.data≠.cell v
 hok:qM X.prog X.w H s.heap
 len:σ.length=X.N.length
section
variable{X:Cx}{pins:List (Addr×Obj)}{σ:List (Option V)}{H H':Hp}{s:Shared}{h':Heap}
theorem Cx.Ok.HD(ok:X.Ok){b:Addr}{o:Obj}(e:X.base.get? b=some o):b∉X.fs:=λhb=>by
 have:=(ok.rC.mem hb).1
 rw[e]at this;cases this
theorem Inv.bs(I:Inv X pins σ H s):∀b o,X.base.get? b=some o→s.heap.get? b=some o∧H b=none:=λb o e=>
 ⟨I.base.keep b o (I.ok.bs b o e).1 (I.ok.bs b o e).2 (I.ok.HD e) (I.ok.Jg b o e),I.base.free b o (I.ok.bs b o e).1 (I.ok.bs b o e).2 (I.ok.Jg b o e)⟩
theorem Inv.bk(I:Inv X pins σ H s):∀b o,X.base.get? b=some o→s.heap.get? b=some o:=λb o e=>(I.bs b o e).1
theorem Inv.mod(I:Inv X pins σ H s):Mod X.K X.mg X.base:=I.ok.mod
theorem Inv.wO(I:Inv X pins σ H s):X.K.In s.heap:=I.ok.mod.GZ.keeps I.bk
theorem Inv.lt(I:Inv X pins σ H s):X.env.locals<s.heap.objs.size:=let ⟨_,hn,_⟩:=I.loc;hn.lt
theorem Inv.sz(I:Inv X pins σ H s):X.s₀.heap.objs.size≤s.heap.objs.size:=D9 I.ok.above (P0 I.lt)
theorem Inv.HF(I:Inv X pins σ H s){a:Addr}(h:s.heap.objs.size≤a):a∉X.fs:=λhb=>by
 obtain⟨_,o,ho,_⟩:=I.ok.rC.mem hb
 exact absurd (B5 (Heap.lt_size ho) (D9 I.sz h)) (F0 _)
theorem Inv.Oe(I:Inv X pins σ H s):∀x c,X.env.cells.lookup x=some c→c≠X.env.locals:=λx c e z=>by
 obtain⟨v,o,ho,hd⟩:=I.cell x c e
 obtain⟨m,⟨o',es,ep,ho',hd',_⟩,_⟩:=I.loc
 rw[z,ho']at ho;cases ho;rw[hd']at hd;cases hd
theorem Inv.rC(I:Inv X pins σ H s):s.heap.FunFrames X.base X.outer:=by
 have all:∀(l:List Env),(∀b∈frs l,b∈X.fs)→X.s₀.heap.FunFrames X.base l→s.heap.FunFrames X.base l:=by
  intro l
  induction l with
  | nil=>intro _ _;trivial
  | cons env r ih=>
   intro hs hl
   obtain⟨hk,⟨L,o,hf,hn,ho,hd⟩,hr⟩:=hl
   have hL:L∈X.fs:=hs L (by unfold frs;rw[L0,hf];exact C6)
   obtain⟨sl,e⟩:=I.base.slot L o ho (I.ok.Yi L hL) hL λz=>I.ok.Om L z hL
   exact⟨hk,⟨L,_,hf,hn,e,hd⟩,ih (λb hb=>hs b (by unfold frs;rw[L0,hf];exact B9 _ hb)) hr⟩
 exact all X.outer (λ_ hb=>hb) I.ok.rC
theorem Inv.stack(I:Inv X pins σ H s):s.heap.FunFrames X.base X.stack:=by
 rcases I.ok.FJ with e | ⟨e,hf⟩
 ·rw[e];exact I.rC
 ·rw[e]
  obtain⟨m,hn,_⟩:=I.loc
  refine .cons (by rw[I.ok.kind];decide) hf hn ?_ I.rC
  exact Heap.get?_none_of_le (D9 I.ok.Tg I.ok.above)
theorem Inv.wQ(I:Inv X pins σ H s):∀b∈frs X.stack,b∈X.env.locals::X.fs:=λb hb=>by
 rcases I.ok.FJ with e | ⟨e,hf⟩
 ·rw[e]at hb;exact B9 _ hb
 ·rw[e]at hb
  unfold frs at hb
  rw[L0,hf]at hb
  exact hb
theorem Inv.Ep(I:Inv X pins σ H s):∀b∈frs X.stack,H b=none:=λb hb=>by
 rcases E4.mp (I.wQ b hb)with e | hb
 ·rw[e];exact I.free
 ·obtain⟨_,o,ho,_⟩:=I.ok.rC.mem hb
  exact I.base.free b o ho (I.ok.Yi b hb) λz=>I.ok.Om b z hb
theorem Inv.step{g':Array GenState}{t':Nat}{d':Drawn}{ch:List Addr}(I:Inv X pins σ H s)
  (hch:∀b∈ch,(b∈X.ex∨X.s₀.heap.objs.size≤b)∧b≠X.env.locals∧(∀x c,X.env.cells.lookup x=some c→c≠b)∧∀p∈X.pn++pins,p.1≠b)
  (keep:∀b o,b≠X.env.locals→b∉X.fs→b∉ch→s.heap.get? b=some o→H b=none→h'.get? b=some o)
  (slot:∀b o,b≠X.env.locals→b∈X.fs→b∉ch→s.heap.get? b=some o→H b=none→∃sl,h'.get? b=some {o with slots:=sl}) (free:∀b o,b∉ch→s.heap.get? b=some o→H b=none→H' b=none)
  (there:∀b o,b∉ch→s.heap.get? b=some o→∃o',h'.get? b=some o')
  (tups:∀b xs,H b=some (.tup xs)→H' b=some (.tup xs)) (wM:∀b o u,H b=some (.oX o u)→H' b=some (.oX o u)) (zP:∀b ps,H b=some (.tbl ps)→∃more,H' b=some (.tbl (ps++more)))
  (ns:∀m,s.heap.Ns X.env.locals m→h'.Ns X.env.locals m) (hok:qM X.prog X.w H' h') (hg:AllBare g') :
  Inv X pins σ H' {s with heap:=h',gens:=g',drawn:=d',toks:=t'}:=by
 have LQ:∀b o,X.s₀.heap.get? b=some o→b≠X.env.locals:=λb o e=>D8 (B5 (Heap.lt_size e) I.ok.above)
 have Yj:∀b o,X.s₀.heap.get? b=some o→b∉X.ex→b∉ch:=λb o e hx hb=>by
  rcases(hch b hb).1 with z | z
  ·exact hx z
  ·exact absurd (B5 (Heap.lt_size e) z) (F0 _)
 have cellK:∀x c,X.env.cells.lookup x=some c→∀v,s.heap.IsCell c v→h'.IsCell c v:=λx c e v ⟨o,ho,hd⟩=>by
  have Yr:c∉ch:=λz=>(hch c z).2.2.1 x c e rfl
  by_cases hc:c∈X.fs
  ·obtain⟨sl,q⟩:=slot c o (I.Oe x c e) hc Yr ho (I.lA x c e)
   exact⟨_,q,hd⟩
  ·exact⟨o,keep c o (I.Oe x c e) hc Yr ho (I.lA x c e),hd⟩
 refine⟨I.ok,I.os,hg,⟨λb o e n hb hx=>?_,λb o e n hb hx=>?_,λb o e n hx=>?_,λb o e hx=>?_,λb xs e=>tups b xs (I.base.tups b xs e),λb o xs e=>wM b o xs (I.base.wM b o xs e),λb ps e=>?_⟩,?_,λx c e=>?_,?_,λx c e=>?_,λp hp=>?_,hok,I.len⟩
 ·exact keep b o (LQ b o e) hb (Yj b o e hx) (I.base.keep b o e n hb hx) (I.base.free b o e n hx)
 ·obtain⟨sl,e1⟩:=I.base.slot b o e n hb hx
  obtain⟨sl',e2⟩:=slot b _ (LQ b o e) hb (Yj b o e hx) e1 (I.base.free b o e n hx)
  exact⟨sl',e2⟩
 ·obtain⟨o',e1⟩:=I.base.there b o e hx
  exact free b o' (Yj b o e hx) e1 (I.base.free b o e n hx)
 ·obtain⟨o',e1⟩:=I.base.there b o e hx
  exact there b o' (Yj b o e hx) e1
 ·obtain⟨m1,e1⟩:=I.base.zP b ps e
  obtain⟨m2,e2⟩:=zP b _ e1
  exact⟨m1++m2,by rw[e2,Array.append_assoc]⟩
 ·obtain⟨m,hn,hl⟩:=I.loc
  refine⟨m,ns m hn,λi x v e1 e2 e3=>?_⟩
  obtain⟨u,r,l⟩:=hl i x v e1 e2 e3
  refine⟨u,r,?_⟩
  rcases l with l | ⟨k,c,e,z⟩
  ·exact .inl l
  ·exact .inr ⟨k,c,e,cellK x c e _ z⟩
 ·obtain⟨v,z⟩:=I.cell x c e
  exact⟨v,cellK x c e v z⟩
 ·obtain⟨m,⟨o,_,_,ho,_⟩,_⟩:=I.loc
  exact free _ o (λz=>(hch _ z).2.1 rfl) ho I.free
 ·obtain⟨v,o,ho,hd⟩:=I.cell x c e
  exact free c o (λz=>(hch c z).2.2.1 x c e rfl) ho (I.lA x c e)
 ·obtain⟨e,n,ne,nf,d⟩:=I.pin p hp
  have Yr:p.1∉ch:=λz=>(hch p.1 z).2.2.2 p hp rfl
  exact⟨keep p.1 p.2 ne nf Yr e n,free p.1 p.2 Yr e n,ne,nf,d⟩
theorem Inv.un{t':Nat}(I:Inv X pins σ H s)(u:Un X.fs [] H H' s.heap h')(hok:qM X.prog X.w H' h'):Inv X pins σ H' {s with heap:=h',toks:=t'}:=by
 obtain⟨m,⟨o,es,ep,ho,r⟩,_⟩:=id I.loc
 obtain⟨sl,hL⟩:=u.any ho I.free (by simp)
 exact I.step (g':=s.gens) (d':=s.drawn) (ch:=[]) (λ_ z=>nomatch z) (λb o _ hb _ e n=>u.keep b o e n hb (by simp)) (λb o _ hb _ e n=>u.slot b o e n hb (by simp)) (λb o _ e n=>u.free b o e n (by simp)) (λb o _ e=>u.there b o e (by simp)) u.tups u.wM u.zP (λm' hm=>by
  obtain⟨o',es',ep',ho',r'⟩:=hm
  rw[ho]at ho';cases ho'
  exact⟨_,es',ep',hL,r'⟩) hok I.bare
theorem Inv.call{g':Array GenState}{t':Nat}{d':Drawn}{ch:List Addr}(I:Inv X pins σ H s)(u:Un (frs X.stack) ch H H' s.heap h')(hok:qM X.prog X.w H' h')(hg:AllBare g')
  (hch:∀b∈ch,(b∈X.ex∨X.s₀.heap.objs.size≤b)∧b≠X.env.locals∧(∀x c,X.env.cells.lookup x=some c→c≠b)∧∀p∈X.pn++pins,p.1≠b) :
  Inv X pins σ H' {s with heap:=h',gens:=g',drawn:=d',toks:=t'}:=by
 obtain⟨m,⟨o,es,ep,ho,r⟩,_⟩:=id I.loc
 obtain⟨sl,hL⟩:=u.any ho I.free λz=>(hch _ z).2.1 rfl
 exact I.step (ch:=ch) hch (λb o hL hb hc e n=>u.keep b o e n (λz=>(E4.mp (I.wQ b z)).elim hL hb) hc) (λb o _ _ hc e n=>u.any e n hc) (λb o hc e n=>u.free b o e n hc) (λb o hc e=>u.there b o e hc) u.tups u.wM u.zP (λm' hm=>by
  obtain⟨o',es',ep',ho',r'⟩:=hm
  rw[ho]at ho';cases ho'
  exact⟨_,es',ep',hL,r'⟩) hok hg
theorem Inv.turned{t':Nat}{it:Addr}(I:Inv X pins σ H s)(k:∀b o,b≠it→s.heap.get? b=some o→h'.get? b=some o)(hn:H it=none)(hL:it≠X.env.locals)
  (h1:it∈X.ex∨X.s₀.heap.objs.size≤it) (h2:∀x c,X.env.cells.lookup x=some c→c≠it) (h3:∀p∈X.pn++pins,p.1≠it):Inv X pins σ H {s with heap:=h',toks:=t'}:=by
 have LR:∀b u,H b=some u→b≠it:=λb u e z=>by rw[z,hn]at e;cases e
 refine I.step (g':=s.gens) (d':=s.drawn) (ch:=[it]) (λb hb=>?_) (λb o _ _ hc e _=>k b o (λz=>hc (by simp[z])) e) (λb o _ _ hc e _=>⟨o.slots,k b o (λz=>hc (by simp[z])) e⟩) (λ_ _ _ _ n=>n)
  (λb o hc e=>⟨o,k b o (λz=>hc (by simp[z])) e⟩) (λ_ _ e=>e) (λ_ _ _ e=>e) (λb ps e=>⟨#[],by rw[e];simp⟩) (λm hm=>?_) (λb u e=>?_) I.bare
 ·have e:b=it:=by simpa using hb
  subst e
  exact⟨h1,hL,h2,h3⟩
 ·obtain⟨o,es,ep,ho,r⟩:=hm
  exact⟨o,es,ep,k _ o (Ne.symm hL) ho,r⟩
 ·refine(I.hok b u e).stay (λc v hc q=>k c v ?_ q) (λ_ q=>q) λ_ _ q=>q
  rcases hc with z | z
  ·rw[z];exact LR b u e
  ·exact LR c _ z
theorem Inv.tok(I:Inv X pins σ H s)(t:Nat):Inv X pins σ H {s with toks:=t}:=I.un (h':=s.heap) (t':=t) Un.refl I.hok
theorem Inv.kept{t':Nat}(I:Inv X pins σ H s)(k:∀b u,s.heap.get? b=some u→h'.get? b=some u):Inv X pins σ H {s with heap:=h',toks:=t'}:=I.un (Un.kept k) (I.hok.kept k)
theorem Inv.laid{a:Addr}{o:HO}{t':Nat}(I:Inv X pins σ H s)(k:∀b u,s.heap.get? b=some u→h'.get? b=some u)(hp:s.heap.objs.size≤a)(new:dO X.prog X.w (upd H a o) h' a o) :
  Inv X pins σ (upd H a o) {s with heap:=h',toks:=t'}:=I.un (Un.laid k hp (I.hok.fresh hp)) (I.hok.laid k hp new)
theorem Inv.write{x e:Addr}{o:HO}{t':Nat}(I:Inv X pins σ H s)(mu:DX (H x))(he:e=x∨H e=some (.own x))(k:∀b u,b≠e→s.heap.get? b=some u→h'.get? b=some u)(heo:∃u,h'.get? e=some u)
  (new:dO X.prog X.w (upd H x o) h' x o):Inv X pins σ (upd H x o) {s with heap:=h',toks:=t'}:=I.un (Un.write mu he k heo) (I.hok.write mu he k heo new)
theorem Inv.weak{σ':List (Option V)}(I:Inv X pins σ H s)(hl:σ'.length=σ.length)(w:∀(i:Nat) v,σ'[i]?=some (some v)→σ[i]?=some (some v)):Inv X pins σ' H s:=
 ⟨I.ok,I.os,I.bare,I.base,let ⟨m,hn,hl'⟩:=I.loc;⟨m,hn,λi x v e1 e2 e3=>hl' i x v e1 (w i v e2) e3⟩,I.cell,I.free,I.lA,I.pin,I.hok,hl.trans I.len⟩
theorem Inv.Er{Th:List (Addr×Obj)}(I:Inv X pins σ H s)(h:∀p∈Th,s.heap.get? p.1=some p.2∧H p.1=none∧p.1≠X.env.locals∧p.1∉X.fs∧∀v,p.2.data≠.cell v):Inv X Th σ H s:=
 ⟨I.ok,I.os,I.bare,I.base,I.loc,I.cell,I.free,I.lA,λp hp=>(F2.mp hp).elim (λz=>I.pin p (K6 _ z)) (h p),I.hok,I.len⟩
theorem zQ{N:List Str}(hN:N.Nodup){i j:Nat}{x:Str}(a:N[i]?=some x)(b:N[j]?=some x):i=j:=by
 obtain⟨h1,e1⟩:=B8.mp a
 obtain⟨h2,e2⟩:=B8.mp b
 exact(List.getElem_inj hN).mp (e1.trans e2.symm)
theorem uX{M:Model}{A:Around}{E:Value→Shared→Prop}{i:Nat}{x:Str}{v:V}{u:Value}{Q:Unit→Shared→Prop}(I:Inv X pins σ H s)(hN:X.N.Nodup)(hi:X.N[i]?=some x)(hx:Loc X.env.scope x)(r:RelV v u)
  (h:∀s',Inv X pins (σ.set i (some v)) H s'→(∃a,Heap.SameBut a s.heap s'.heap∧(a=X.env.locals∨X.env.cells.lookup x=some a))→Q () s') (hf:X.fn x=true∨X.env.scope.names.lookup x=some .local:=by first | exact .inl rfl | exact .inr rfl | assumption):wpAny M A (storeName X.env x u) Q E s:=by
 obtain⟨m,hn,hl⟩:=id I.loc
 have hcls:(X.env.scope.kind==.class||(X.env.scope.kind==.module&&X.env.locals != X.env.globals))=false:=by rw[I.ok.kind];rfl
 have MF:i<σ.length:=by rw[I.len];exact(B8.mp hi).1
 have Oe:=I.Oe
 have tracked:∀{a:Addr} {h':Heap},(∃o,s.heap.get? a=some o∧H a=none)→Heap.SameBut a s.heap h'→qM X.prog X.w H h':=λ{a h'} ha hs b ob e=>by
  obtain⟨_,_,hfree⟩:=ha
  refine(I.hok b ob e).stay (λc w' hc q=>(hs.2 c ?_).trans q) (λ_ q=>q) λ_ _ q=>q
  rintro rfl
  rcases hc with rfl | hc
  ·rw[hfree]at e;cases e
  ·rw[hfree]at hc;cases hc
 rcases hx with hk | hk
 ·refine wpAny_storeName_local hk hn (λh' hn' hs=>?_) hcls
  obtain⟨oL,_,_,hoL,_⟩:=id hn
  refine h _ ⟨I.ok,I.os,I.bare,⟨λb o e n hb hx=>?_,λb o e n hb hx=>?_,I.base.free,λb o e hx=>?_,I.base.tups,I.base.wM,I.base.zP⟩,⟨_,hn',λj y v' e1 e2 e3=>?_⟩,λy c e=>?_,I.free,I.lA,λp hp=>?_,tracked ⟨oL,hoL,I.free⟩ hs,by simpa using I.len⟩ ⟨_,hs,.inl rfl⟩
  ·exact(hs.2 b (D8 (B5 (Heap.lt_size e) I.ok.above))).trans (I.base.keep b o e n hb hx)
  ·obtain⟨sl,e1⟩:=I.base.slot b o e n hb hx
   exact⟨sl,(hs.2 b (D8 (B5 (Heap.lt_size e) I.ok.above))).trans e1⟩
  ·obtain⟨o',e1⟩:=I.base.there b o e hx
   exact⟨o',(hs.2 b (D8 (B5 (Heap.lt_size e) I.ok.above))).trans e1⟩
  ·by_cases hj:j=i
   ·subst hj
    rw[hi]at e1;cases e1
    rw[N8 MF]at e2
    cases e2
    exact⟨u,r,.inl ⟨hk,by simp⟩⟩
   ·rw[K7 (Ne.symm hj)]at e2
    obtain⟨u',r',q⟩:=hl j y v' e1 e2 e3
    refine⟨u',r',?_⟩
    rcases q with ⟨k,e⟩ | ⟨k,c,e,z⟩
    ·refine .inl ⟨k,?_⟩
     have:y≠x:=λe=>hj (zQ hN e1 (e▸hi))
     simp[this,e]
    ·exact .inr ⟨k,c,e,z.sameBut hs (Oe y c e)⟩
  ·obtain⟨w',z⟩:=I.cell y c e
   exact⟨w',z.sameBut hs (Oe y c e)⟩
  ·obtain⟨e,n,ne,nf,d⟩:=I.pin p hp
   exact⟨(hs.2 p.1 ne).trans e,n,ne,nf,d⟩
 ·have hfn:X.fn x=true:=by
   rcases hf with z | z
   ·exact z
   ·rw[z]at hk;cases hk
  obtain⟨c,hc⟩:=I.ok.has x (.inl hk)
  obtain⟨w',z⟩:=I.cell x c hc
  refine wpAny_storeName_cell I.ok.kind hk hc z (λh' hc' hs=>?_)
  obtain⟨oc,hoc,HH⟩:=id z
  refine h {s with heap:=h'} ⟨I.ok,I.os,I.bare,⟨λb o e n hb hx=>?_,λb o e n hb hx=>?_,I.base.free,λb o e hx=>?_,I.base.tups,I.base.wM,I.base.zP⟩,⟨m,hn.sameBut hs (Ne.symm (Oe x c hc)),λj y v' e1 e2 e3=>?_⟩,λy c' e=>?_,I.free,I.lA,λp hp=>?_,tracked ⟨oc,hoc,I.lA x c hc⟩ hs,by simpa using I.len⟩ ⟨c,hs,.inr hc⟩
  ·exact(hs.2 b (D8 (B5 (Heap.lt_size e) (I.ok.cab x c hfn hc)))).trans (I.base.keep b o e n hb hx)
  ·obtain⟨sl,e1⟩:=I.base.slot b o e n hb hx
   exact⟨sl,(hs.2 b (D8 (B5 (Heap.lt_size e) (I.ok.cab x c hfn hc)))).trans e1⟩
  ·obtain⟨o',e1⟩:=I.base.there b o e hx
   exact⟨o',(hs.2 b (D8 (B5 (Heap.lt_size e) (I.ok.cab x c hfn hc)))).trans e1⟩
  ·by_cases hj:j=i
   ·subst hj
    rw[hi]at e1;cases e1
    rw[N8 MF]at e2
    cases e2
    exact⟨u,r,.inr ⟨.inl hk,c,hc,hc'⟩⟩
   ·rw[K7 (Ne.symm hj)]at e2
    obtain⟨u',r',q⟩:=hl j y v' e1 e2 e3
    refine⟨u',r',?_⟩
    rcases q with q | ⟨k,c',e,z'⟩
    ·exact .inl q
    ·refine .inr ⟨k,c',e,z'.sameBut hs ?_⟩
     rintro rfl
     exact hj (zQ hN e1 (I.ok.inj _ _ _ e hc▸hi))
  ·by_cases hcc:c'=c
   ·subst hcc;exact⟨_,hc'⟩
   ·obtain⟨w2,z2⟩:=I.cell y c' e
    exact⟨w2,z2.sameBut hs hcc⟩
  ·obtain⟨e,n,ne,nf,d⟩:=I.pin p hp
   refine⟨(hs.2 p.1 ?_).trans e,n,ne,nf,d⟩
   intro q
   rw[q,hoc]at e
   have q':oc=p.2:=E1 e
   exact d w' (by rw[←q'];exact HH)
theorem zR{M:Model}{A:Around}{E:Value→Shared→Prop}{i:Nat}{x:Str}{v:V}{u:Value}{Q:Unit→Shared→Prop}(I:Inv X pins σ H s)(hN:X.N.Nodup)(hi:X.N[i]?=some x)(hx:Loc X.env.scope x)(r:RelV v u)
  (h:∀s',Inv X pins (σ.set i (some v)) H s'→Q () s') (hf:X.fn x=true∨X.env.scope.names.lookup x=some .local:=by first | exact .inl rfl | exact .inr rfl | assumption):wpAny M A (storeName X.env x u) Q E s:=
 uX I hN hi hx r (λs' I' _=>h s' I') hf
theorem Inv.call'{s':Shared}{ch:List Addr}(I:Inv X pins σ H s)(ho:s'.os=s.os)(u:Un (frs X.stack) ch H H' s.heap s'.heap)(hok:qM X.prog X.w H' s'.heap)(hg:AllBare s'.gens)
  (hch:∀b∈ch,(b∈X.ex∨X.s₀.heap.objs.size≤b)∧b≠X.env.locals∧(∀x c,X.env.cells.lookup x=some c→c≠b)∧∀p∈X.pn++pins,p.1≠b):Inv X pins σ H' s':=by
 obtain⟨h',g',d',t',o'⟩:=s'
 have e:o'=s.os:=ho
 subst e
 exact I.call (g':=g') (t':=t') (d':=d') u hok hg hch
end
abbrev XK:=Value→Option Addr→Hp→Prop
abbrev St:=List (Option V)
abbrev VK:=V→Hp→Prop
abbrev TE:=St→Hp→VK→Prop
abbrev TT:=St→Hp→(Bool→Hp→Prop)→Prop
abbrev TA:=St→Hp→(List V→Hp→Prop)→Prop
structure Ends where
 nx:St→Hp→Prop
 rt:VK
 bk:St→Hp→Prop:=λ_ _=>False
 ct:St→Hp→Prop:=λ_ _=>False
abbrev TS:=Ends→St→Hp→Prop
def EP(X:Cx)(pins:List (Addr×Obj))(σ:St)(Q:VK)(u:Value)(s':Shared):Prop:=∃v H',Inv X pins σ H' s'∧RelV v u∧Q v H'
def TP(X:Cx)(pins:List (Addr×Obj))(σ:St)(Q:Bool→Hp→Prop)(b:Bool)(s':Shared):Prop:=∃H',Inv X pins σ H' s'∧Q b H'
def AP(X:Cx)(pins:List (Addr×Obj))(σ:St)(Q:List V→Hp→Prop)(us:List Value)(s':Shared):Prop:=∃vs H',Inv X pins σ H' s'∧Vals vs us∧Q vs H'
def SP(X:Cx)(pins:List (Addr×Obj))(D:Ends)(f:Flow)(s':Shared):Prop:=
 match f with
 | .next=>∃σ' H',Inv X pins σ' H' s'∧D.nx σ' H'
 | .brk=>∃σ' H',Inv X pins σ' H' s'∧D.bk σ' H'
 | .cont=>∃σ' H',Inv X pins σ' H' s'∧D.ct σ' H'
 | .ret u=>∃v σ' H',Inv X pins σ' H' s'∧RelV v u∧D.rt v H'
def PE(X:Cx)(e:Expr)(t:TE):Prop:=
 ∀(pins:List (Addr×Obj))(s:Shared)(σ:St)(H:Hp)(Q:VK),Inv X pins σ H s→t σ H Q→wpAny (model X.prog X.w) X.A (eval e X.env) (EP X pins σ Q) X.xe s
def PT(X:Cx)(e:Expr)(t:TT):Prop:=
 ∀(pins:List (Addr×Obj))(s:Shared)(σ:St)(H:Hp)(Q:Bool→Hp→Prop),Inv X pins σ H s→t σ H Q→wpAny (model X.prog X.w) X.A (isTrue e X.env (eval e X.env)) (TP X pins σ Q) X.xe s
def PW(X:Cx)(e:Expr)(t:TT):Prop:=
 ∀(whole:Sem Value)(pins:List (Addr×Obj))(s:Shared)(σ:St)(H:Hp)(Q:Bool→Hp→Prop),Inv X pins σ H s→t σ H Q→wpAny (model X.prog X.w) X.A (isTrue e X.env whole) (TP X pins σ Q) X.xe s
theorem PW.pt{X:Cx}{e:Expr}{t:TT}(h:PW X e t):PT X e t:=h _
def PA(X:Cx)(es:List Expr)(t:TA):Prop:=
 ∀(pos:Pos)(pins:List (Addr×Obj))(s:Shared)(σ:St)(H:Hp)(Q:List V→Hp→Prop),Inv X pins σ H s→t σ H Q→wpAny (model X.prog X.w) X.A (spliced (backTo pos (starEach es X.env))) (AP X pins σ Q) X.xe s
def PS(X:Cx)(st:Stmt)(t:TS):Prop:=
 ∀(pins:List (Addr×Obj))(s:Shared)(σ:St)(H:Hp)(D:Ends),Inv X pins σ H s→t D σ H→wpAny (model X.prog X.w) X.A (exec st X.env) (SP X pins D) X.xe s
def Es(X:Cx)(st:List Stmt)(t:TS):Prop:=
 ∀(pins:List (Addr×Obj))(s:Shared)(σ:St)(H:Hp)(D:Ends),Inv X pins σ H s→t D σ H→wpAny (model X.prog X.w) X.A (execs st X.env) (SP X pins D) X.xe s
theorem dW{α:Type}{t:Sem α}{Q Q':α→Shared→Prop}{M:Model}{A:Around}{E:Value→Shared→Prop}{s:Shared}(h:wpAny M A t Q E s)(hQ:∀a s,Q a s→Q' a s):wpAny M A t Q' E s:=wpAny_mono h hQ λ_ _ x=>x
end L2
namespace L2
open PySem PySem.Spec PyProof.Rows
section
variable{X:Cx}
def jA(i:Nat):TE:=λσ H Q=>∃v,σ[i]?=some (some v)∧Q v H
def tC(v:V):TE:=λ_ H Q=>Q v H
theorem Uw{i:Nat}{x:Str}{pos:Pos}(hN:X.N[i]?=some x)(hv:EY X.env.scope x)(hd:(x==("__debug__" : Str))=false:=by decide) (hcd:(x==("__classdict__" : Str))=false:=by decide):PE X (.Name x pos) (jA i):=by
  intro pins s σ H Q I h
  obtain⟨v,e,h⟩:=h
  obtain⟨m,hn,hl⟩:=I.loc
  obtain⟨u,r,l⟩:=hl i x v hN e hv
  have fin:EP X pins σ Q u s:=⟨v,H,I,r,h⟩
  rcases l with ⟨hk,hm⟩ | ⟨hk,c,hc,hcell⟩
  · exact wpAny_Name (wpAny_loadName_local I.ok.kind hk hn hm fin) hd
  · rcases hk with hk | hk
    · exact wpAny_Name (wpAny_loadName_cell I.ok.kind hk hc hcell fin) hd
    · exact wpAny_Name (wpAny_loadName_free I.ok.kind hk hc hcell fin hcd) hd
theorem Ux{i j pos}:PE X (.Constant (.int i) j pos) (tC (.int i)):=λ_ _ _ H _ I h=>wpAny_Constant_int ⟨.int i,H,I.tok _,⟨_,rfl⟩,h⟩
theorem Ys{b j pos}:PE X (.Constant (.bool b) j pos) (tC (.bl b)):=λ_ _ _ H _ I h=>Constant_bool ⟨.bl b,H,I,rfl,h⟩
theorem Uy{x j pos}:PE X (.Constant (.str x) j pos) (tC (.str x)):=λ_ _ _ H _ I h=>Calls.Constant_str ⟨.str x,H,I.tok _,⟨_,rfl⟩,h⟩
def Gl(X:Cx)(x:Str):Prop:=X.env.kindOf x=some .globalImplicit
theorem Et{E:Value→Shared→Prop}{pins:List (Addr×Obj)}{s:Shared}{σ:St}{H:Hp}{x:Str}{u:Value}{pos:Pos}{Q:Value→Shared→Prop}(I:Inv X pins σ H s)(hg:Gl X x)(hm:X.mg x=some u)(h:Q u s)
  (hd:(x==("__debug__" : Str))=false:=by decide):wpAny (model X.prog X.w) X.A (eval (.Name x pos) X.env) Q E s:=
 Calls.Name_function_global I.ok.kind hg (Calls.loadGlobal_global (by rw[I.ok.glob];exact I.mod.glob.keeps I.bk) hm h) hd
theorem wR{E:Value→Shared→Prop}{pins:List (Addr×Obj)}{s:Shared}{σ:St}{H:Hp}{x:Str}{u:Value}{pos:Pos}{Q:Value→Shared→Prop}(I:Inv X pins σ H s)(hg:Gl X x)(hm:X.mg x=none)(hv:bootBuiltins x=some u)(h:Q u s)
  (hn:x ≠ "__name__" := by decide) (hd:(x==("__debug__" : Str))=false:=by decide):wpAny (model X.prog X.w) X.A (eval (.Name x pos) X.env) Q E s:=by
 obtain⟨mb,h1,h2⟩:=I.mod.blt
 exact Calls.Name_function_global I.ok.kind hg (Calls.loadGlobal_builtin (by rw[I.ok.glob];exact I.mod.glob.keeps I.bk) hm (by rw[I.ok.blt];exact h1.keeps I.bk) ((h2 x hn).trans hv) h) hd
theorem wU{x:Str}{v:V}{u:Value}{pos:Pos}(hg:Gl X x)(hm:X.mg x=some u)(r:RelV v u)(hd:(x==("__debug__" : Str))=false:=by decide):PE X (.Name x pos) (tC v):=
 λ_ _ _ H _ I h=>Et I hg hm ⟨v,H,I,r,h⟩ hd
theorem fH{x:Str}{v:V}{u:Value}{pos:Pos}(hg:Gl X x)(hm:X.mg x=none)(hv:bootBuiltins x=some u)(r:RelV v u)(hn:x ≠ "__name__" := by decide) (hd:(x==("__debug__" : Str))=false:=by decide):PE X (.Name x pos) (tC v):=
 λ_ _ _ H _ I h=>wR I hg hm hv ⟨v,H,I,r,h⟩ hn hd
variable{a b:Expr}{ta tb:TE}{pos:Pos}
def tB(t:TE):TT:=λσ H Q=>t σ H λx H1=>∃c,x=.bl c∧Q c H1
theorem Uz{e:Expr}{t:TE}(h:PE X e t)(he:∀whole,isTrue e X.env whole=(do let v ←whole;standAt e.pos;holding [v] (truthy v)):=by intro _;rfl):PT X e (tB t):=by
 intro pins s σ H Q I hw
 refine isTrue_plain (dW (h pins s σ H _ I hw) λv s1 ⟨x,H1,I1,r1,q1⟩=>?_) (he _)
 obtain⟨d,rfl,q⟩:=q1
 cases r1
 exact wpAny_truthy_bool ⟨H1,I1,q⟩
variable{tA MJ:TT}{rest:List Expr}
def HJ(t u:TT):TT:=λσ H Q=>t σ H λc H1=>if c=true then Q true H1 else u σ H1 Q
def Va(t:TT):TT:=λσ H Q=>t σ H λc H1=>Q (!c) H1
theorem Vb(ha:PT X a tA):PW X (.BoolOp .Or [a] pos) tA:=by
 intro wh pins s σ H Q I h
 refine isTrue_or (dW (ha pins s σ H Q I h) λc s1 e=>?_)
 cases c with
 | false=>exact isTrue_or_nil e
 | true=>exact e
theorem Yt(ha:PT X a tA)(hb:PW X (.BoolOp .Or (b::rest) pos) MJ):PW X (.BoolOp .Or (a::b::rest) pos) (HJ tA MJ):=by
 intro wh pins s σ H Q I h
 refine isTrue_or (dW (ha pins s σ H _ I h) λc s1 ⟨H1,I1,q1⟩=>?_)
 cases c with
 | true=>exact⟨H1,I1,q1⟩
 | false=>exact hb wh pins s1 σ H1 Q I1 q1
theorem Vc(ha:PT X a tA):PT X (.UnaryOp .Not a pos) (Va tA):=by
 intro pins s σ H Q I h
 exact isTrue_not (ha pins s σ H (λc H1=>Q (!c) H1) I h)
def Ti(ta tb:TE):TE:=λσ H Q=>ta σ H λx H1=>∃c,x=.bl c∧if c=true then tb σ H1 Q else Q (.bl false) H1
def Yu(ta tb:TE):TE:=λσ H Q=>ta σ H λx H1=>∃c,x=.bl c∧if c=true then Q (.bl true) H1 else tb σ H1 Q
def Tj(ta:TE):TE:=λσ H Q=>ta σ H λx H1=>∃c,x=.bl c∧Q (.bl (!c)) H1
theorem Vd{op}{t:TE}(h:PE X a t):PE X (.BoolOp op [a] pos) t:=λpins s σ H Q I hw=>BoolOp_one (h pins s σ H Q I hw)
theorem Ve(ha:PE X a ta)(hb:PE X (.BoolOp .And (b::rest) pos) tb):PE X (.BoolOp .And (a::b::rest) pos) (Ti ta tb):=by
 intro pins s σ H Q I h
 refine BoolOp_and (dW (ha pins s σ H _ I h) λv s1 ⟨x,H1,I1,r1,q1⟩=>?_)
 obtain⟨c,rfl,q1⟩:=q1
 cases r1
 refine wpAny_truthy_bool ?_
 cases c with
 | true=>exact hb pins s1 σ H1 Q I1 q1
 | false=>exact⟨.bl false,H1,I1,rfl,q1⟩
theorem Yv(ha:PE X a ta)(hb:PE X (.BoolOp .Or (b::rest) pos) tb):PE X (.BoolOp .Or (a::b::rest) pos) (Yu ta tb):=by
 intro pins s σ H Q I h
 refine BoolOp_or (dW (ha pins s σ H _ I h) λv s1 ⟨x,H1,I1,r1,q1⟩=>?_)
 obtain⟨c,rfl,q1⟩:=q1
 cases r1
 refine wpAny_truthy_bool ?_
 cases c with
 | false=>exact hb pins s1 σ H1 Q I1 q1
 | true=>exact⟨.bl true,H1,I1,rfl,q1⟩
theorem Vf(ha:PE X a ta):PE X (.UnaryOp .Not a pos) (Tj ta):=by
 intro pins s σ H Q I h
 refine UnaryOp_ (dW (ha pins s σ H _ I h) λv s1 ⟨x,H1,I1,r1,q1⟩=>?_)
 obtain⟨c,rfl,q1⟩:=q1
 cases r1
 exact not_of (wpAny_truthy_bool ⟨.bl (!c),H1,I1,rfl,q1⟩)
def MK(t:TT)(ta tb:TE):TE:=λσ H Q=>t σ H λc H1=>if c=true then ta σ H1 Q else tb σ H1 Q
theorem Jh{c:Expr}(hc:PT X c tA)(ha:PE X a ta)(hb:PE X b tb):PE X (.IfExp c a b pos) (MK tA ta tb):=by
 intro pins s σ H Q I h
 refine wpAny_IfExp (dW (hc pins s σ H _ I h) λd s1 ⟨H1,I1,q1⟩=>?_)
 cases d with
 | true=>exact ha pins s1 σ H1 Q I1 q1
 | false=>exact hb pins s1 σ H1 Q I1 q1
end
end L2
namespace L2
open PySem PySem.Spec PyProof.Rows
def iH(K:aA)(H:Hp)(a:Addr)(xs:List V):Prop:=
 Rd H a (.lst xs) ∨
  ∃(o:Obj)(its:Array Value)(n:Nat),K.lookup a=some o∧o.cls=.type "list" ∧ o.dict=none∧o.data=.seq its n∧its.size≤sizeLine∧Vals xs its.toList
def lB(K:aA)(H:Hp)(a:Addr)(xs:List V):Prop:=
 Rd H a (.tup xs) ∨
  ∃(o:Obj)(its:Array Value)(n:Nat),K.lookup a=some o∧o.cls=.type "tuple" ∧ o.data=.seq its n∧its.size≤sizeLine∧Vals xs its.toList
def HN:Value→Option V
 | .none=>some .non
 | .bool b=>some (.bl b)
 | .int i _=>some (.int i)
 | .str x _=>some (.str x)
 | .bytes b _=>some (.byt b)
 | .float b _=>some (.flt b)
 | .ref a=>some (.ref a)
 | .type n=>some (.ty n)
 | _=>none
theorem RelV.abs{x:V}{u:Value}(r:RelV x u):HN u=some x:=by
 cases x with
 | non=>cases r;rfl
 | bl _=>cases r;rfl
 | int _=>obtain⟨t,rfl⟩:=r;rfl
 | str _=>obtain⟨t,rfl⟩:=r;rfl
 | byt _=>obtain⟨t,rfl⟩:=r;rfl
 | flt _=>obtain⟨t,rfl⟩:=r;rfl
 | ref _=>cases r;rfl
 | ty _=>cases r;rfl
theorem RelV.inj{x y:V}{u:Value}(r:RelV x u)(q:RelV y u):x=y:=E1 (r.abs.symm.trans q.abs)
theorem Vals.inj:∀{xs ys:List V} {us:List Value},Vals xs us→Vals ys us→xs=ys
 | _,_,_,.nil,.nil=>rfl
 | _,_,_,.cons r t,.cons r' t'=>by rw[r.inj r',Vals.inj t t']
section
variable{X:Cx}{pins:List (Addr×Obj)}{σ:St}{H:Hp}{s:Shared}{a:Addr}{xs ys:List V}
theorem iH.of{K:aA}(h:H a=some (.lst xs)):iH K H a xs:=.inl (.inl h)
theorem lB.of{K:aA}(h:H a=some (.tup xs)):lB K H a xs:=.inl (.inl h)
theorem Inv.list(I:Inv X pins σ H s)(h:iH X.K H a xs):∃its:List Value,Vals xs its∧PlainL s.heap a its.toArray∧xs.length≤sizeLine:=by
 rcases h with h | ⟨o,its,n,hk,hc,hd,hs,hz,r⟩
 ·obtain⟨z,its,n,r,e⟩:=h.ok I.hok
  exact⟨its,r,⟨_,n,e,rfl,rfl,rfl⟩,z⟩
 ·refine⟨its.toList,r,⟨o,n,I.wO a o hk,hc,hd,by simpa using hs⟩,?_⟩
  have e:=r.length
  simp only[G8]at e
  omega
theorem Inv.tuple(I:Inv X pins σ H s)(h:lB X.K H a xs):∃its:List Value,Vals xs its∧IsTup s.heap a its.toArray∧xs.length≤sizeLine:=by
 rcases h with h | ⟨o,its,n,hk,hc,hs,hz,r⟩
 ·obtain⟨z,its,r,p⟩:=h.ok I.hok
  exact⟨its,r,p,z⟩
 ·refine⟨its.toList,r,⟨o,I.wO a o hk,hc,n,by simpa using hs⟩,?_⟩
  have e:=r.length
  simp only[G8]at e
  omega
theorem Inv.zT(I:Inv X pins σ H s)(h:iH X.K H a xs)(h':iH X.K H a ys):xs=ys:=by
 obtain⟨its,r,⟨o,n,e,_,_,d⟩,_⟩:=I.list h
 obtain⟨its',r',⟨o',n',e',_,_,d'⟩,_⟩:=I.list h'
 rw[e]at e';cases e'
 rw[d]at d'
 injection d' with d1 _
 have:its=its':=by simpa using congrArg R9 d1
 subst this
 exact r.inj r'
theorem Inv.uY(I:Inv X pins σ H s)(h:lB X.K H a xs)(h':lB X.K H a ys):xs=ys:=by
 obtain⟨its,r,⟨o,e,_,n,d⟩,_⟩:=I.tuple h
 obtain⟨its',r',⟨o',e',_,n',d'⟩,_⟩:=I.tuple h'
 rw[e]at e';cases e'
 rw[d]at d'
 injection d' with d1 _
 have:its=its':=by simpa using congrArg R9 d1
 subst this
 exact r.inj r'
end
abbrev Cx.wish(X:Cx)(E:Value→Shared→Prop):Cx:={X with xe:=E}
abbrev Cx.Vg(X:Cx):Cx:=X.wish λ_ _=>False
theorem Cx.Ok.wish{X:Cx}(ok:X.Ok)(E:Value→Shared→Prop):(X.wish E).Ok:=
 ⟨ok.mod,ok.kind,ok.glob,ok.blt,ok.above,ok.inj,ok.has,ok.cab,ok.hd,ok.frames,ok.FJ,ok.LK,ok.bs,ok.Tg,ok.Jg,ok.Om,ok.rC,ok.Yi⟩
theorem Cx.Ok.lC{X:Cx}{E:Value→Shared→Prop}(ok:(X.wish E).Ok):X.Ok:=
 ⟨ok.mod,ok.kind,ok.glob,ok.blt,ok.above,ok.inj,ok.has,ok.cab,ok.hd,ok.frames,ok.FJ,ok.LK,ok.bs,ok.Tg,ok.Jg,ok.Om,ok.rC,ok.Yi⟩
section
variable{X:Cx}{pins:List (Addr×Obj)}{σ:St}{H:Hp}{s:Shared}{E:Value→Shared→Prop}
theorem Inv.wish(I:Inv X pins σ H s)(E:Value→Shared→Prop):Inv (X.wish E) pins σ H s:=⟨I.ok.wish E,I.os,I.bare,I.base,I.loc,I.cell,I.free,I.lA,I.pin,I.hok,I.len⟩
theorem Inv.lC(I:Inv (X.wish E) pins σ H s):Inv X pins σ H s:=⟨I.ok.lC,I.os,I.bare,I.base,I.loc,I.cell,I.free,I.lA,I.pin,I.hok,I.len⟩
theorem SP.lC{D:Ends}{f:Flow}{s':Shared}(h:SP (X.wish E) pins D f s'):SP X pins D f s':=by
 cases f with
 | next=>obtain⟨σ',H',I,q⟩:=h;exact⟨σ',H',I.lC,q⟩
 | brk=>obtain⟨σ',H',I,q⟩:=h;exact⟨σ',H',I.lC,q⟩
 | cont=>obtain⟨σ',H',I,q⟩:=h;exact⟨σ',H',I.lC,q⟩
 | ret u=>obtain⟨v,σ',H',I,r,q⟩:=h;exact⟨v,σ',H',I.lC,r,q⟩
theorem Es.Vg{st:List Stmt}{t:TS}(h:Es X.Vg st t):Es X st t:=λpins s σ H D I hw=>
 wpAny_mono (h pins s σ H D (I.wish _) hw) (λ_ _ q=>q.lC) λ_ _ z=>False.elim z
end
section
variable{X:Cx}{st:Stmt}{rest:List Stmt}{t u:TS}{e:Expr}{te:TE}{pos:Pos}
def Tn:TS:=λD σ H=>D.nx σ H
def Vh(t u:TS):TS:=λD σ H=>t {D with nx:=u D} σ H
theorem Oo:Es X [] Tn:=λ_ _ σ H _ I h=>wpAny_execs_nil ⟨σ,H,I,h⟩
theorem Ji(h1:PS X st t)(h2:Es X rest u):Es X (st::rest) (Vh t u):=by
 intro pins s σ H D I h
 refine wpAny_execs_cons (dW (h1 pins s σ H {D with nx:=u D} I h) λf s1 q=>?_)
 cases f with
 | next=>
  obtain⟨σ',H',I',q⟩:=q
  exact h2 pins s1 σ' H' D I' q
 | ret v=>exact q
 | brk=>exact q
 | cont=>exact q
theorem Oq(h1:PS X st t):Es X [st] t:=by
 intro pins s σ H D I h
 refine wpAny_execs_cons (dW (h1 pins s σ H D I h) λf s1 q=>?_)
 cases f with
 | next=>exact wpAny_execs_nil q
 | ret v=>exact q
 | brk=>exact q
 | cont=>exact q
theorem Inv.quiet{pins:List (Addr×Obj)}{σ:St}{H:Hp}{s:Shared}(I:Inv X pins σ H s):interactive X.env=false:=by simp[interactive,I.ok.kind]
def mQ(te:TE):TS:=λD σ H=>te σ H λ_ H1=>D.nx σ H1
theorem lZ(he:PE X e te)(hs:swapsWith e none pos.line X.env=pure false:=by rfl):PS X (.Expr e pos) (mQ te):=by
 intro pins s σ H D I h
 exact wpAny_Expr_any (dW (he pins s σ H _ I h) λv s1 ⟨x,H1,I1,r1,q1⟩=>⟨σ,H1,I1,q1⟩) I.quiet hs
def Vi(te:TE):TS:=λD σ H=>te σ H D.rt
theorem Jj(he:PE X e te):PS X (.Return (some e) pos) (Vi te):=by
 intro pins s σ H D I h
 exact wpAny_Return_some (dW (he pins s σ H _ I h) λv s1 ⟨x,H1,I1,r1,q1⟩=>⟨x,σ,H1,I1,r1,q1⟩)
def Yw(c:TT)(t u:TS):TS:=λD σ H=>c σ H λb H1=>if b=true then t D σ H1 else u D σ H1
theorem Yx{c:Expr}{a b:List Stmt}{tc:TT}(hc:PT X c tc)(ha:Es X a t)(hb:Es X b u):PS X (.If c a b pos) (Yw tc t u):=by
 intro pins s σ H D I h
 refine wpAny_If (dW (hc pins s σ H _ I h) λd s1 ⟨H1,I1,q1⟩=>?_)
 cases d with
 | true=>exact ha pins s1 σ H1 D I1 q1
 | false=>exact hb pins s1 σ H1 D I1 q1
def Jk:TS:=λ_ _ _=>False
theorem Jl:PS X st Jk:=λ_ _ _ _ _ _ h=>h.elim
end
abbrev TG:=V→St→Hp→(St→Hp→Prop)→Prop
def PG(X:Cx)(target:Expr)(t:TG):Prop:=
 ∀(pins:List (Addr×Obj))(s:Shared)(σ:St)(H:Hp)(v:V)(u:Value)(Q:St→Hp→Prop),Inv X pins σ H s→RelV v u→t v σ H Q →
  wpAny (model X.prog X.w) X.A (assign target X.env u) (λ_ s'=>∃σ' H',Inv X pins σ' H' s'∧Q σ' H') X.xe s
section
variable{X:Cx}{pos:Pos}
def dR(i:Nat):TG:=λv σ H Q=>Q (σ.set i (some v)) H
theorem gQ{i:Nat}{x:Str}(hN:X.N.Nodup)(hi:X.N[i]?=some x)(hx:Loc X.env.scope x)(hf:X.fn x=true∨X.env.scope.names.lookup x=some .local:=by first | exact .inl rfl | exact .inr rfl | assumption):PG X (.Name x pos) (dR i):=by
 intro pins s σ H v u Q I r h
 exact wpAny_assign_Name (zR I hN hi hx r (λs' I'=>⟨_,H,I',h⟩) hf)
def Gy(te:TE)(g:TG):TS:=λD σ H=>te σ H λx H1=>g x σ H1 D.nx
theorem bO{i:Nat}{x:Str}{e:Expr}{te:TE}{pos':Pos}(hN:X.N.Nodup)(hi:X.N[i]?=some x)(hx:Loc X.env.scope x)(he:PE X e te)(hs:swapsWith e (some (.Name x pos')) pos.line X.env=pure false:=by rfl)(hf:X.fn x=true∨X.env.scope.names.lookup x=some .local:=by first | exact .inl rfl | exact .inr rfl | assumption) :
  PS X (.Assign [.Name x pos'] e pos) (Gy te (dR i)):=by
 intro pins s σ H D I h
 refine wpAny_Assign_Name (dW (he pins s σ H _ I h) λv s1 ⟨y,H1,I1,r1,q1⟩=>?_) hs
 exact zR I1 hN hi hx r1 (λs2 I2=>⟨_,H1,I2,q1⟩) hf
end
section
variable{X:Cx}{pos:Pos}
end
structure It where
 go:Nat→Hp→Prop
 Yy:Nat→Hp→V→Hp→Prop
 stop:Nat→Hp→Prop
def uG(X:Cx)(pins:List (Addr×Obj))(H:Hp)(b:Addr):Prop:=
 H b=none∧b≠X.env.locals∧b∉X.fs∧(b∈X.ex∨X.s₀.heap.objs.size≤b)∧(∀x c,X.env.cells.lookup x=some c→c≠b)∧∀p∈X.pn++pins,p.1≠b
theorem Inv.Ot{X:Cx}{pins:List (Addr×Obj)}{σ:St}{H H':Hp}{s:Shared}{b:Addr}(I:Inv X pins σ H s)(hb:s.heap.objs.size≤b)(hn:H' b=none):uG X pins H' b:=by
 refine⟨hn,J7 (B5 I.lt hb),I.HF hb,.inr (D9 I.sz hb),λx c e z=>?_,λp hp z=>?_⟩
 ·obtain⟨v,q⟩:=I.cell x c e
  exact absurd (B5 q.lt (by rw[z];exact hb)) (F0 _)
 ·exact absurd (B5 (Heap.lt_size (I.pin p hp).1) (by rw[z];exact hb)) (F0 _)
structure Turn(P:Program)(w:World)(K:aA)(tg:Expr)(J:It)(fp:List Addr)(it:Addr)(tn:Nat→Heap→Prop):Prop where
 mem:it∈fp
 obj:∀i h,tn i h→∀b∈fp,∃o,h.get? b=some o∧∀v,o.data≠.cell v
 keep:∀i h h',tn i h→(∀b∈fp,∀o,h.get? b=some o→h'.get? b=some o)→tn i h'
 item:∀(X:Cx),X.prog=P→X.w=w→X.K=K→X.calm=true→∀(i:Nat)(pins:List (Addr×Obj))(s:Shared)(σ:St)(H:Hp)(E:Value→Shared→Prop),Inv X pins σ H s→(∀b∈fp,uG X pins H b)→tn i s.heap→J.go i H →
  wpAny (model P w) X.A (pyNext (.ref it)) (λr s1=>∃u,r=some u ∧
   wpAny (model P w) X.A (letOwnedTupleGo tg (.ref it) u) (λ_ s2=>∃x H',Inv X pins σ H' s2∧RelV x u∧J.Yy i H x H'∧tn (i+1) s2.heap∧∀b∈fp,H' b=none) E s1) E s
 done:∀(X:Cx),X.prog=P→X.w=w→X.K=K→X.calm=true→∀(i:Nat)(pins:List (Addr×Obj))(s:Shared)(σ:St)(H:Hp)(E:Value→Shared→Prop),Inv X pins σ H s→(∀b∈fp,uG X pins H b)→tn i s.heap→J.stop i H →
  wpAny (model P w) X.A (pyNext (.ref it)) (λr s1=>r=none∧Inv X pins σ H s1) E s
 self:∀(A:Around)(i:Nat)(s:Shared)(Q:Value→Shared→Prop)(E:Value→Shared→Prop),tn i s.heap→Q (.ref it) s→wpAny (model P w) A (pyIter (.ref it)) Q E s
abbrev TI:=St→Hp→(It→Hp→Prop)→Prop
def PIE(X:Cx)(pins:List (Addr×Obj))(σ:St)(tg:Expr)(R:It→Hp→Prop)(itv:Value)(s2:Shared):Prop:=
 ∃(it:Addr)(fp:List Addr)(tn:Nat→Heap→Prop)(J:It)(H':Hp),itv=.ref it∧Inv X pins σ H' s2∧Turn X.prog X.w X.K tg J fp it tn∧tn 0 s2.heap∧(∀b∈fp,uG X pins H' b)∧R J H'
def PI(X:Cx)(tg iter:Expr)(wi:TI):Prop:=
 ∀(pins:List (Addr×Obj))(s:Shared)(σ:St)(H:Hp)(R:It→Hp→Prop),Inv X pins σ H s→wi σ H R →
  wpAny (model X.prog X.w) X.A (eval iter X.env) (λv s1=>wpAny (model X.prog X.w) X.A (pyIter v) (PIE X pins σ tg R) X.xe s1) X.xe s
theorem Eu{M:Model}{A:Around}{E:Value→Shared→Prop}{s:Shared}{tg:Expr}{it:Addr}{u:Value}{o:Obj}{n:String}{vs:Array Value}{Q:Unit→Shared→Prop}(ho:s.heap.get? it=some o)(hc:o.cls=.type n)(hd:o.data=.fields vs)
    (hn:["enumerate", "zip", "dict_itemiterator", "dict_reverseitemiterator", "odict_iterator", "itertools.zip_longest", "itertools.pairwise"].contains n=false) (hQ:Q () s):wpAny M A (letOwnedTupleGo tg (.ref it) u) Q E s:=by
  unfold letOwnedTupleGo
  cases tg<;>first
    | exact wpAny_pure hQ
    | (cases u<;>first
        | exact wpAny_pure hQ
        | (refine wpAny_bind (wpAny_load ho ?_)
           rw[hc,hd]
           show wpAny M A (if(["enumerate", "zip", "dict_itemiterator", "dict_reverseitemiterator", "odict_iterator", "itertools.zip_longest", "itertools.pairwise"].contains n&&vs[0]?==some (rawInt _))=true then _ else _) Q E s
           rw[if_neg (by intro h;rw[hn,Bool.false_and]at h;cases h)]
           exact wpAny_pure hQ))
def HQ(K:aA)(a:Addr):It:=
 ⟨λi H=>∃xs x,iH K H a xs∧xs[i]?=some x,λi H x H'=>H'=H∧∀xs,iH K H a xs→xs[i]?=some x,λi H=>∃xs,iH K H a xs∧xs.length≤i⟩
def HR(K:aA)(a:Addr):It:=
 ⟨λi H=>∃xs x,lB K H a xs∧xs[i]?=some x,λi H x H'=>H'=H∧∀xs,lB K H a xs→xs[i]?=some x,λi H=>∃xs,lB K H a xs∧xs.length≤i⟩
def FN(lo:Int)(n:Nat):It:=⟨λi _=>i<n,λi H x H'=>H'=H∧x=.int (lo+i),λi _=>n≤i⟩
theorem Gz{P:Program}{w:World}{K:aA}{tg:Expr}(a it:Addr):Turn P w K tg (HQ K a) [it] it (λi h=>h.IsListIter it a i) where
 mem:=by simp
 obj:=λi h st b hb=>by
  have e:b=it:=by simpa using hb
  subst e
  obtain⟨o,e,c,d⟩:=st
  exact⟨o,e,λv z=>by rw[d]at z;cases z⟩
 keep:=λi h h' st k=>st.at λo e=>k it (by simp) o e
 item:=by
  intro X hP hw hK hc i pins s σ H E I hf st hg
  subst hP hw hK
  obtain⟨xs,x,hq,hx⟩:=hg
  obtain⟨its,rv,p,hz⟩:=I.list hq
  obtain⟨u,hu,ru⟩:=rv.get hx
  obtain⟨f0,f1,f2,f3,f4,f5⟩:=hf it (by simp)
  refine wpAny_pyNext_list_item st p.isList (x:=u) (by simpa using hu) λh' st' sb=>?_
  have I1:Inv X pins σ H {s with heap:=h'}:=I.turned (t':=s.toks) (λb o hb e=>(sb.2 b hb).trans e) f0 f1 f3 f4 f5
  obtain⟨o,e,c,d⟩:=id st'
  exact⟨u,rfl,Eu (s:={s with heap:=h'}) e c d (by decide) ⟨x,H,I1,ru,⟨rfl,λys hy=>by rw[I.zT hy hq];exact hx⟩,st',λb hb=>(hf b hb).1⟩⟩
 done:=by
  intro X hP hw hK hc i pins s σ H E I hf st hg
  subst hP hw hK
  obtain⟨xs,hq,hx⟩:=hg
  obtain⟨its,rv,p,hz⟩:=I.list hq
  obtain⟨f0,f1,f2,f3,f4,f5⟩:=hf it (by simp)
  have hl:=rv.length
  exact wpAny_pyNext_list_end (I.ok.hd hc) st p.isList (by simp;omega) λh' eb=>⟨rfl,I.turned (t':=s.toks) (λb o hb e=>eb b o hb e) f0 f1 f3 f4 f5⟩
 self:=λ_ _ _ _ _ st h=>wpAny_pyIter_listiter st h
theorem Cj{P:Program}{w:World}{K:aA}{tg:Expr}(a it:Addr):Turn P w K tg (HR K a) [it] it (λi h=>h.IsTupleIter it a i) where
 mem:=by simp
 obj:=λi h st b hb=>by
  have e:b=it:=by simpa using hb
  subst e
  obtain⟨o,e,c,d⟩:=st
  exact⟨o,e,λv z=>by rw[d]at z;cases z⟩
 keep:=λi h h' st k=>st.at λo e=>k it (by simp) o e
 item:=by
  intro X hP hw hK hc i pins s σ H E I hf st hg
  subst hP hw hK
  obtain⟨xs,x,hq,hx⟩:=hg
  obtain⟨its,rv,p,hz⟩:=I.tuple hq
  obtain⟨u,hu,ru⟩:=rv.get hx
  obtain⟨f0,f1,f2,f3,f4,f5⟩:=hf it (by simp)
  refine wpAny_pyNext_tuple_item st (show s.heap.IsTuple a its.toArray from p) (x:=u) (by simpa using hu) λh' st' sb=>?_
  have I1:Inv X pins σ H {s with heap:=h'}:=I.turned (t':=s.toks) (λb o hb e=>(sb.2 b hb).trans e) f0 f1 f3 f4 f5
  obtain⟨o,e,c,d⟩:=id st'
  exact⟨u,rfl,Eu (s:={s with heap:=h'}) e c d (by decide) ⟨x,H,I1,ru,⟨rfl,λys hy=>by rw[I.uY hy hq];exact hx⟩,st',λb hb=>(hf b hb).1⟩⟩
 done:=by
  intro X hP hw hK hc i pins s σ H E I hf st hg
  subst hP hw hK
  obtain⟨xs,hq,hx⟩:=hg
  obtain⟨its,rv,p,hz⟩:=I.tuple hq
  obtain⟨f0,f1,f2,f3,f4,f5⟩:=hf it (by simp)
  have hl:=rv.length
  exact wpAny_pyNext_tuple_end (I.ok.hd hc) st (show s.heap.IsTuple a its.toArray from p) (by simp;omega) λh' eb=>⟨rfl,I.turned (t':=s.toks) (λb o hb e=>eb b o hb e) f0 f1 f3 f4 f5⟩
 self:=λ_ _ _ _ _ st h=>wpAny_pyIter_tupleiter st h
theorem Ck{P:Program}{w:World}{K:aA}{tg:Expr}(it:Addr)(lo:Int)(n:Nat):Turn P w K tg (FN lo n) [it] it (λi h=>IsRangeIter h it (lo+(i:Nat)*1) ((n:Int)-(i:Nat)) 1) where
 mem:=by simp
 obj:=λi h st b hb=>by
  have e:b=it:=by simpa using hb
  subst e
  exact⟨_,st,λv z=>by
   have z':Data.fields _=Data.cell v:=z
   cases z'⟩
 keep:=λi h h' st k=>k it (by simp) _ st
 item:=by
  intro X hP hw hK hc i pins s σ H E I hf st hg
  subst hP hw hK
  obtain⟨f0,f1,f2,f3,f4,f5⟩:=hf it (by simp)
  have W:=Walks.range (prog:=X.prog) (w:=X.w) (I.ok.hd hc) it lo 1 n
  refine W.item i s _ _ hg st λv h' tk hv st' kk=>?_
  obtain⟨t,rfl⟩:=hv
  have I1:Inv X pins σ H {s with heap:=h',toks:=tk}:=I.turned (λb o hb e=>kk b o (by simpa using hb) e) f0 f1 f3 f4 f5
  refine⟨_,rfl,Eu (s:={s with heap:=h',toks:=tk}) (n := "range_iterator") st' rfl rfl (by decide) ⟨.int (lo+i),H,I1,⟨t,?_⟩,⟨rfl,rfl⟩,st',λb hb=>(hf b hb).1⟩⟩
  rw[Int.mul_one]
 done:=by
  intro X hP hw hK hc i pins s σ H E I hf st hg
  subst hP hw hK
  obtain⟨f0,f1,f2,f3,f4,f5⟩:=hf it (by simp)
  exact wpAny_pyNext_range_end (I.ok.hd hc) st (by have:n≤i:=hg;omega) λh' eb=>⟨rfl,I.turned (t':=s.toks) (λb o hb e=>eb b o hb e) f0 f1 f3 f4 f5⟩
 self:=λ_ _ _ _ _ st h=>wpAny_pyIter_rangeiter st h
end L2
namespace L2
open PySem PySem.Spec PyProof.Rows
section
variable{X:Cx}{tg:Expr}
def Tp(K:aA)(tl:TE):TI:=λσ H R=>tl σ H λx H1=>∃a,x=.ref a∧(∃xs,iH K H1 a xs)∧R (HQ K a) H1
def Yz(K:aA)(tl:TE):TI:=λσ H R=>tl σ H λx H1=>∃a,x=.ref a∧(∃xs,lB K H1 a xs)∧R (HR K a) H1
theorem Ou{l:Expr}{tl:TE}(hl:PE X l tl):PI X tg l (Tp X.K tl):=by
 intro pins s σ H R I h
 refine dW (hl pins s σ H _ I h) λv s1 ⟨x,H1,I1,r1,q1⟩=>?_
 obtain⟨a,e,⟨xs,hq⟩,q⟩:=q1
 subst e
 cases r1
 obtain⟨its,rv,p,hz⟩:=I1.list hq
 refine wpAny_pyIter_list p.isList ?_
 refine⟨s1.heap.objs.size,[s1.heap.objs.size],_,_,H1,rfl,I1.kept (t':=s1.toks) λb o e=>Heap.get?_push_of_some _ e,Gz a _,⟨_,Heap.get?_push_size _ rfl,rfl,rfl⟩,λb hb=>?_,q⟩
 have e:b=s1.heap.objs.size:=by simpa using hb
 subst e
 exact I1.Ot (B7 _) (I1.hok.fresh (B7 _))
theorem Vj{l:Expr}{tl:TE}(hl:PE X l tl):PI X tg l (Yz X.K tl):=by
 intro pins s σ H R I h
 refine dW (hl pins s σ H _ I h) λv s1 ⟨x,H1,I1,r1,q1⟩=>?_
 obtain⟨a,e,⟨xs,hq⟩,q⟩:=q1
 subst e
 cases r1
 obtain⟨its,rv,p,hz⟩:=I1.tuple hq
 refine wpAny_pyIter_tuple (show s1.heap.IsTuple a its.toArray from p) ?_
 refine⟨s1.heap.objs.size,[s1.heap.objs.size],_,_,H1,rfl,I1.kept (t':=s1.toks) λb o e=>Heap.get?_push_of_some _ e,Cj a _,⟨_,Heap.get?_push_size _ rfl,rfl,rfl⟩,λb hb=>?_,q⟩
 have e:b=s1.heap.objs.size:=by simpa using hb
 subst e
 exact I1.Ot (B7 _) (I1.hok.fresh (B7 _))
theorem Jm{pins:List (Addr×Obj)}{σ:St}{H:Hp}{s:Shared}{R:It→Hp→Prop}{E:Value→Shared→Prop}{lo hi:Int}{t u v:Tok}{tk:Nat}(I:Inv X pins σ H s)(h1:-(2 ^ 62)≤lo)(h2:lo<2 ^ 62)(h3:-(2 ^ 62)≤hi)(h4:hi<2 ^ 62)
  (q:R (FN lo (hi-lo).toNat) H):wpAny (model X.prog X.w) X.A (pyIter (.ref s.heap.objs.size)) (PIE X pins σ tg R) E {s with heap:=s.heap.push {cls:=.type "range", data:=.fields #[.int lo t,.int hi u,.int 1 v]},toks:=tk}:=by
 refine wpAny_pyIter_range (IsRange.new ..) (small_one h1 h2 h3 h4) ?_
 have I1:Inv X pins σ H {s with heap:=s.heap.push {cls:=.type "range", data:=.fields #[.int lo t,.int hi u,.int 1 v]},toks:=tk}:=I.kept λb o e=>Heap.get?_push_of_some _ e
 refine⟨(s.heap.push {cls:=.type "range", data:=.fields #[.int lo t,.int hi u,.int 1 v]}).objs.size,[(s.heap.push {cls:=.type "range", data:=.fields #[.int lo t,.int hi u,.int 1 v]}).objs.size],_,_,H,rfl,
  I1.kept (t':=tk) λb o e=>Heap.get?_push_of_some _ e,Ck _ lo (hi-lo).toNat,?_,λb hb=>?_,q⟩
 ·have e1:lo+((0:Nat):Int)*1=lo:=by simp
  have e2:(((hi-lo).toNat:Nat):Int)-((0:Nat):Int)=Builtin.Range.rangeSize lo hi 1:=by rw[rangeSize_one];split<;>omega
  show IsRangeIter _ _ (lo+((0:Nat):Int)*1) ((((hi-lo).toNat:Nat):Int)-((0:Nat):Int)) 1
  rw[e1,e2]
  exact Heap.get?_push_size _ rfl
 ·have e:b=(s.heap.push {cls:=.type "range", data:=.fields #[.int lo t,.int hi u,.int 1 v]}).objs.size:=by simpa using hb
  subst e
  exact I1.Ot (B7 _) (I1.hok.fresh (B7 _))
def Jo(ta:TA):TI:=λσ H R=>ta σ H λvs H1=>∃j:Int,vs=[.int j]∧-(2 ^ 62)≤j∧j<2 ^ 62∧R (FN 0 j.toNat) H1
theorem uZ{a:Expr}{ta:TA}{p pos:Pos}(hg:Gl X "range") (hm:X.mg "range" = none) (ha:PA X [a] ta) (hs:starEach [a] X.env=[(false,eval a X.env)]:=by rfl):PI X tg (.Call (.Name "range" p) [a] [] pos) (Jo ta):=by
 intro pins s σ H R I h
 refine Call_ (wR I hg hm boot_range (L5 (dW (ha pos pins s σ H _ I h) λus s1 ⟨vs,H1,I1,r1,q1⟩=>?_) hs rfl))
 obtain⟨j,e,q1,q2,q⟩:=q1
 subst e
 cases r1 with
 | cons r rr=>
  cases rr
  obtain⟨t,rfl⟩:=r
  exact call_range_1 (Jm I1 (by omega) (by omega) q1 q2 (by simpa using q))
def Jp(wi:TI)(g:TG)(tb:TS):TS:=λD σ H=>wi σ H λJ H1=>∃W:Nat→Nat→St→Hp→Prop,(∃m,W 0 m σ H1)∧∀i m σ H,W i m σ H →
 (J.stop i H∧D.nx σ H)∨(J.go i H∧∃N:St→Hp→Prop,(∀σ' H',N σ' H'→∃m',m'<m∧W (i+1) m' σ' H')∧∀x H',J.Yy i H x H'→g x σ H' λσ2 H2=>tb {D with nx:=N,ct:=N,bk:=D.nx} σ2 H2)
def rD(fp:List Addr)(h:Heap):List (Addr×Obj):=fp.filterMap λb=>(h.get? b).map λo=>(b,o)
theorem jB{fp:List Addr}{h:Heap}{b:Addr}{o:Obj}(hb:b∈fp)(e:h.get? b=some o):(b,o)∈rD fp h:=P1.mpr ⟨b,hb,by rw[e];rfl⟩
theorem Hf{fp:List Addr}{h:Heap}{p:Addr×Obj}(hp:p∈rD fp h):p.1∈fp∧h.get? p.1=some p.2:=by
 obtain⟨b,hb,e⟩:=P1.mp hp
 cases q:h.get? b with
 | none=>rw[q]at e;cases e
 | some o=>
  rw[q]at e
  have e':(b,o)=p:=E1 e
  subst e'
  exact⟨hb,q⟩
theorem Inv.pinned{pins:List (Addr×Obj)}{σ:St}{H:Hp}{s:Shared}{fp:List Addr}(I:Inv X pins σ H s)(hf:∀b∈fp,uG X pins H b)(ho:∀b∈fp,∃o,s.heap.get? b=some o∧∀v,o.data≠.cell v):Inv X (pins++rD fp s.heap) σ H s:=
 I.Er λp hp=>(F2.mp hp).elim (λz=>I.pin p (D4 _ z)) λz=>by
  obtain⟨hb,e⟩:=Hf z
  obtain⟨f0,f1,f2,_⟩:=hf p.1 hb
  obtain⟨o,e',d⟩:=ho p.1 hb
  rw[e]at e';cases e'
  exact⟨e,f0,f1,f2,d⟩
theorem Inv.nP{pins pl:List (Addr×Obj)}{σ:St}{H:Hp}{s:Shared}(I:Inv X (pins++pl) σ H s):Inv X pins σ H s:=I.Er λp hp=>I.pin p (D4 _ (K6 _ hp))
theorem Jq{iter:Expr}{body:List Stmt}{wi:TI}{g:TG}{tb:TS}{pos:Pos}(hp:PassesOwn (model X.prog X.w) X.A X.env X.xe)(hc:X.calm=true)(hi:PI X tg iter wi)(hg:PG X tg g)(hb:Es X body tb)
  (hs:∀x,foldedSetIterable iter X.env x=pure x:=by intro _;rfl):PS X (.For tg iter body [] pos) (Jp wi g tb):=by
 intro pins s σ H D I h
 refine wpAny_For (dW (hi pins s σ H _ I h) λv s1 h1=>dW h1 λitv s2 h2=>?_) hs
 obtain⟨it,fp,tn,J,H2,e,I2,T,st2,f2,W,⟨m0,w0⟩,turn⟩:=h2
 subst e
 have stat:∀{H':Hp},(∀b∈fp,H' b=none)→∀b∈fp,uG X pins H' b:=λhn b hb=>⟨hn b hb,(f2 b hb).2⟩
 refine codeAny_forLoop_any (λn s'=>∃i σ' H',Inv X pins σ' H' s'∧tn i s'.heap∧(∀b∈fp,H' b=none)∧W i n σ' H') ?_ m0 ⟨0,σ,H2,I2,st2,λb hb=>(f2 b hb).1,w0⟩
 rintro n s3 ⟨i,σ3,H3,I3,st3,fr3,w3⟩
 rcases turn i n σ3 H3 w3 with ⟨stop,qn⟩ | ⟨go,N,hN,step⟩
 ·refine wpAny_passesOwn hp (dW (T.done X rfl rfl rfl hc i pins s3 σ3 H3 X.xe I3 (stat fr3) st3 stop) λr s4 ⟨hr,I4⟩=>?_)
  subst hr
  exact wpAny_execs_nil ⟨σ3,H3,I4,qn⟩
 ·refine wpAny_passesOwn hp (dW (T.item X rfl rfl rfl hc i pins s3 σ3 H3 X.xe I3 (stat fr3) st3 go) λr s4 ⟨u,hr,h4⟩=>?_)
  subst hr
  refine wpAny_passesOwn hp (dW h4 λ_ s5 ⟨x,H5,I5,r5,y5,st5,fr5⟩=>?_)
  have PX:=I5.pinned (stat fr5) (T.obj _ _ st5)
  refine wpAny_passesOwn hp (dW (hg _ s5 σ3 H5 x u _ PX r5 (step x H5 y5)) λ_ s6 ⟨σ6,H6,I6,q6⟩=>?_)
  refine wpAny_passesOwn hp (dW (hb _ s6 σ6 H6 _ I6 q6) λf s7 q7=>?_)
  have again:∀{σ7:St} {H7:Hp},Inv X (pins++rD fp s5.heap) σ7 H7 s7→N σ7 H7→∃m,m<n∧∃i σ' H',Inv X pins σ' H' s7∧tn i s7.heap∧(∀b∈fp,H' b=none)∧W i m σ' H':=λ{σ7 H7} I7 n7=>by
   obtain⟨m',hm,w7⟩:=hN σ7 H7 n7
   refine⟨m',hm,i+1,σ7,H7,I7.nP,T.keep _ _ _ st5 λb hb o e=>(I7.pin (b,o) (D4 _ (D4 _ (jB hb e)))).1,λb hb=>?_,w7⟩
   obtain⟨o,e,d⟩:=T.obj _ _ st5 b hb
   exact(I7.pin (b,o) (D4 _ (D4 _ (jB hb e)))).2.1
  cases f with
  | next=>obtain⟨σ7,H7,I7,n7⟩:=q7;exact again I7 n7
  | cont=>obtain⟨σ7,H7,I7,n7⟩:=q7;exact again I7 n7
  | brk=>obtain⟨σ7,H7,I7,q7⟩:=q7;exact⟨σ7,H7,I7.nP,q7⟩
  | ret v=>obtain⟨x7,σ7,H7,I7,r7,q7⟩:=q7;exact⟨x7,σ7,H7,I7.nP,r7,q7⟩
end
end L2
namespace L2
open PySem PySem.Spec PyProof.Rows
abbrev R2:=V→V→Hp→VK→Prop
def jC(X:Cx)(f:Value→Value→Sem Value)(r:R2):Prop:=
 ∀(pins:List (Addr×Obj))(s:Shared)(σ:St)(H:Hp)(x y:V)(v u:Value)(Q:VK),Inv X pins σ H s→RelV x v→RelV y u→r x y H Q →
  wpAny (model X.prog X.w) X.A (f v u) (EP X pins σ Q) X.xe s
def HS(X:Cx)(f:Value→Sem Value)(r:V→Hp→VK→Prop):Prop:=
 ∀(pins:List (Addr×Obj))(s:Shared)(σ:St)(H:Hp)(x:V)(v:Value)(Q:VK),Inv X pins σ H s→RelV x v→r x H Q →
  wpAny (model X.prog X.w) X.A (f v) (EP X pins σ Q) X.xe s
def eO(X:Cx)(f:Value)(r:List V→Hp→VK→Prop):Prop:=
 ∀(pins:List (Addr×Obj))(s:Shared)(σ:St)(H:Hp)(xs:List V)(us:List Value)(Q:VK),Inv X pins σ H s→Vals xs us→r xs H Q →
  wpAny (model X.prog X.w) X.A (call f us) (EP X pins σ Q) X.xe s
def zM(r:R2)(ta tb:TE):TE:=λσ H Q=>ta σ H λx H1=>tb σ H1 λy H2=>r x y H2 Q
def HW(r:V→Hp→VK→Prop)(ta:TE):TE:=λσ H Q=>ta σ H λx H1=>r x H1 Q
def rI(C:Int→Int→Prop)(g:Int→Int→V):R2:=λx y H Q=>∃i j,x=.int i∧y=.int j∧C i j∧Q (g i j) H
def Jr(g:Int→Int→V):R2:=λx y H Q=>∃i j,x=.int i∧y=.int j∧Q (g i j) H
def rU(g:Int→V):V→Hp→VK→Prop:=λx H Q=>∃i,x=.int i∧Q (g i) H
section
variable{X:Cx}{a b c:Expr}{ta tb tc:TE}{pos:Pos}
theorem Vk(ha:PE X a ta)(hb:PE X b tb){pins:List (Addr×Obj)}{s:Shared}{σ:St}{H:Hp}{R:V→V→Hp→Prop}(I:Inv X pins σ H s)
  (h:ta σ H λx H1=>tb σ H1 λy H2=>R x y H2) {Q:Value→Shared→Prop} {f:Value→Value→Sem Value}
  (hf:∀v u s2 x y H2,Inv X pins σ H2 s2→RelV x v→RelV y u→R x y H2→wpAny (model X.prog X.w) X.A (f v u) Q X.xe s2) :
  wpAny (model X.prog X.w) X.A (eval a X.env) (λv s₁=>wpAny (model X.prog X.w) X.A (eval b X.env) (λu s₂=>wpAny (model X.prog X.w) X.A (f v u) Q X.xe s₂) X.xe s₁) X.xe s:=by
 refine dW (ha pins s σ H _ I h) λv s1 ⟨x,H1,I1,r1,q1⟩=>?_
 refine dW (hb pins s1 σ H1 _ I1 q1) λu s2 ⟨y,H2,I2,r2,q2⟩=>?_
 exact hf v u s2 x y H2 I2 r1 r2 q2
theorem Za{op:Operator}{r:R2}(ho:jC X (binaryOp op) r)(ha:PE X a ta)(hb:PE X b tb):PE X (.BinOp a op b pos) (zM r ta tb):=by
 intro pins s σ H Q I h
 exact wpAny_BinOp (Vk ha hb I h λv u s2 x y H2 I2 rx ry q=>ho pins s2 σ H2 x y v u Q I2 rx ry q)
theorem Zb{op:UnaryOp}{r:V→Hp→VK→Prop}(ho:HS X (unaryOp op) r)(ha:PE X a ta):PE X (.UnaryOp op a pos) (HW r ta):=by
 intro pins s σ H Q I h
 exact UnaryOp_ (dW (ha pins s σ H _ I h) λv s1 ⟨x,H1,I1,r1,q1⟩=>ho pins s1 σ H1 x v Q I1 r1 q1)
theorem FQ{f:Value→Value→Sem Value}{C:Int→Int→Prop}{g:Int→Int→Int}
  (rule:∀(i j:Int)(t u:Tok)(s:Shared)(Q:Value→Shared→Prop)(E:Value→Shared→Prop),C i j→Q (.int (g i j) s.toks) {s with toks:=s.toks+1}→wpAny (model X.prog X.w) X.A (f (.int i t) (.int j u)) Q E s) :
  jC X f (rI C λi j=>.int (g i j)):=by
 intro pins s σ H x y v u Q I rx ry h
 obtain⟨i,j,rfl,rfl,hc,q⟩:=h
 obtain⟨t,rfl⟩:=rx
 obtain⟨t',rfl⟩:=ry
 exact rule i j t t' s _ _ hc ⟨.int (g i j),H,I.tok _,⟨_,rfl⟩,q⟩
theorem Zc{f:Value→Value→Sem Value}{g:Int→Int→Int}
  (rule:∀(i j:Int)(t u:Tok)(s:Shared)(Q:Value→Shared→Prop)(E:Value→Shared→Prop),Q (.int (g i j) s.toks) {s with toks:=s.toks+1}→wpAny (model X.prog X.w) X.A (f (.int i t) (.int j u)) Q E s) :
  jC X f (Jr λi j=>.int (g i j)):=by
 intro pins s σ H x y v u Q I rx ry h
 obtain⟨i,j,rfl,rfl,q⟩:=h
 obtain⟨t,rfl⟩:=rx
 obtain⟨t',rfl⟩:=ry
 exact rule i j t t' s _ _ ⟨.int (g i j),H,I.tok _,⟨_,rfl⟩,q⟩
theorem Zd{f:Value→Value→Sem Value}{g:Int→Int→Bool}
  (rule:∀(i j:Int)(t u:Tok)(s:Shared)(Q:Value→Shared→Prop)(E:Value→Shared→Prop),Q (.bool (g i j)) s→wpAny (model X.prog X.w) X.A (f (.int i t) (.int j u)) Q E s) :
  jC X f (Jr λi j=>.bl (g i j)):=by
 intro pins s σ H x y v u Q I rx ry h
 obtain⟨i,j,rfl,rfl,q⟩:=h
 obtain⟨t,rfl⟩:=rx
 obtain⟨t',rfl⟩:=ry
 exact rule i j t t' s _ _ ⟨.bl (g i j),H,I,rfl,q⟩
def Hg(i j:Int):Prop:=0<j∧j<1073741824
def Hh(i j:Int):Prop:=0≤j∧j≤1000000∧i.natAbs<2 ^ 64
def uH(i j:Int):Prop:=(-(2 ^ 64)<i∧i<2 ^ 64)∨(-(2 ^ 64)<j∧j<2 ^ 64)
theorem uH.ok{i j:Int}(h:uH i j):IntMulOk i j:=by
 rcases h with ⟨h1,h2⟩ | ⟨h1,h2⟩
 ·exact .of_left (intBits_le_64 h1 h2)
 ·exact .of_right (intBits_le_64 h1 h2)
theorem Vl:jC X (binaryOp .Add) (Jr λi j=>.int (i+j)):=Zc λ_ _ _ _ _ _ _ q=>add_int q
theorem Vm:jC X (binaryOp .Sub) (Jr λi j=>.int (i-j)):=Zc λ_ _ _ _ _ _ _ q=>sub_int q
theorem Vn:jC X (binaryOp .Mult) (rI uH λi j=>.int (i*j)):=FQ λ_ _ _ _ _ _ _ hc q=>mul_int q hc.ok
theorem Ov:jC X (binaryOp .FloorDiv) (rI Hg λi j=>.int (i/j)):=FQ λi j _ _ _ _ _ hc q=>by
 have h1:(0:Int)<j:=hc.1
 have h2:j<1073741824:=hc.2
 exact floordiv_int (by omega) (by rw[Int.fdiv_eq_ediv_of_nonneg i (by omega)];exact q) (.inl (PyProof.noPylong_small (by omega)))
theorem Vo:jC X (binaryOp .Mod) (rI (λ_ j=>0<j) λi j=>.int (i%j)):=FQ λi j _ _ _ _ _ hc q=>by
 have h1:(0:Int)<j:=hc
 exact mod_int' (by omega) (by rw[Int.fmod_eq_emod_of_nonneg i (by omega)];exact q)
theorem Vp:jC X (binaryOp .Pow) (rI Hh λi j=>.int (i ^ j.toNat)):=FQ λ_ _ _ _ _ _ _ hc q=>pow_int_small hc.1 hc.2.1 hc.2.2 q
theorem QB{f:Value→Sem Value}{g:Int→Int}
  (rule:∀(i:Int)(t:Tok)(s:Shared)(Q:Value→Shared→Prop)(E:Value→Shared→Prop),Q (.int (g i) s.toks) {s with toks:=s.toks+1}→wpAny (model X.prog X.w) X.A (f (.int i t)) Q E s) :
  HS X f (rU λi=>.int (g i)):=by
 intro pins s σ H x v Q I rx h
 obtain⟨i,rfl,q⟩:=h
 obtain⟨t,rfl⟩:=rx
 exact rule i t s _ _ ⟨.int (g i),H,I.tok _,⟨_,rfl⟩,q⟩
theorem Vq:HS X (unaryOp .USub) (rU λi=>.int (-i)):=QB λ_ _ _ _ _ q=>neg_int q
end
def zU:V→V→Bool
  | .non,.non=>true | .non,.int _=>true | .int _,.non=>true | .non,.bl _=>true | .bl _,.non=>true | .non,.str _=>true | .str _,.non=>true
  | .int _,.int _=>true | .bl _,.bl _=>true | .str _,.str _=>true | .byt _,.byt _=>true
  | .int _,.str _=>true | .str _,.int _=>true | .bl _,.str _=>true | .str _,.bl _=>true
  | _,_=>false
def HX:R2:=λx y H Q=>zU x y=true∧Q (.bl (decide (x=y))) H
def MN:R2:=λx y H Q=>zU x y=true∧Q (.bl (!decide (x=y))) H
theorem Ew{i j:Int}:decide (V.int i=V.int j)=(i==j):=by
 rw[G0]
 simp
theorem Js{i j:Bool}:decide (V.bl i=V.bl j)=(i==j):=by
 rw[G0]
 simp
theorem qU{i j:Str}:decide (V.str i=V.str j)=(i==j):=by
 rw[G0]
 simp
theorem Ex{i j:Array UInt8}:decide (V.byt i=V.byt j)=(i.toList==j.toList):=by
 rw[G0]
 cases i
 cases j
 simp
section
variable{X:Cx}{a b c:Expr}{ta tb tc:TE}{pos:Pos}
theorem aY{pins:List (Addr×Obj)}{σ:St}{H:Hp}{s:Shared}{Q:VK}{k k':Bool}(I:Inv X pins σ H s)(q:Q (.bl k) H)(e:k=k'):EP X pins σ Q (.bool k') s:=by
 subst e
 exact⟨.bl k,H,I,rfl,q⟩
theorem Ze:jC X (compareOp .Eq) HX:=by
 intro pins s σ H x y v u Q I rx ry h
 obtain⟨hs,q⟩:=h
 cases x with
 | non=>
  cases rx
  cases y with
  | non=>cases ry;exact PySem.EqNone.eq_none_none (aY I q (by simp))
  | bl j=>cases ry;exact PySem.EqNone.eq_none_bool (aY I q (by simp))
  | int j=>obtain⟨t',rfl⟩:=ry;exact PySem.EqNone.eq_none_int (aY I q (by simp))
  | str j=>obtain⟨t',rfl⟩:=ry;exact PySem.EqNone.eq_none_str (aY I q (by simp))
  | _=>exact absurd (show false=true from hs) C7
 | bl i=>
  cases rx
  cases y with
  | non=>cases ry;exact PySem.EqNone.eq_bool_none (aY I q (by simp))
  | bl j=>cases ry;exact eq_bool (aY I q Js)
  | str j=>obtain⟨t',rfl⟩:=ry;exact PySem.EqMixed.eq_bool_str (aY I q (by simp))
  | _=>exact absurd (show false=true from hs) C7
 | int i=>
  obtain⟨t,rfl⟩:=rx
  cases y with
  | non=>cases ry;exact PySem.EqNone.eq_int_none (aY I q (by simp))
  | int j=>obtain⟨t',rfl⟩:=ry;exact eq_int (aY I q Ew)
  | str j=>obtain⟨t',rfl⟩:=ry;exact PySem.EqMixed.eq_int_str (aY I q (by simp))
  | _=>exact absurd (show false=true from hs) C7
 | str i=>
  obtain⟨t,rfl⟩:=rx
  cases y with
  | non=>cases ry;exact PySem.EqNone.eq_str_none (aY I q (by simp))
  | bl j=>cases ry;exact PySem.EqMixed.eq_str_bool (aY I q (by simp))
  | int j=>obtain⟨t',rfl⟩:=ry;exact PySem.EqMixed.eq_str_int (aY I q (by simp))
  | str j=>obtain⟨t',rfl⟩:=ry;exact eq_str (aY I q qU)
  | _=>exact absurd (show false=true from hs) C7
 | byt i=>
  obtain⟨t,rfl⟩:=rx
  cases y with
  | byt j=>obtain⟨t',rfl⟩:=ry;exact PySem.W.eq_bytes (aY I q Ex)
  | _=>exact absurd (show false=true from hs) C7
 | _=>cases y<;>exact absurd (show false=true from hs) C7
theorem Zf:jC X (compareOp .NotEq) MN:=by
 intro pins s σ H x y v u Q I rx ry h
 obtain⟨hs,q⟩:=h
 cases x with
 | non=>
  cases rx
  cases y with
  | non=>cases ry;exact PySem.EqNone.ne_none_none (aY I q (by simp))
  | bl j=>cases ry;exact PySem.EqNone.ne_none_bool (aY I q (by simp))
  | int j=>obtain⟨t',rfl⟩:=ry;exact PySem.EqNone.ne_none_int (aY I q (by simp))
  | str j=>obtain⟨t',rfl⟩:=ry;exact PySem.EqNone.ne_none_str (aY I q (by simp))
  | _=>exact absurd (show false=true from hs) C7
 | bl i=>
  cases rx
  cases y with
  | non=>cases ry;exact PySem.EqNone.ne_bool_none (aY I q (by simp))
  | bl j=>cases ry;exact ne_bool (aY I q (congrArg not Js))
  | str j=>obtain⟨t',rfl⟩:=ry;exact PySem.EqMixed.ne_bool_str (aY I q (by simp))
  | _=>exact absurd (show false=true from hs) C7
 | int i=>
  obtain⟨t,rfl⟩:=rx
  cases y with
  | non=>cases ry;exact PySem.EqNone.ne_int_none (aY I q (by simp))
  | int j=>obtain⟨t',rfl⟩:=ry;exact ne_int (aY I q (congrArg not Ew))
  | str j=>obtain⟨t',rfl⟩:=ry;exact PySem.EqMixed.ne_int_str (aY I q (by simp))
  | _=>exact absurd (show false=true from hs) C7
 | str i=>
  obtain⟨t,rfl⟩:=rx
  cases y with
  | non=>cases ry;exact PySem.EqNone.ne_str_none (aY I q (by simp))
  | bl j=>cases ry;exact PySem.EqMixed.ne_str_bool (aY I q (by simp))
  | int j=>obtain⟨t',rfl⟩:=ry;exact PySem.EqMixed.ne_str_int (aY I q (by simp))
  | str j=>obtain⟨t',rfl⟩:=ry;exact ne_str (aY I q (congrArg not qU))
  | _=>exact absurd (show false=true from hs) C7
 | byt i=>
  obtain⟨t,rfl⟩:=rx
  cases y with
  | byt j=>obtain⟨t',rfl⟩:=ry;exact PySem.W.ne_bytes (aY I q (congrArg not Ex))
  | _=>exact absurd (show false=true from hs) C7
 | _=>cases y<;>exact absurd (show false=true from hs) C7
theorem vA:jC X (compareOp .LtE) (Jr λi j=>.bl (decide (i≤j))):=Zd λ_ _ _ _ _ _ _ q=>le_int q
theorem Zg:jC X (compareOp .Gt) (Jr λi j=>.bl (decide (j<i))):=Zd λ_ _ _ _ _ _ _ q=>gt_int q
theorem Hi:jC X (compareOp .In) (λx y H Q=>∃i j,x=.str i∧y=.str j∧Q (.bl (!(Builtin.Str.occurrences j i 0 j.length 1).isEmpty)) H):=by
 intro pins s σ H x y v u Q I rx ry h
 obtain⟨i,j,rfl,rfl,q⟩:=h
 obtain⟨t,rfl⟩:=rx
 obtain⟨t',rfl⟩:=ry
 exact in_str (aY I q rfl)
theorem jC.or{f:Value→Value→Sem Value}{r r':R2}(h:jC X f r)(h':jC X f r'):jC X f (λx y H Q=>r x y H Q∨r' x y H Q):=by
 intro pins s σ H x y v u Q I rx ry q
 rcases q with q | q
 ·exact h pins s σ H x y v u Q I rx ry q
 ·exact h' pins s σ H x y v u Q I rx ry q
theorem dX(b:Expr){op:CmpOp}(h:op≠.In:=by decide)(h2:op≠.NotIn:=by decide):behindInMarks op b=false:=by
 have e1:(op==CmpOp.In)=false:=by cases op<;>first | rfl | exact absurd rfl h
 have e2:(op==CmpOp.NotIn)=false:=by cases op<;>first | rfl | exact absurd rfl h2
 cases b<;>simp[behindInMarks,e1,e2]
theorem Ox{op:CmpOp}{r:R2}(ho:jC X (compareOp op) r)(ha:PE X a ta)(hb:PE X b tb)(hm:behindInMarks op b=false):PE X (.Compare a [op] [b] pos) (zM r ta tb):=by
 intro pins s σ H Q I h
 exact wpAny_Compare1 (Vk ha hb I h λv u s2 x y H2 I2 rx ry q=>ho pins s2 σ H2 x y v u Q I2 rx ry q) hm
def zV(t:TE):TT:=λσ H Q=>t σ H λx H'=>∃k,x=.bl k∧Q k H'
theorem Oz{op:CmpOp}{r:R2}(ho:jC X (compareOp op) r)(ha:PE X a ta)(hb:PE X b tb)(hm:behindInMarks op b=false):PT X (.Compare a [op] [b] pos) (zV (zM r ta tb)):=by
 intro pins s σ H Q I h
 refine wpAny_isTrue_Compare1 (dW (ha pins s σ H _ I h) λv s1 ⟨x,H1,I1,r1,q1⟩=>dW (hb pins s1 σ H1 _ I1 q1) λu s2 ⟨y,H2,I2,r2,q2⟩=>
  dW (ho pins s2 σ H2 x y v u _ I2 r1 r2 q2) λc s3 ⟨z,H3,I3,r3,k,e,q3⟩=>?_) hm
 subst e
 cases r3
 exact wpAny_truthy_bool ⟨H3,I3,q3⟩
def wV(r r':R2)(ta tb tc:TE):TE:=λσ H Q=>ta σ H λx H1=>tb σ H1 λy H2=>r x y H2 λz H3=>∃k,z=.bl k ∧
 (if k=true then tc σ H3 λw' H4=>r' y w' H4 Q else Q (.bl false) H3)
theorem Jt{op op':CmpOp}{r r':R2}(ho:jC X (compareOp op) r)(ho':jC X (compareOp op') r')(ha:PE X a ta)(hb:PE X b tb)(hc:PE X c tc)
  (hm:lastMarks [op,op'] [b,c]=false:=by with_unfolding_all rfl):PE X (.Compare a [op,op'] [b,c] pos) (wV r r' ta tb tc):=by
 intro pins s σ H Q I h
 refine Compare_chain (dW (ha pins s σ H _ I h) λv s1 ⟨x,H1,I1,r1,q1⟩=>chain_link (dW (hb pins s1 σ H1 _ I1 q1) λu s2 ⟨y,H2,I2,r2,q2⟩=>
  dW (ho pins s2 σ H2 x y v u _ I2 r1 r2 q2) λd s3 ⟨z,H3,I3,r3,k,e,q3⟩=>?_)) hm
 subst e
 cases r3
 refine wpAny_truthy_bool ?_
 cases k with
 | false=>exact ite_ff ⟨.bl false,H3,I3,rfl,q3⟩
 | true=>exact ite_tt (chain_last (dW (hc pins s3 σ H3 _ I3 q3) λw' s4 ⟨z',H4,I4,r4,q4⟩=>ho' pins s4 σ H4 y z' u w' Q I4 r2 r4 q4))
theorem Ju{op op':CmpOp}{r r':R2}(ho:jC X (compareOp op) r)(ho':jC X (compareOp op') r')(ha:PE X a ta)(hb:PE X b tb)(hc:PE X c tc)
  (hm:lastMarks [op,op'] [b,c]=false:=by with_unfolding_all rfl):PT X (.Compare a [op,op'] [b,c] pos) (zV (wV r r' ta tb tc)):=by
 intro pins s σ H Q I h
 refine isTrue_chain (dW (ha pins s σ H _ I h) λv s1 ⟨x,H1,I1,r1,q1⟩=>test_link (dW (hb pins s1 σ H1 _ I1 q1) λu s2 ⟨y,H2,I2,r2,q2⟩=>
  dW (ho pins s2 σ H2 x y v u _ I2 r1 r2 q2) λd s3 ⟨z,H3,I3,r3,k,e,q3⟩=>?_)) hm
 subst e
 cases r3
 refine wpAny_truthy_bool ?_
 cases k with
 | false=>
  obtain⟨k',e',q'⟩:=q3
  cases e'
  exact ite_ff ⟨H3,I3,q'⟩
 | true=>
  refine ite_tt (test_last (dW (hc pins s3 σ H3 _ I3 q3) λw' s4 ⟨z',H4,I4,r4,q4⟩=>dW (ho' pins s4 σ H4 y z' u w' _ I4 r2 r4 q4) λd' s5 ⟨z2,H5,I5,r5,k2,e2,q5⟩=>?_))
  subst e2
  cases r5
  exact wpAny_truthy_bool ⟨H5,I5,q5⟩
theorem rF:(sizeLine:Nat)<2 ^ 63:=by rw[sizeLine_eq];decide
theorem vals1{x:V}{us:List Value}(r:Vals [x] us):∃u,us=[u]∧RelV x u:=by
 cases r with
 | cons r1 r2=>cases r2;exact⟨_,rfl,r1⟩
theorem vals2{x y:V}{us:List Value}(r:Vals [x,y] us):∃u w',us=[u,w']∧RelV x u∧RelV y w':=by
 cases r with
 | cons r1 r2=>
  cases r2 with
  | cons r3 r4=>cases r4;exact⟨_,_,rfl,r1,r3⟩
theorem nQ:eO X (.type "str") (λxs H Q=>∃i,xs=[.int i]∧i.natAbs.log2<1920∧Q (.str (toString i)) H):=by
 intro pins s σ H xs us Q I r h
 obtain⟨i,rfl,hz,q⟩:=h
 obtain⟨u,rfl,t,rfl⟩:=vals1 r
 exact PySem.P.str_of_int hz ⟨.str _,H,I.tok _,⟨_,rfl⟩,q⟩
end
end L2
namespace L2
open PySem PySem.Spec PyProof.Rows
structure Vr(h:Heap)(x dx C:Addr)(mA:Str→Option Value):Prop where
 obj:h.get? x=some (N5 C dx)
 ns:h.Ns1 dx mA
 ne:dx≠x
theorem Hj{h:Heap}{dx:Addr}{mA:Str→Option Value}(n:h.Ns1 dx mA):∃od,h.get? dx=some od∧∀name,O0 name od=some (mA name):=by
 obtain⟨o,es,ep,ho,hd,hk,_,hm⟩:=n
 refine⟨o,ho,λname=>?_⟩
 have e:=hm name
 unfold nsFind findBy at e
 rw[←Array.find?_toList]at e
 unfold O0
 rw[hd]
 dsimp only
 split
 ·rename_i y q
  rw[q]at e
  exact congrArg some e
 ·rename_i q
  rw[q]at e
  have a:es.toList.any (·.refKey)=false:=by
   rw[List.any_eq_false]
   intro y hy
   obtain⟨z,t,hkey⟩:=hk y (Array.mem_toList_iff.mp hy)
   simp[DictEntry.refKey,hkey]
  have a':¬es.toList.any (·.refKey)=true:=by rw[a];exact C7
  rw[if_neg a']
  exact congrArg some e
theorem Vr.look{h:Heap}{x dx C:Addr}{mA:Str→Option Value}(I:Vr h x dx C mA):∃od,PySem.W.InstAt h x (N5 C dx) C (some od)∧∀name,O0 name od=some (mA name):=
 let ⟨od,ho,hl⟩:=Hj I.ns
 ⟨od,⟨I.obj,rfl,rfl,ho⟩,hl⟩
section
variable{prog:Program}{w:World}{A:Around}{E:Value→Shared→Prop}{s:Shared}{K:aA}{x dx C f:Addr}{mA:Str→Option Value}{name:Str}{v:Value}
end
section
variable{P:Program}{w:World}{H H':Hp}{h h':Heap}{a C dx:Addr}{fs fs':List (Str×V)}
theorem Pa(hok:qM P w H h)(e:H a=some (.ins C dx fs)):∃mA,Vr h a dx C mA∧(∀f,Uv (fs.lookup f) (mA f))∧R8 mA (fs.map (·.1))∧fs.length≤1000∧H dx=some (.own a):=by
 obtain⟨d,z,ne,ob,mA,n,r,q⟩:=(show dO P w H h a (.ins C dx fs)from hok a _ e)
 exact⟨mA,⟨ob,n,ne⟩,r,q,z,d⟩
end
structure FW(K:aA)(C:Addr):Prop where
 pg:Q1 K C Str.empty=true
 hd:PySem.W.hasDictIn K C=true
 po:PySem.W.plainOver K C=true
 sa:J0 K (.ref C) "__setattr__" = some (some (.builtin "object.__setattr__"))
theorem FW.get{K:aA}{C:Addr}(c:FW K C)(f:Str):Q1 K C f=true:=c.pg
def Vs(K:aA)(C:Addr)(f:Str):Prop:=J0 K (.ref C) f=some none
structure SQ(K:aA)(C:Addr)(f:Str)(v:V)(u:Value):Prop where
 at_:J0 K (.ref C) f=some (some u)
 rel:RelV v u
 get:P7 K u "__get__" = some none
 cp:PySem.W.copiedNames.contains f=false
structure Meth(K:aA)(C:Addr)(m:Str)(f:Addr):Prop where
 at_:J0 K (.ref C) m=some (some (.ref f))
 fn:S0 K (.ref f)=true
 kp:F6 K (.ref f)=true
section
variable{X:Cx}{pins:List (Addr×Obj)}{σ:St}{H:Hp}{s:Shared}{a C dx:Addr}{fs:List (Str×V)}{f:Str}{v:V}{A:Around}{E:Value→Shared→Prop}
end
section
variable{X:Cx}{o e value:Expr}{f:Str}{pos pos' tpos:Pos}{ta tv:TE}
end
section
variable{X:Cx}{pins:List (Addr×Obj)}{σ:St}{H:Hp}{s:Shared}{A:Around}{E:Value→Shared→Prop}{Q:Value→Shared→Prop}{c:Value}{b:Bool}
inductive qN(K:aA)(H:Hp):V→Value→Prop where
 | non:qN K H .non (.type "NoneType")
 | bl (x:Bool):qN K H (.bl x) (.type "bool")
 | int (i:Int):qN K H (.int i) (.type "int")
 | str (x:Str):qN K H (.str x) (.type "str")
 | flt (x:UInt64):qN K H (.flt x) (.type "float")
 | lst {a:Addr} {xs:List V} (e:H a=some (.lst xs)):qN K H (.ref a) (.type "list")
 | oX {a:Addr} {o:Obj} {xs:List V} (e:H a=some (.oX o (.lst xs))):qN K H (.ref a) (.type "list")
 | tup {a:Addr} {xs:List V} (e:H a=some (.tup xs)):qN K H (.ref a) (.type "tuple")
 | dK {a:Addr} {kvs:List (Key×V)} (e:H a=some (.dK kvs)):qN K H (.ref a) (.type "dict")
 | dT {a:Addr} {kvs:List (List Key×V)} (e:H a=some (.dT kvs)):qN K H (.ref a) (.type "dict")
 | ins {a C dx:Addr} {fs:List (Str×V)} (e:H a=some (.ins C dx fs)) (cl:FW K C) (ha:J0 K (.ref C) "__class__" = some (some (.builtin "object.__class__")))
   (hn:P7 K (.builtin "object.__class__") "__get__" = some (some (.builtin "getset_descriptor.__get__"))) (htk:PySem.W.takesIn K (.builtin "object.__class__")=some true)
   (hm:PySem.W.mroIn K C (.type "object")=some true):qN K H (.ref a) (.ref C)
theorem oY{x:V}{u t:Value}(I:Inv X pins σ H s)(rx:RelV x u)(ty:qN X.K H x t)(e:C8 X.K t c=some b)(h:∀tk,Q (.bool b) {s with toks:=tk}) :
  wpAny (model X.prog X.w) A (call (.builtin "isinstance") [u,c]) Q E s:=by
 cases ty with
 | non=>cases(show u=Value.none from rx);exact D6 PySem.W.kitx_none I.wO True.intro e (λz=>nomatch z) h
 | bl y=>cases(show u=Value.bool y from rx);exact D6 PySem.W.kitx_bool I.wO True.intro e (λz=>nomatch z) h
 | int i=>obtain⟨t,q⟩:=(show ∃t,u=Value.int i t from rx);cases q;exact D6 PySem.W.kitx_int I.wO True.intro e (λz=>nomatch z) h
 | str y=>obtain⟨t,q⟩:=(show ∃t,u=Value.str y t from rx);cases q;exact D6 PySem.W.kitx_str I.wO True.intro e (λz=>nomatch z) h
 | flt y=>obtain⟨t,q⟩:=(show ∃t,u=Value.float y t from rx);cases q;exact D6 PySem.W.kitx_float I.wO True.intro e (λz=>nomatch z) h
 | @lst a xs ea=>
  cases(show u=Value.ref a from rx)
  obtain⟨_,_,n,_,h1⟩:=(show dO X.prog X.w H s.heap a (.lst xs)from I.hok a _ ea)
  exact D6 M0 I.wO ⟨_,h1,rfl⟩ e (λz=>nomatch z) h
 | @oX a ob xs ea=>
  cases(show u=Value.ref a from rx)
  obtain⟨_,_,_,n,_,h1⟩:=(show dO X.prog X.w H s.heap a (.oX ob (.lst xs))from I.hok a _ ea)
  exact D6 M0 I.wO ⟨_,h1,rfl⟩ e (λz=>nomatch z) h
 | @tup a xs ea=>
  cases(show u=Value.ref a from rx)
  obtain⟨_,_,_,p⟩:=(show dO X.prog X.w H s.heap a (.tup xs)from I.hok a _ ea)
  obtain⟨o,h1,h2,_⟩:=p
  exact D6 P2 I.wO ⟨o,h1,h2⟩ e (λz=>nomatch z) h
 | @dK a kvs ea=>
  cases(show u=Value.ref a from rx)
  obtain⟨_,_,vs,_,p⟩:=(show dO X.prog X.w H s.heap a (.dK kvs)from I.hok a _ ea)
  obtain⟨o,es,ep,h1,h2,_⟩:=p
  exact D6 P8 I.wO ⟨o,h1,h2.1⟩ e (λz=>nomatch z) h
 | @dT a kvs ea=>
  cases(show u=Value.ref a from rx)
  obtain⟨_,_,xs,_,o,es,ep,h1,h2,_⟩:=(show dO X.prog X.w H s.heap a (.dT kvs)from I.hok a _ ea)
  exact D6 P8 I.wO ⟨o,h1,h2.1⟩ e (λz=>nomatch z) h
 | @ins a C dx fs ea cl ha hn htk hm=>
  cases(show u=Value.ref a from rx)
  obtain⟨mA,O,_⟩:=Pa I.hok ea
  obtain⟨od,J,_⟩:=O.look
  exact D6 (PySem.W.kitx_own (cl.get _) cl.hd ha hn htk hm) I.wO J e (λz=>nomatch z) h
end
end L2
namespace L2
open PySem PySem.Spec PyProof.Rows
structure gF(k:Nat)(A:Around):Prop where
 hd:A.handled=none
 dp:A.depth+3*k+5<recursionLimit
 un:A.units+16*k+200<cLine
theorem gF.mono{j k:Nat}{A:Around}(r:gF k A)(h:j≤k):gF j A:=⟨r.hd,by have:=r.dp;omega,by have:=r.un;omega⟩
theorem gF.deeper{k:Nat}{A:Around}(r:gF (k+1) A)(env:Env):gF k (A.deeper env):=
 ⟨r.hd,by have:=r.dp;show A.depth+1+3*k+5<_;omega,by have:=r.un;show A.units+3+16*k+200<_;omega⟩
theorem gF.depth{k:Nat}{A:Around}(r:gF k A):A.depth<recursionLimit:=by have:=r.dp;omega
theorem gF.units{k:Nat}{A:Around}(r:gF k A):A.units+64<cLine:=by have:=r.un;omega
def jD:TA:=λ_ H Q=>Q [] H
def dD(ta:TE)(tr:TA):TA:=λσ H Q=>ta σ H λx H1=>tr σ H1 λxs H2=>Q (x::xs) H2
section
variable{X:Cx}{e:Expr}{es:List Expr}{te:TE}{t:TA}{pos:Pos}
theorem cB:PA X [] jD:=λ_ _ _ _ H Q I h=>Calls.spliced_nil ⟨[],H,I,.nil,h⟩
theorem bD(ha:PE X e te)(hr:PA X es t)(hs:starEach (e::es) X.env=(false,eval e X.env)::starEach es X.env:=by rfl):PA X (e::es) (dD te t):=by
 intro pos pins s σ H Q I h
 rw[hs]
 show wpAny _ _ (spliced ((false,eval e X.env)::backTo pos (starEach es X.env))) _ _ s
 refine Calls.spliced_cons (dW (ha pins s σ H _ I h) λu s1 ⟨x,H1,I1,r1,q1⟩=>?_)
 exact dW (hr pos pins s1 σ H1 _ I1 q1) λus s2 ⟨xs,H2,I2,r2,q2⟩=>⟨x::xs,H2,I2,.cons r1 r2,q2⟩
def Vt(t:TA):TE:=λσ H Q=>t σ H λxs H1=>xs.length≤sizeLine∧∀p,H1 p=none→Q (.ref p) (upd H1 p (.tup xs))
def Jv(t:TA):TE:=λσ H Q=>t σ H λxs H1=>xs.length≤sizeLine∧∀p,H1 p=none→Q (.ref p) (upd H1 p (.lst xs))
theorem Vu{x1}(h:PA X es t):PE X (.Tuple es x1 pos) (Vt t):=by
 intro pins s σ H Q I hq
 refine wpAny_Tuple_spliced (dW (h pos pins s σ H _ I hq) λus s1 ⟨xs,H1,I1,r,z,q⟩=>⟨by rw[←r.length];exact z,?_⟩)
 have hf:H1 s1.heap.objs.size=none:=I1.hok.fresh (B7 _)
 refine⟨.ref s1.heap.objs.size,upd H1 s1.heap.objs.size (.tup xs),I1.laid (t':=s1.toks) (λb u e=>Heap.get?_push_of_some _ e) (B7 _) ?_,rfl,q _ hf⟩
 exact⟨z,us,r,⟨_,Heap.get?_push_size _ rfl,rfl,_,rfl⟩⟩
theorem Jw(h:PA X es t):PE X (.List es pos) (Jv t):=by
 intro pins s σ H Q I hq
 refine wpAny_List_spliced (dW (h pos pins s σ H _ I hq) λus s1 ⟨xs,H1,I1,r,z,q⟩=>⟨by rw[←r.length];exact z,?_⟩)
 have hf:H1 s1.heap.objs.size=none:=I1.hok.fresh (B7 _)
 refine⟨.ref s1.heap.objs.size,upd H1 s1.heap.objs.size (.lst xs),I1.laid (t':=s1.toks) (λb u e=>Heap.get?_push_of_some _ e) (B7 _) ?_,rfl,q _ hf⟩
 exact⟨z,us,0,r,Heap.get?_push_size _ rfl⟩
end
abbrev Sp:=List V→Hp→VK→XK→Prop
abbrev Jx:=List Env→Hp→Shared→XK→Value→Shared→Prop
structure Pb(P:Program)(w:World)(K:aA)(mg:Str→Option Value)(base:Heap)(A:Around)(outer:List Env)(s:Shared)(H:Hp):Prop where
 frames:A.frames=some outer
 mod:Mod K mg base
 bs:∀b o,base.get? b=some o→s.heap.get? b=some o∧H b=none
 Tg:base.objs.size≤s.heap.objs.size
 rC:s.heap.FunFrames base outer
 Yi:∀b∈frs outer,H b=none
 hok:qM P w H s.heap
 bare:AllBare s.gens
def CE(outer:List Env)(P:Program)(w:World)(H:Hp)(s:Shared)(Q:VK)(u:Value)(s':Shared):Prop:=
 ∃v H',s'.os=s.os∧AllBare s'.gens∧Un (frs outer) [] H H' s.heap s'.heap∧qM P w H' s'.heap∧RelV v u∧Q v H'
def CR(CX:Jx)(outer:List Env)(P:Program)(w:World)(H:Hp)(s:Shared)(Q:VK)(E:XK)(r:Result)(s':Shared):Prop:=
 match r with
 | .ok (.ret u)=>CE outer P w H s Q u s'
 | .ok _=>False
 | .error e=>CX outer H s E e s'
structure rG(P:Program)(w:World)(K:aA)(mg:Str→Option Value)(base:Heap)(CX:Jx)(k:Nat)(f:Addr)(fd:FuncData)(ps:List Str)(sp:Sp):Prop where
 len:∀vs H Q E,sp vs H Q E→vs.length=ps.length
 run:∀(A:Around)(outer:List Env)(s:Shared)(H:Hp)(args:Args)(us:List Value)(vs:List V)(Q:VK)(E:XK),gF k A→Pb P w K mg base A outer s H→BindsTo s fd args (ps.zip us)→Vals vs us→sp vs H Q E →
  codeAny (model P w) A (.call (.ref f) args) (CR CX outer P w H s Q E) s
section
variable{X:Cx}{pins:List (Addr×Obj)}{σ:St}{H:Hp}{s s':Shared}
theorem Inv.env0(I:Inv X pins σ H s):Pb X.prog X.w X.K X.mg X.base X.A X.stack s H:=
 ⟨I.ok.frames,I.ok.mod,I.bs,D9 I.ok.Tg I.sz,I.stack,I.Ep,I.hok,I.bare⟩
theorem Inv.after{Q:VK}{u:Value}(I:Inv X pins σ H s)(h:CE X.stack X.prog X.w H s Q u s'):EP X pins σ Q u s':=by
 obtain⟨v,H',os,bare,un,hok,r,q⟩:=h
 obtain⟨hh,g,d,t,os'⟩:=s'
 obtain rfl:os'=s.os:=os
 exact⟨v,H',I.call (h':=hh) (g':=g) (d':=d) (t':=t) (ch:=[]) un hok bare (λb z=>absurd z (by simp)),r,q⟩
end
def zW(sp:Sp)(Tq:List V)(E:XK)(t:TA):TE:=λσ H Q=>t σ H λvs H1=>sp (vs++Tq) H1 Q E
def Binds(K:aA)(fd:FuncData)(ps:List Str)(ds:List Value):Prop:=
 ∀(s:Shared)(us:List Value),K.In s.heap→(us++ds).length=ps.length→BindsTo s fd ⟨us,[]⟩ (ps.zip (us++ds))
theorem Binds.all{K:aA}{fd:FuncData}{ps:List Str}(h:∀us:List Value,us.length=ps.length→bindArgs fd ⟨us,[]⟩=pure (ps.zip us)):Binds K fd ps []:=λs us _ hl=>by
 rw[J5]at hl ⊢
 exact .of_eq (h us hl)
def Passes(CX:Jx)(X:Cx)(E:XK):Prop:=∀(pins:List (Addr×Obj))(σ:St)(H:Hp)(s:Shared)(e:Value)(s':Shared),Inv X pins σ H s→CX X.stack H s E e s'→X.xe e s'
section
variable{X:Cx}{CX:Jx}{k:Nat}{f C:Addr}{fd:FuncData}{ps:List Str}{sp:Sp}{Tq:List V}{ds:List Value}{E:XK}{x m:Str}{p pos apos:Pos}{e o:Expr}{es:List Expr}{ta:TE}{t:TA}
theorem Vv{pins:List (Addr×Obj)}{σ:St}{H:Hp}{s:Shared}{Q:VK}{us:List Value}{vs:List V}(F:rG X.prog X.w X.K X.mg X.base CX k f fd ps sp)(hr:gF k X.A)(hb:Binds X.K fd ps ds)(hd:Vals Tq ds)(hx:Passes CX X E)
  (I:Inv X pins σ H s) (r:Vals vs us) (h:sp (vs++Tq) H Q E):wpAny (model X.prog X.w) X.A (call (.ref f) us) (EP X pins σ Q) X.xe s:=by
 have r2:Vals (vs++Tq) (us++ds):=r.append hd
 have hl:(us++ds).length=ps.length:=by rw[←r2.length];exact F.len _ _ _ _ h
 refine wpAny_call (codeAny_mono (F.run X.A X.stack s H ⟨us,[]⟩ (us++ds) (vs++Tq) Q E hr I.env0 (hb s us I.wO hl) r2 h) λr s' hq=>?_)
 cases r with
 | error e=>exact hx pins σ H s e s' I hq
 | ok fl=>
  cases fl with
  | ret u=>exact I.after hq
  | next=>exact False.elim hq
  | brk=>exact False.elim hq
  | cont=>exact False.elim hq
theorem Pg(F:rG X.prog X.w X.K X.mg X.base CX k f fd ps sp)(hr:gF k X.A)(hg:Gl X x)(hm:X.mg x=some (.ref f))(hk:F6 X.K (.ref f)=true)(hb:Binds X.K fd ps ds)(hd:Vals Tq ds)(hx:Passes CX X E)
  (ha:PA X (e::es) t) (hdb:(x==("__debug__" : Str))=false:=by decide) (he:starEach (e::es) X.env=(false,eval e X.env)::starEach es X.env:=by rfl) (hpl:(backTo pos (starEach es X.env)).any (·.1)=false:=by rfl) :
  PE X (.Call (.Name x p) (e::es) [] pos) (zW sp Tq E t):=by
 intro pins s σ H Q I h
 refine wpAny_Call_Name_kw (Et I hg hm ?_ hdb)
 refine PySem.W.callWith_K (h₀:=X.base) I.ok.mod.GZ hk (dW (ha pos pins s σ H _ I h) λus s1 ⟨vs,H1,I1,r,q⟩=>⟨I1.wO,?_⟩) he hpl
 exact Vv F hr hb hd hx I1 r q
structure Mk(K:aA)(C f:Addr):Prop where
 makes:PySem.W.makesIn K C=true
 init:J0 K (.ref C) "__init__" = some (some (.ref f))
 fn:S0 K (.ref f)=true
 kp:F6 K (.ref C)=true
end
section
variable{X:Cx}{CX:Jx}{k:Nat}{f C:Addr}{fd:FuncData}{ps ks:List Str}{sp:Sp}{E:XK}{x m:Str}{p pos apos kpos:Pos}{e o:Expr}{es:List Expr}{kws:List Keyword}{te ta:TE}{t tk:TA}{nm:Option Str}
structure HY(K:aA)(fd:FuncData)(ps ks:List Str)(g:List Value→List Value→List Value)(gV:List V→List V→List V):Prop where
 to:∀(s:Shared)(us ws:List Value),K.In s.heap→(g us ws).length=ps.length→BindsTo s fd ⟨us,ks.zip ws⟩ (ps.zip (g us ws))
 rel:∀{vs:List V} {us:List Value} {zs:List V} {ws:List Value},Vals vs us→Vals zs ws→Vals (gV vs zs) (g us ws)
variable{g:List Value→List Value→List Value}{gV:List V→List V→List V}
end
structure bA(N P:List Str)(sc:Scope):Prop where
 kind:sc.kind=.function
 co:sc.isCoroutine=false
 gen:sc.isGenerator=false
 nd:N.Nodup
 pre:N.take P.length=P
 par:∀x∈P,sc.names.lookup x=some .local∨sc.names.lookup x=some .cell
 Vw:∀y∈sc.names,y.2≠.free
theorem vB{kindOf:Str→Option NameKind}{x:Str}:∀{binds:List (Str×Value)} {m:Str→Option Value},(∀v,(x,v)∉binds)→bindL kindOf binds m x=m x
 | [],_,_=>rfl
 | (n,v)::r,m,h=>by
  unfold bindL
  rw[vB λw hw=>h w (B9 _ hw)]
  split
  ·have:x≠n:=by rintro rfl;exact h v C6
   simp[this]
  ·rfl
theorem vC{kindOf:Str→Option NameKind}{x:Str}:∀{binds:List (Str×Value)} {m:Str→Option Value},(∀v,(x,v)∉binds)→bindC kindOf binds m x=m x
 | [],_,_=>rfl
 | (n,v)::r,m,h=>by
  unfold bindC
  rw[vC λw hw=>h w (B9 _ hw)]
  split
  ·rfl
  ·have:x≠n:=by rintro rfl;exact h v C6
   simp[this]
theorem vD{kindOf:Str→Option NameKind}{x:Str}{v:Value}:∀{P:List Str} {vs:List Value} {i:Nat} {m:Str→Option Value},P.Nodup→P[i]?=some x→vs[i]?=some v→kindOf x=some .local →
  bindL kindOf (P.zip vs) m x=some v
 | [],_,_,_,_,h,_,_=>by simp at h
 | _::_,[],_,_,_,_,h,_=>by simp at h
 | p::P,w::vs,0,m,nd,h1,h2,hk=>by
  simp at h1 h2;subst h1;subst h2
  show bindL kindOf ((p,w)::P.zip vs) m p=_
  unfold bindL
  rw[vB λv hv=>(K8.mp nd).1 (N6 hv).1,if_pos hk]
  simp
 | p::P,w::vs,i+1,m,nd,h1,h2,hk=>by
  show bindL kindOf ((p,w)::P.zip vs) m x=_
  unfold bindL
  exact vD (i:=i) (K8.mp nd).2 (by simpa using h1) (by simpa using h2) hk
theorem vG{kindOf:Str→Option NameKind}{x:Str}{v:Value}:∀{P:List Str} {vs:List Value} {i:Nat} {m:Str→Option Value},P.Nodup→P[i]?=some x→vs[i]?=some v→kindOf x≠some .local →
  bindC kindOf (P.zip vs) m x=some v
 | [],_,_,_,_,h,_,_=>by simp at h
 | _::_,[],_,_,_,_,h,_=>by simp at h
 | p::P,w::vs,0,m,nd,h1,h2,hk=>by
  simp at h1 h2;subst h1;subst h2
  show bindC kindOf ((p,w)::P.zip vs) m p=_
  unfold bindC
  rw[vC λv hv=>(K8.mp nd).1 (N6 hv).1,if_neg hk]
  simp
 | p::P,w::vs,i+1,m,nd,h1,h2,hk=>by
  show bindC kindOf ((p,w)::P.zip vs) m x=_
  unfold bindC
  exact vG (i:=i) (K8.mp nd).2 (by simpa using h1) (by simpa using h2) hk
def start(N:List Str)(vs:List V):St:=vs.map some++D7 (N.length-vs.length) none
def wW(CX:Jx)(P:Program)(w:World)(K:aA)(mg:Str→Option Value)(base:Heap)(N:List Str)(qual:Str)(scope:Scope)(f:Addr)(cd:Value)(A:Around)(outer:List Env)(s:Shared)(H:Hp)(E:XK):Cx where
 prog:=P
 w:=w
 K:=K
 mg:=mg
 base:=base
 A:=A.deeper (envOfC qual scope s.heap.objs.size f cd)
 N:=N
 s₀:=s
 H₀:=H
 env:=envOfC qual scope s.heap.objs.size f cd
 outer:=outer
 stack:=envOfC qual scope s.heap.objs.size f cd::outer
 ex:=[]
 calm:=true
 fn:=λ_=>true
 pn:=[]
 xe:=λe s'=>wpAny (model P w) (A.deeper (envOfC qual scope s.heap.objs.size f cd)) (leaving (envOfC qual scope s.heap.objs.size f cd) e) (λ_ s''=>CX outer H s E e s'') (λe' s''=>CX outer H s E e' s'') s'
theorem zX{sc:Scope}{n:Nat}{x:Str}(h:sc.names.lookup x=some .cell):∃c,(cellsFrom n sc.names []).lookup x=some c:=by
 have q:=N9 sc.names n [] (.inl h)
 exact Option.isSome_iff_exists.mp q
theorem Hl{CX:Jx}{P:Program}{w:World}{K:aA}{mg:Str→Option Value}{base:Heap}{N ps:List Str}{qual:Str}{scope:Scope}{f:Addr}{cd:Value}{A:Around}{outer:List Env}{s s1:Shared}{H:Hp}{E:XK}{us:List Value}{vs:List V}
  (S:bA N ps scope) (hd:A.handled=none) (e0:Pb P w K mg base A outer s H) (hl:vs.length=ps.length) (r:Vals vs us)
  (x:InCallC s s.heap.objs.size (bindL (envOfC qual scope s.heap.objs.size f cd).kindOf (ps.zip us) λ_=>none) (cellsFrom (s.heap.objs.size+1) scope.names []) (bindC (envOfC qual scope s.heap.objs.size f cd).kindOf (ps.zip us) λ_=>none) s1) :
  Inv (wW CX P w K mg base N qual scope f cd A outer s H E) [] (start N vs) H s1:=by
 have hpl:ps.length≤N.length:=by have:=congrArg List.length S.pre;rw[K2]at this;omega
 obtain⟨h1,tk,rfl,hk⟩:=x.done
 have Zh:∀b:Addr,b∉(wW CX P w K mg base N qual scope f cd A outer s H E).ex:=λb z=>absurd (show b∈([]:List Addr)from z) (by simp)
 refine⟨⟨e0.mod,S.kind,rfl,rfl,B7 _,λy z c h1 h2=>?_,λy hy=>?_,λy c _ h=>?_,λ_=>hd,Around.frames_deeper e0.frames,.inr ⟨rfl,rfl⟩,λb z=>absurd z (Zh b),e0.bs,e0.Tg,λb _ _=>Zh b,λb z=>absurd z (Zh b),e0.rC,e0.Yi⟩,
  rfl,e0.bare,Un.kept hk,⟨_,x.toInCall.ns,λi y v h1 h2 h3=>?_⟩,λy c h=>⟨_,x.cell y c h⟩,e0.hok.fresh (B7 _),λy c h=>?_,λp hp=>absurd (show p∈([]:List (Addr×Obj))from hp) (by simp),e0.hok.kept hk,?_⟩
 ·exact name_of_addr x.apart (F4 h1) (F4 h2)
 ·have hy:scope.names.lookup y=some .cell∨scope.names.lookup y=some .free:=hy
  rcases hy with hy | hy
  ·exact zX hy
  ·exact absurd rfl (S.Vw _ (F4 hy))
 ·exact P0 (x.above y c (F4 h))
 ·have hi:i<vs.length:=by
   unfold start at h2
   by_cases hi:i<vs.length
   ·exact hi
   ·rw[L6 (by simpa using hi)]at h2
    rw[N3]at h2
    split at h2<;>cases h2
  have ha:vs[i]?=some v:=by
   unfold start at h2
   rw[M5 (by simpa using hi),C3]at h2
   cases e:vs[i]? with
   | none=>rw[e]at h2;cases h2
   | some a=>rw[e]at h2;cases h2;rfl
  obtain⟨u,hu,rv⟩:=r.get ha
  have hp:ps[i]?=some y:=by
   rw[←S.pre,List.getElem?_take_of_lt (by omega)];exact h1
  have MP:ps.Nodup:=by rw[←S.pre];exact S.nd.sublist (List.take_sublist _ _)
  refine⟨u,rv,?_⟩
  rcases S.par y (J3 hp)with k | k
  ·exact .inl ⟨k,vD MP hp hu k⟩
  ·obtain⟨c,e⟩:=zX (n:=s.heap.objs.size+1) k
   refine .inr ⟨.inl k,c,e,?_⟩
   have q:=x.cell y c e
   rw[vG MP hp hu (by show scope.names.lookup y≠_;rw[k];decide)]at q
   exact q
 ·exact e0.hok.fresh (P0 (x.above y c (F4 h)))
 ·unfold start
  show _=N.length
  rw[D2,B6,O1]
  omega
theorem Zi{CX:Jx}{P:Program}{w:World}{K:aA}{mg:Str→Option Value}{base:Heap}{k:Nat}{f:Addr}{name qual:Str}{params:Arguments}{body:List Stmt}{scope:Scope}{dV kV doc pm cdv ct oc:Value}{an od:Option Addr}
  {osl:Array (Option Value)} {N ps:List Str} {sp:Sp} (lk:K.lookup f=some ⟨oc,od,.func (E2 name qual params body scope dV kV doc pm an cdv ct),osl⟩) (hcd:J1 K cdv qual=true) (S:bA N ps scope)
  (len:∀vs H Q E,sp vs H Q E→vs.length=ps.length)
  (hbody:∀(A:Around)(outer:List Env)(s:Shared)(H:Hp)(vs:List V)(Q:VK)(E:XK),gF k (A.deeper (envOfC qual scope s.heap.objs.size f cdv))→sp vs H Q E →
   ∃t,Es (wW CX P w K mg base N qual scope f cdv A outer s H E) body t∧t {nx:=λ_ H'=>Q .non H',rt:=Q} (start N vs) H) :
  rG P w K mg base CX (k+1) f (E2 name qual params body scope dV kV doc pm an cdv ct) ps sp:=by
 refine⟨len,λA outer s H args us vs Q E hr e0 hb r hsp=>?_⟩
 have hl:=len _ _ _ _ hsp
 have KX:K.In s.heap:=e0.mod.GZ.keeps λb o e=>(e0.bs b o e).1
 have lim:s.heap.NoLimit:=e0.mod.nolimit.keeps λb o e=>(e0.bs b o e).1
 have hkind:∀y∈ps.zip us,scope.names.lookup y.1=some .local∨(scope.names.lookup y.1=some .cell∧((cellsFrom (s.heap.objs.size+1) scope.names []).lookup y.1).isSome=true):=λ⟨n,v⟩ hy=>by
  rcases S.par n (N6 hy).1 with q | q
  ·exact .inl q
  ·exact .inr ⟨q,N9 _ _ _ (.inl q)⟩
 refine codeAny_call_function hr.depth (KX _ _ lk) rfl S.co S.gen rfl (PySem.W.codeRec_of KX hcd) (hb _ _ _ _ ?_)
 refine wpAny_newFunctionEnv_cells S.kind hkind λenv he s1 x=>?_
 subst he
 refine⟨lim.keeps x.toInCall.keep,codeAny_func ?_⟩
 obtain⟨t,ht,hq⟩:=hbody A outer s H vs Q E (hr.deeper _) hsp
 have I:Inv (wW CX P w K mg base N qual scope f cdv A outer s H E) [] (start N vs) H s1:=Hl S hr.hd e0 hl r x
 refine wpAny_mono (ht [] s1 (start N vs) H _ I hq) (λfl s' hs=>?_) λe s' hs=>hs
 have fin:∀{σ':St} {H':Hp} {v:V} {u:Value},Inv (wW CX P w K mg base N qual scope f cdv A outer s H E) [] σ' H' s'→RelV v u→Q v H'→CE outer P w H s Q u s':=
  λ{σ' H' v u} J rv q=>⟨v,H',J.os,J.bare,J.base,J.hok,rv,q⟩
 cases fl with
 | ret u=>
  obtain⟨v,σ',H',J,rv,q⟩:=hs
  exact fin J rv q
 | next=>
  obtain⟨σ',H',J,q⟩:=hs
  exact fin (v:=V.non) (u:=Value.none) J rfl q
 | brk=>
  obtain⟨_,_,_,q⟩:=hs
  exact False.elim q
 | cont=>
  obtain⟨_,_,_,q⟩:=hs
  exact False.elim q
end L2
namespace L2
open PySem PySem.Spec PyProof.Rows
section
variable{X:Cx}{x:Str}{p pos:Pos}{e:Expr}{es:List Expr}{t:TA}{id T:String}{r:List V→Hp→VK→Prop}
def Vx(r:List V→Hp→VK→Prop)(t:TA):TE:=λσ H Q=>t σ H λvs H1=>r vs H1 Q
theorem rH(hc:eO X (.builtin id) r)(hg:Gl X x)(hm:X.mg x=none)(hv:bootBuiltins x=some (.builtin id))(ha:PA X (e::es) t)(hn:x ≠ "__name__" := by decide) (hdb:(x==("__debug__" : Str))=false:=by decide)
  (he:starEach (e::es) X.env=(false,eval e X.env)::starEach es X.env:=by rfl) (hpl:(backTo pos (starEach es X.env)).any (·.1)=false:=by rfl):PE X (.Call (.Name x p) (e::es) [] pos) (Vx r t):=by
 intro pins s σ H Q I h
 refine wpAny_Call_Name_kw (wR I hg hm hv ?_ hn hdb)
 exact PyProof.Rows.callWith_builtin1 (dW (ha pos pins s σ H _ I h) λus s1 ⟨vs,H1,I1,r1,q1⟩=>hc pins s1 σ H1 vs us Q I1 r1 q1) he hpl
theorem Ho(hc:eO X (.type T) r)(hg:Gl X x)(hm:X.mg x=none)(hv:bootBuiltins x=some (.type T))(ha:PA X (e::es) t)(hn:x ≠ "__name__" := by decide) (hdb:(x==("__debug__" : Str))=false:=by decide)
  (he:starEach (e::es) X.env=(false,eval e X.env)::starEach es X.env:=by rfl) (hpl:(backTo pos (starEach es X.env)).any (·.1)=false:=by rfl):PE X (.Call (.Name x p) (e::es) [] pos) (Vx r t):=by
 intro pins s σ H Q I h
 refine wpAny_Call_Name_kw (wR I hg hm hv ?_ hn hdb)
 exact L5 (dW (ha pos pins s σ H _ I h) λus s1 ⟨vs,H1,I1,r1,q1⟩=>hc pins s1 σ H1 vs us Q I1 r1 q1) he hpl
end
end L2
namespace HT
open PySem PyProof.Rows
section
open PySem.SeqAt
open PySem.AutoSeq1 (wpAny_loadPart')
open PySem.MeetsSeq PySem.MeetsSeq2 PySem.MeetsSeq3
end
section
variable{prog:Program}{w:World}{A:Around}{E:Value→Shared→Prop}{s:Shared}
def vH(n d:Nat):Option Int→Nat
 | none=>d
 | some v=>if v<0 then(v+(n:Int)).toNat else min v.toNat n
end
end HT
namespace L2
open PySem PySem.Spec PyProof.Rows
abbrev TO:=St→Hp→(Option Int→Hp→Prop)→Prop
def PO(X:Cx)(e:Option Expr)(t:TO):Prop:=
 ∀(pins:List (Addr×Obj))(s:Shared)(σ:St)(H:Hp)(Q:Option Int→Hp→Prop),Inv X pins σ H s→t σ H Q →
  wpAny (model X.prog X.w) X.A (evalPart e X.env) (λu s'=>∃o H',Inv X pins σ H' s'∧IsPart u o∧Q o H') X.xe s
def Ey:TO:=λ_ H Q=>Q none H
def Tr(t:TE):TO:=λσ H Q=>t σ H λx H1=>∃i,x=.int i∧Q (some i) H1
section
variable{X:Cx}{e:Expr}{te:TE}{lo hi:Option Expr}{tl th:TO}{pos p2:Pos}
theorem Ph:PO X none Ey:=by
 intro pins s σ H Q I h
 rw[evalPart_none]
 exact wpAny_pure ⟨none,H,I,.none,h⟩
theorem Pj(h:PE X e te):PO X (some e) (Tr te):=by
 intro pins s σ H Q I hw
 rw[evalPart_some]
 refine dW (h pins s σ H _ I hw) λu s1 ⟨x,H1,I1,r1,q1⟩=>?_
 obtain⟨i,rfl,q⟩:=q1
 obtain⟨t,rfl⟩:=r1
 exact⟨some i,H1,I1,.int i t,q⟩
def FZ(X:Cx)(r:V→Option Int→Option Int→Hp→VK→Prop):Prop:=
 ∀(pins:List (Addr×Obj))(s:Shared)(σ:St)(H:Hp)(x:V)(v vl vu:Value)(lo hi:Option Int)(sl:Addr)(Q:VK),Inv X pins σ H s→RelV x v→s.heap.IsSliceOf sl vl vu .none→IsPart vl lo→IsPart vu hi→r x lo hi H Q →
  ∃T id,typeLookup (.type T) "__getitem__" = pure (some (.builtin id))∧s.TypeIs v T∧wpAny (model X.prog X.w) X.A (getItem v (.ref sl)) (EP X pins σ Q) X.xe s
def IK(r:V→Option Int→Option Int→Hp→VK→Prop)(te:TE)(tl th:TO):TE:=λσ H Q=>te σ H λx H1=>tl σ H1 λl H2=>th σ H2 λu H3=>r x l u H3 Q
theorem zY{r:V→Option Int→Option Int→Hp→VK→Prop}(hr:FZ X r)(he:PE X e te)(hl:PO X lo tl)(hu:PO X hi th):PE X (.Subscript e (.Slice lo hi none p2) pos) (IK r te tl th):=by
 intro pins s σ H Q I h
 refine Subscript_ (dW (he pins s σ H _ I h) λv s1 ⟨x,H1,I1,r1,q1⟩=>?_)
 refine wpAny_Slice (dW (hl pins s1 σ H1 _ I1 q1) λvl s2 ⟨l,H2,I2,pl,q2⟩=>dW (hu pins s2 σ H2 _ I2 q2) λvu s3 ⟨u,H3,I3,pu,q3⟩=>?_)
 rw[evalPart_none]
 refine wpAny_pure ?_
 have I4:Inv X pins σ H3 {s3 with heap:=s3.heap.push {cls:=.type "slice", data:=.fields #[vl,vu,.none]}}:=I3.kept (t':=s3.toks) λb ob q=>Heap.get?_push_of_some _ q
 obtain⟨T,id,hT,ht,hg⟩:=hr pins {s3 with heap:=s3.heap.push {cls:=.type "slice", data:=.fields #[vl,vu,.none]}} σ H3 x v vl vu l u s3.heap.objs.size Q I4 r1 (Heap.IsSliceOf.new ..) pl pu q3
 show wpAny (model X.prog X.w) X.A (subscriptTail e (.Slice lo hi none p2) v (.ref s3.heap.objs.size)) (EP X pins σ Q) X.xe {s3 with heap:=s3.heap.push {cls:=.type "slice", data:=.fields #[vl,vu,.none]}}
 exact tail_any (ops:=[.ref s3.heap.objs.size,v]) ht hT hg (by with_unfolding_all rfl)
def Cm(xs:List V)(lo hi:Option Int):List V:=(xs.drop (HT.vH xs.length 0 lo)).take (HT.vH xs.length xs.length hi-HT.vH xs.length 0 lo)
theorem zZ(xs:List V)(lo hi:Option Int):(Cm xs lo hi).length≤xs.length:=by
 unfold Cm
 rw[K2,M8]
 omega
end
end L2
namespace L2
open PySem PySem.Spec PyProof.Rows
def Tt(n:Nat)(i:Int):Option Nat:=if 0≤i then(if i<n then some i.toNat else none)else if -(n:Int)≤i then some (i+n).toNat else none
def Aa{α:Type}(xs:List α)(i:Int):Option α:=(Tt xs.length i).bind λj=>xs[j]?
theorem Pk{n:Nat}{i:Int}{j:Nat}(h:Tt n i=some j):seqIndex? i n=some j∧j<n∧-(n:Int)≤i∧i<n:=by
 unfold Tt at h
 by_cases h0:0≤i
 ·rw[if_pos h0]at h
  by_cases h1:i<n
  ·rw[if_pos h1]at h
   have e:i.toNat=j:=E1 h
   exact⟨by rw[seqIndex_of h0 h1,e],by omega,by omega,h1⟩
  ·rw[if_neg h1]at h;cases h
 ·rw[if_neg h0]at h
  by_cases h1:-(n:Int)≤i
  ·rw[if_pos h1]at h
   have e:(i+n).toNat=j:=E1 h
   exact⟨by rw[seqIndex_neg (by omega) h1,e],by omega,h1,by omega⟩
  ·rw[if_neg h1]at h;cases h
theorem wX{α:Type}{xs:List α}{i:Int}{v:α}(h:Aa xs i=some v):∃j,seqIndex? i xs.length=some j∧xs[j]?=some v∧j<xs.length∧-(xs.length:Int)≤i∧i<xs.length:=by
 unfold Aa at h
 cases e:Tt xs.length i with
 | none=>rw[e]at h;cases h
 | some j=>
  rw[e]at h
  obtain⟨h1,h2,h3,h4⟩:=Pk e
  exact⟨j,h1,h,h2,h3,h4⟩
theorem Pn{α:Type}{xs:List α}{j:Nat}{v:α}(h:xs[j]?=some v):Aa xs (j:Int)=some v:=by
 have hj:j<xs.length:=(B8.mp h).1
 have e:Tt xs.length (j:Int)=some j:=by
  unfold Tt
  rw[if_pos (by omega),if_pos (by omega)];simp
 unfold Aa;rw[e];exact h
def qW(b:Expr):Prop:=∀o i,subscripted b false o i=operate [o,i] (getItem o i)
def Og(X:Cx)(r:R2):Prop:=
 ∀(value slice:Expr)(pins:List (Addr×Obj))(s:Shared)(σ:St)(H:Hp)(x y:V)(v u:Value)(Q:VK),Inv X pins σ H s→RelV x v→RelV y u→r x y H Q →
  subscripted slice false v u=operate [v,u] (getItem v u)→wpAny (model X.prog X.w) X.A (subscriptTail value slice v u) (EP X pins σ Q) X.xe s
def Zj(X:Cx)(id:String)(r:V→List V→Hp→VK→Prop):Prop:=
 ∀(pins:List (Addr×Obj))(s:Shared)(σ:St)(H:Hp)(x:V)(xs:List V)(v:Value)(us:List Value)(Q:VK),Inv X pins σ H s→RelV x v→Vals xs us→r x xs H Q →
  wpAny (model X.prog X.w) X.A (call (.builtin id) (v::us)) (EP X pins σ Q) X.xe s
section
variable{X:Cx}{a b:Expr}{ta tb:TE}{pos:Pos}
theorem Og.or{r r':R2}(h:Og X r)(h':Og X r'):Og X (λx y H Q=>r x y H Q∨r' x y H Q):=by
 intro value slice pins s σ H x y v u Q I rx ry q hs
 rcases q with q | q
 ·exact h value slice pins s σ H x y v u Q I rx ry q hs
 ·exact h' value slice pins s σ H x y v u Q I rx ry q hs
theorem Jy{r:R2}(hr:Og X r)(ha:PE X a ta)(hb:PE X b tb)(hs:qW b):PE X (.Subscript a b pos) (zM r ta tb):=by
 intro pins s σ H Q I h
 exact Subscript_ (Vk ha hb I h λv u s2 x y H2 I2 rx ry q=>hr a b pins s2 σ H2 x y v u Q I2 rx ry q (hs _ _))
def Zk(K:aA):R2:=λx y H Q=>∃p xs i v,x=.ref p∧y=.int i∧iH K H p xs∧Aa xs i=some v∧Q v H
def Zm(K:aA):R2:=λx y H Q=>∃p xs i v,x=.ref p∧y=.int i∧lB K H p xs∧Aa xs i=some v∧Q v H
def Vy:R2:=λx y H Q=>∃z i c,x=.str z∧y=.int i∧z.length≤sizeLine∧Aa z.cps.toList i=some c∧Q (.str ⟨#[c]⟩) H
theorem Pq:Og X (Zk X.K):=by
 intro value slice pins s σ H x y v u Q I rx ry h hs
 obtain⟨p,xs,i,z,rfl,rfl,hq,he,q⟩:=h
 cases rx
 obtain⟨t,rfl⟩:=ry
 obtain⟨its,r,pl,hz⟩:=I.list hq
 obtain⟨j,h1,h2,h3,h4,h5⟩:=wX he
 obtain⟨w,ew,Vz⟩:=r.get h2
 have hl:=r.length
 have hn:=rF
 have fin:EP X pins σ Q w s:=⟨z,H,I,Vz,q⟩
 by_cases h0:0≤i
 ·have hj:i.toNat=j:=by
   rw[seqIndex_of h0 h5]at h1
   exact E1 h1
  exact item_listR pl.isList h0 (by omega) (by rw[hj];simpa using ew) fin hs
 ·have hj:(i+(its.toArray.size:Int)).toNat=j:=by
   rw[seqIndex_neg (by omega) h4]at h1
   rw[B3,←hl]
   exact E1 h1
  exact subscriptTail_builtinR (x:=w) pl.isList.typeIs slot_list_getitem.lookup
   (wpAny_getItem_list_neg (Q:=λr s'=>r=w∧EP X pins σ Q r s') pl.isList (by omega) (by rw[B3]<;>omega) (by omega) (by rw[hj];simpa using ew) ⟨rfl,fin⟩) hs
theorem Wa:Og X (Zm X.K):=by
 intro value slice pins s σ H x y v u Q I rx ry h hs
 obtain⟨p,xs,i,z,rfl,rfl,hq,he,q⟩:=h
 cases rx
 obtain⟨t,rfl⟩:=ry
 obtain⟨its,r,pl,hz⟩:=I.tuple hq
 obtain⟨j,h1,h2,h3,h4,h5⟩:=wX he
 obtain⟨w,ew,Vz⟩:=r.get h2
 have hl:=r.length
 have hn:=rF
 have fin:EP X pins σ Q w s:=⟨z,H,I,Vz,q⟩
 exact subscriptTail_builtinR (x:=w) pl.typeIs slot_tuple_getitem.lookup
  (getItem_tuple (j:=j) (Q:=λr s'=>r=w∧EP X pins σ Q r s') pl (by omega) (by omega) (by rw[B3,←hl];exact h1) (by simpa using ew) ⟨rfl,fin⟩) hs
theorem Jz:Og X Vy:=by
 intro value slice pins s σ H x y v u Q I rx ry h hs
 obtain⟨z,i,c,rfl,rfl,hz,he,q⟩:=h
 obtain⟨t,rfl⟩:=rx
 obtain⟨t',rfl⟩:=ry
 obtain⟨j,h1,h2,h3,h4,h5⟩:=wX he
 have hl:z.cps.toList.length=z.length:=by simp[Str.length]
 rw[hl]at h1 h4 h5
 have hn:=rF
 exact tail_any (typeIs_str s z t) slot_str_getitem.lookup (getItem_str (c:=c) (by
  have e1:decide (i < -(2 ^ 63:Int))=false:=decide_eq_false (by omega)
  have e2:decide (i≥2 ^ 63)=false:=decide_eq_false (by omega)
  rw[e1,e2,Bool.or_false]) (by rw[h1];simpa using h2) ⟨.str ⟨#[c]⟩,H,I.tok _,⟨_,rfl⟩,q⟩) hs
def GC(K:aA):R2:=λx y H Q=>Zk K x y H Q∨Zm K x y H Q∨Vy x y H Q
theorem Wb:Og X (GC X.K):=Pq.or (Wa.or Jz)
theorem wY(lo hi:Option Int)(n:Nat):(sliceBounds lo hi none n).1=((HT.vH n 0 lo:Nat):Int)∧(sliceBounds lo hi none n).2.1=((HT.vH n n hi:Nat):Int)∧(sliceBounds lo hi none n).2.2=1:=by
 refine⟨?_,?_,rfl⟩
 ·cases lo with
  | none=>simp[sliceBounds,HT.vH]
  | some i=>
   simp only[sliceBounds,HT.vH,Q2,show (1:Int) > 0 by decide,if_true]
   by_cases h:i<0
   ·simp only[h,if_true]<;>omega
   ·simp only[h,if_false]<;>omega
 ·cases hi with
  | none=>simp[sliceBounds,HT.vH]
  | some i=>
   simp only[sliceBounds,HT.vH,Q2,show (1:Int) > 0 by decide,if_true]
   by_cases h:i<0
   ·simp only[h,if_true]<;>omega
   ·simp only[h,if_false]<;>omega
theorem uI(its:List Value)(lo hi:Option Int):slicePick its.toArray lo hi none=((its.drop (HT.vH its.length 0 lo)).take (HT.vH its.length its.length hi-HT.vH its.length 0 lo)).toArray:=by
 obtain⟨h1,h2,h3⟩:=wY lo hi its.toArray.size
 unfold slicePick
 rw[h1,h2,h3]
 simp only[sliceRange_one,pick_run,B3]<;>rfl
def Wc(K:aA):V→Option Int→Option Int→Hp→VK→Prop:=λx lo hi H Q=>∃a xs,x=.ref a∧iH K H a xs∧∀p,H p=none→Q (.ref p) (upd H p (.lst (Cm xs lo hi)))
theorem Pu:FZ X (Wc X.K):=by
 intro pins s σ H x v vl vu lo hi sl Q I rx hs pl pu h
 obtain⟨a,xs,rfl,hx,q⟩:=h
 cases rx
 obtain⟨its,r,ht,hz⟩:=I.list hx
 have hlen:=r.length
 refine⟨"list", _,slot_list_getitem.lookup,ht.isList.typeIs,?_⟩
 refine wpAny_getItem_list_slice ht.isList hs pl pu .none (by simp) ?_ (by rw[B3]<;>omega)
 rw[uI,←hlen]
 refine⟨.ref s.heap.objs.size,_,I.laid (t':=s.toks) (o:=.lst (Cm xs lo hi)) (λb ob q=>Heap.get?_push_of_some _ q) (B7 _) ?_,rfl,q _ (I.hok.fresh (B7 _))⟩
 exact⟨D9 (zZ xs lo hi) hz,_,0,(r.drop (HT.vH xs.length 0 lo)).take (HT.vH xs.length xs.length hi-HT.vH xs.length 0 lo),Heap.get?_push_size _ rfl⟩
theorem wZ:eO X (.builtin "len") (λxs H Q=>∃p ys,xs=[.ref p]∧(iH X.K H p ys∨lB X.K H p ys)∧Q (.int ys.length) H):=by
 intro pins s σ H xs us Q I r h
 obtain⟨p,ys,rfl,hq,q⟩:=h
 obtain⟨u,rfl,rx⟩:=vals1 r
 cases rx
 have hn:=rF
 rcases hq with hq | hq
 ·obtain⟨its,r',pl,hz⟩:=I.list hq
  have hlen:=r'.length
  exact Calls.call_len_list pl.isList (by simp only[B3]<;>omega) ⟨.int ys.length,H,I.tok _,⟨s.toks+1,by rw[B3,hlen]⟩,q⟩
 ·obtain⟨its,r',pl,hz⟩:=I.tuple hq
  have hlen:=r'.length
  exact len_tuple pl (by simp only[B3]<;>omega) ⟨.int ys.length,H,I.tok _,⟨s.toks+1,by rw[B3,hlen]⟩,q⟩
theorem xF:eO X (.builtin "len") (λxs H Q=>∃z,xs=[.str z]∧z.length≤sizeLine∧Q (.int z.length) H):=by
 intro pins s σ H xs us Q I r h
 obtain⟨z,rfl,hz,q⟩:=h
 obtain⟨u,rfl,t,rfl⟩:=vals1 r
 have hn:=rF
 exact len_str (by omega) ⟨.int z.length,H,I.tok _,⟨_,rfl⟩,q⟩
theorem xG:eO X (.type "list") (λxs H Q=>∃p ys,xs=[.ref p]∧(iH X.K H p ys∨lB X.K H p ys)∧∀l,H l=none→Q (.ref l) (upd H l (.lst ys))):=by
 intro pins s σ H xs us Q I r h
 obtain⟨p,ys,rfl,hq,q⟩:=h
 obtain⟨u,rfl,rx⟩:=vals1 r
 cases rx
 have fin:∀(its:List Value),Vals ys its→ys.length≤sizeLine→∀(h':Heap)(c':Nat),(∀b o',s.heap.get? b=some o'→h'.get? b=some o') →
   h'.get? s.heap.objs.size=some {cls:=.type "list", dict:=none,data:=.seq its.toArray c',slots:=#[]}→EP X pins σ Q (.ref s.heap.objs.size) {s with heap:=h'}:=λits r' hz h' c' kp e=>
  ⟨.ref s.heap.objs.size,_,I.laid (t':=s.toks) kp (B7 _) (show dO X.prog X.w _ h' _ (.lst ys)from⟨hz,its,c',r',e⟩),rfl,q _ (I.hok.fresh (B7 _))⟩
 rcases hq with hq | hq
 ·obtain⟨its,r',pl,hz⟩:=I.list hq
  have hlen:=r'.length
  obtain⟨o,ho,hc,n,hd⟩:=pl.isList
  exact call_list_seq p (.inl rfl) ho hc hd (λh' c' kp e=>fin its r' hz h' c' kp e) (by simp only[B3]<;>omega)
 ·obtain⟨its,r',pl,hz⟩:=I.tuple hq
  have hlen:=r'.length
  obtain⟨o,ho,hc,n,hd⟩:=pl
  exact call_list_seq p (.inr rfl) ho hc hd (λh' c' kp e=>fin its r' hz h' c' kp e) (by simp only[B3]<;>omega)
theorem uJ:eO X (.type "tuple") (λxs H Q=>∃p ys,xs=[.ref p]∧((iH X.K H p ys∧∀l,H l=none→Q (.ref l) (upd H l (.tup ys)))∨(lB X.K H p ys∧Q (.ref p) H))):=by
 intro pins s σ H xs us Q I r h
 obtain⟨p,ys,rfl,h⟩:=h
 obtain⟨u,rfl,rx⟩:=vals1 r
 cases rx
 rcases h with ⟨hq,q⟩ | ⟨hq,q⟩
 ·obtain⟨its,r',pl,hz⟩:=I.list hq
  have hlen:=r'.length
  refine call_tuple_list pl.isList (λh' kp=>?_) (by simp only[B3]<;>omega)
  have I1:Inv X pins σ H {s with heap:=h'}:=I.kept (t':=s.toks) kp
  have I2:Inv X pins σ (upd H h'.objs.size (.tup ys)) {s with heap:=h'.push {cls:=.type "tuple", data:=.seq its.toArray}}:=
   I1.laid (t':=s.toks) (λb o e=>Heap.get?_push_of_some _ e) (B7 _) (show dO X.prog X.w _ _ _ (.tup ys)from⟨hz,its,r',IsTup.new _ _⟩)
  exact⟨.ref h'.objs.size,_,I2,rfl,q _ (I1.hok.fresh (B7 _))⟩
 ·obtain⟨its,r',pl,hz⟩:=I.tuple hq
  exact call_tuple_same pl ⟨.ref p,H,I,rfl,q⟩
def IV(K:aA)(T:String)(x:V)(H:Hp):Prop:=match x with
 | .str _=>T = "str"
 | .int _=>T = "int"
 | .ref p=>(T = "list" ∧ ∃xs,iH K H p xs)∨(T = "tuple" ∧ ∃o,K.lookup p=some o∧o.cls=.type "tuple" ∧ o.dict=none) ∨
   (T = "dict" ∧ ((∃kvs,H p=some (.dK kvs))∨∃kvs,H p=some (.dT kvs)))∨(T = "set" ∧ ∃S n,H p=some (.set S n))
 | _=>False
theorem Ka{pins:List (Addr×Obj)}{σ:St}{H:Hp}{s:Shared}{T:String}{x:V}{v:Value}(I:Inv X pins σ H s)(r:RelV x v)(ty:IV X.K T x H) :
  s.TypeIs v T∧∀a,v=.ref a→∃ob,s.heap.get? a=some ob∧ob.dict=none:=by
 cases x with
 | str z=>
  obtain⟨t,rfl⟩:=r
  cases(show T = "str" from ty)
  exact⟨typeIs_str s z t,λ_ e=>nomatch e⟩
 | int i=>
  obtain⟨t,rfl⟩:=r
  cases(show T = "int" from ty)
  exact⟨typeIs_int s i t,λ_ e=>nomatch e⟩
 | ref p=>
  cases r
  rcases ty with ⟨rfl,xs,hq⟩ | ⟨rfl,o,hk,hc,hd⟩ | ⟨rfl,hk⟩ | ⟨rfl,S,n,hk⟩
  ·obtain⟨its,_,pl,_⟩:=I.list hq
   refine⟨pl.isList.typeIs,λa e=>?_⟩
   cases e
   obtain⟨o,n,e,c,hd,_⟩:=pl
   exact⟨o,e,hd⟩
  ·refine⟨⟨o,I.wO p o hk,hc⟩,λa e=>?_⟩
   cases e
   exact⟨o,I.wO _ o hk,hd⟩
  ·have z:∃o,s.heap.get? p=some o∧o.ExactDict:=by
    rcases hk with ⟨kvs,hk⟩ | ⟨kvs,hk⟩
    ·obtain⟨_,_,_,_,o,_,_,e,ex,_⟩:=I.hok p _ hk
     exact⟨o,e,ex⟩
    ·obtain⟨_,_,_,_,o,_,_,e,ex,_⟩:=I.hok p _ hk
     exact⟨o,e,ex⟩
   obtain⟨o,e,ex⟩:=z
   refine⟨⟨o,e,ex.1⟩,λa e2=>?_⟩
   cases e2
   exact⟨o,e,ex.2.1⟩
  ·obtain⟨o,_,_,_,e,ex,_⟩:=I.hok p _ hk
   refine⟨⟨o,e,ex.1⟩,λa e2=>?_⟩
   cases e2
   exact⟨o,e,ex.2.1⟩
 | _=>exact False.elim ty
def Px(K:aA)(T:String)(r:V→List V→Hp→VK→Prop)(to:TE):TE:=λσ H Q=>to σ H λx H1=>IV K T x H1∧r x [] H1 Q
def Hq(K:aA)(T:String)(r:V→List V→Hp→VK→Prop)(to:TE)(t:TA):TE:=λσ H Q=>to σ H λx H1=>IV K T x H1∧t σ H1 λxs H2=>r x xs H2 Q
variable{o e:Expr}{es:List Expr}{to:TE}{t:TA}{name:Str}{apos cpos:Pos}{T id:String}{r:V→List V→Hp→VK→Prop}
theorem Wd(pa:PlainAttrs T)(slot:Slot T name id)(hty:typeOf (.builtin id)=pure (.type "method_descriptor")) (hm:Zj X id r) (ho:PE X o to)
  (hbase:attributeBase o name X.env (eval o X.env)=eval o X.env:=by rfl) (hline:(apos.endLine==cpos.line)=true:=by rfl):PE X (.Call (.Attribute o name apos) [] [] cpos) (Px X.K T r to):=by
 intro pins s σ H Q I h
 refine wpAny_Call_method0_late hbase hline (dW (ho pins s σ H _ I h) λv s1 ⟨x,H1,I1,r1,ty,q1⟩=>?_)
 obtain⟨h1,h2⟩:=Ka I1 r1 ty
 exact⟨T,id,pa,slot,hty,h1,h2,Calls.callWith_builtin rfl (PySem.evalArgs_none (hm pins s1 σ H1 x [] v [] Q I1 r1 .nil q1))⟩
theorem gG(pa:PlainAttrs T)(slot:Slot T name id)(hty:typeOf (.builtin id)=pure (.type "method_descriptor")) (hm:Zj X id r) (ho:PE X o to) (ha:PA X (e::es) t)
  (hbase:attributeBase o name X.env (eval o X.env)=eval o X.env:=by rfl)
  (hfew:((backTo cpos (starEach (e::es) X.env)).all (λx=>!x.1)&&(backToKw cpos (keywordEach [] X.env)).all (λx=>x.1.isSome)
   && decide ((e::es).length+([]:List Keyword).length+(if([]:List Keyword).isEmpty then 0 else 1)<30))=true:=by rfl)
  (hline:(apos.endLine==cpos.line)=true:=by rfl) (hs:starEach (e::es) X.env=(false,eval e X.env)::starEach es X.env:=by rfl) (hplain:(backTo cpos (starEach es X.env)).any (·.1)=false:=by rfl) :
  PE X (.Call (.Attribute o name apos) (e::es) [] cpos) (Hq X.K T r to t):=by
 intro pins s σ H Q I h
 refine wpAny_Call_method_late hbase hfew hline rfl (dW (ho pins s σ H _ I h) λv s1 ⟨x,H1,I1,r1,ty,q1⟩=>?_)
 obtain⟨h1,h2⟩:=Ka I1 r1 ty
 refine⟨T,id,pa,slot,hty,h1,h2,?_⟩
 have hA:=ha cpos pins s1 σ H1 _ I1 q1
 rw[hs]at hA ⊢
 refine Calls.callWith_builtin (by show (false||(backTo cpos (starEach es X.env)).any (·.1))=false;rw[hplain]<;>rfl) (Calls.evalArgs_plain ?_)
 exact dW hA λus s2 ⟨vs,H2,I2,r2,q2⟩=>hm pins s2 σ H2 x vs v us Q I2 r1 r2 q2
end
end L2
namespace L2
open PySem PySem.Spec PyProof.Rows
def MT(X:Cx)(id:String)(r:V→List V→Hp→VK→Prop):Prop:=
 ∀(pins:List (Addr×Obj))(s:Shared)(σ:St)(H:Hp)(x:V)(xs:List V)(v:Value)(us:List Value)(Q:VK),Inv X pins σ H s→RelV x v→Vals xs us→r x xs H Q →
  wpAny (model X.prog X.w) X.A (call (.builtin id) (v::us)) (EP X pins σ Q) X.xe s
theorem Vals.one:∀{x:V} {us:List Value},Vals [x] us→∃u,us=[u]∧RelV x u
 | _,_,.cons r .nil=>⟨_,rfl,r⟩
theorem Vals.zero:∀{us:List Value},Vals [] us→us=[]
 | _,.nil=>rfl
section
variable{X:Cx}{pins:List (Addr×Obj)}{σ:St}{H:Hp}{s:Shared}{l b:Addr}{xs ys zs:List V}
theorem Inv.Zo{its its':List Value}{n:Nat}{f:Array Value→Array Value}{t':Nat}(I:Inv X pins σ H s)(hH:H l=some (.lst xs))
  (e:s.heap.get? l=some {cls:=.type "list", data:=.seq its.toArray n}) (hf:f its.toArray=its'.toArray) (hv:Vals ys its') (hz:ys.length≤sizeLine) :
  Inv X pins σ (upd H l (.lst ys)) {s with heap:=s.heap.update l (Obj.mapSeq f),toks:=t'}:=by
 have q:=PySem.IsL.update e f
 rw[hf]at q
 refine I.write (x:=l) (e:=l) (by rw[hH];exact trivial) (.inl rfl) (λb' u hb hu=>(Heap.get?_update_other s.heap (Obj.mapSeq f) (Ne.symm hb)).trans hu) ⟨_,q⟩ ?_
 exact⟨hz,its',_,hv,q⟩
theorem Inv.Kc{its:List Value}{t':Nat}(I:Inv X pins σ H s)(hv:Vals ys its)(hz:ys.length≤sizeLine) :
  Inv X pins σ (upd H s.heap.objs.size (.lst ys)) {s with heap:=s.heap.push {cls:=.type "list", data:=.seq its.toArray},toks:=t'}:=
 I.laid (λ_ _ q=>Heap.get?_push_of_some _ q) (B7 _) ⟨hz,its,0,hv,Heap.get?_push_size _ rfl⟩
theorem Inv.fresh(I:Inv X pins σ H s):H s.heap.objs.size=none:=I.hok.fresh (B7 _)
theorem Inv.Zq(I:Inv X pins σ H s)(hH:H l=some (.lst xs)):xs.length≤sizeLine∧∃(its:List Value)(n:Nat),Vals xs its∧xs.length=its.length∧s.heap.get? l=some {cls:=.type "list", data:=.seq its.toArray n}:=by
 obtain⟨z,its,n,r,e⟩:=I.hok l _ hH
 exact⟨z,its,n,r,r.length,e⟩
end
section
variable{X:Cx}
def jE:V→List V→Hp→VK→Prop:=λx vs H Q=>∃l xs y,x=.ref l∧vs=[y]∧H l=some (.lst xs)∧xs.length<sizeLine∧Q .non (upd H l (.lst (xs++[y])))
theorem gA:MT X "list.append" jE:=by
 intro pins s σ H x vs v us Q I rx rv h
 obtain⟨l,xs,y,rfl,rfl,hH,hz,q⟩:=h
 cases rx
 obtain⟨u,rfl,ru⟩:=rv.one
 obtain⟨z,its,n,r,hl,e⟩:=I.Zq hH
 refine call_meets F.slot_list_append ⟨_,e,rfl⟩ F.entry_list_append (F.args_list_append_2 _ _) (PySem.list_append l its.toArray n u (by rw[B3];omega)) ⟨e,?_⟩
 refine⟨.non,_,I.Zo (its':=its++[u]) hH e (by simp) (r.append (.cons ru .nil)) ?_,rfl,q⟩
 rw[D2,F7]
 omega
def xH:V→List V→Hp→VK→Prop:=λx vs H Q=>∃l xs,x=.ref l∧vs=[]∧H l=some (.lst xs)∧Q .non (upd H l (.lst []))
theorem Kd:MT X "list.clear" xH:=by
 intro pins s σ H x vs v us Q I rx rv h
 obtain⟨l,xs,rfl,rfl,hH,q⟩:=h
 cases rx
 have hus:=rv.zero
 subst hus
 obtain⟨z,its,n,r,hl,e⟩:=I.Zq hH
 refine call_meets F.slot_list_clear ⟨_,e,rfl⟩ F.entry_list_clear (F.args_list_clear_1 _) (AutoSeq1.list_clear_list_0 l its.toArray n (by rw[B3];omega)) ⟨e,?_⟩
 exact⟨.non,_,I.Zo (its':=[]) (ys:=[]) hH e rfl .nil (L4 _),rfl,q⟩
end
section
variable{prog:Program}{w:World}{A:Around}{E:Value→Shared→Prop}{s:Shared}
end
section
variable{X:Cx}
end
end L2
namespace L2
open PySem PySem.Spec PyProof.Rows
section
variable{κ:Type} [DecidableEq κ]
def Hr(kvs:List (κ×V))(k:κ):Option V:=(kvs.find? λkv=>decide (kv.1=k)).map (·.2)
def putK(kvs:List (κ×V))(k:κ)(v:V):List (κ×V):=
 if(kvs.any λkv=>decide (kv.1=k))=true then kvs.map (λkv=>if kv.1=k then(kv.1,v)else kv)else kvs++[(k,v)]
def NB(kvs:List (κ×V))(k:κ):List (κ×V):=kvs.filter λkv=>decide (kv.1≠k)
end
abbrev KT(H:Hp):List (List Key×V)→List (List Key×Addr×Value)→Prop:=Paired λp q=>p.1=q.1∧H q.2.1=some (.tup (p.1.map kV))∧RelV p.2 q.2.2
section
variable{P:Program}{w:World}{H:Hp}{h:Heap}{a:Addr}
end
def QC(H:Hp)(a:Addr)(y:V)(r:Option V):Prop:=
 (∃kvs k,Rd H a (.dK kvs)∧y=kV k∧r=Hr kvs k)∨∃kvs k b,Rd H a (.dT kvs)∧y=.ref b∧H b=some (.tup (k.map kV))∧r=Hr kvs k
def QD(H:Hp)(a:Addr)(y v:V)(H':Hp):Prop:=
 (∃kvs k,H a=some (.dK kvs)∧y=kV k∧kvs.length<sizeLine∧H'=upd H a (.dK (putK kvs k v))) ∨
 ∃kvs k b,H a=some (.dT kvs)∧y=.ref b∧H b=some (.tup (k.map kV))∧kvs.length<sizeLine∧H'=upd H a (.dT (putK kvs k v))
section
variable{X:Cx}{pins:List (Addr×Obj)}{σ:St}{H:Hp}{s:Shared}{a:Addr}{y v:V}{u r:Value}{o:Option V}{A:Around}{E:Value→Shared→Prop}
end
section
variable{X:Cx}{pins:List (Addr×Obj)}{σ:St}{H:Hp}{s:Shared}{a:Addr}{kvs:List (Key×V)}{k:Key}{u:Value}{A:Around}{E:Value→Shared→Prop}
end
section
variable{X:Cx}{o i e value:Expr}{pos pos' tpos:Pos}{td ty tv:TE}
end
section
variable{X:Cx}{pos:Pos}
end
def Cp:List (TE×TE)→St→Hp→(List (V×V)→Hp→Prop)→Prop
 | [],_,H,Q=>Q [] H
 | (tk,tv)::r,σ,H,Q=>tk σ H λx H1=>tv σ H1 λy H2=>Cp r σ H2 λps H3=>Q ((x,y)::ps) H3
abbrev VV:List (V×V)→List (Value×Value)→Prop:=Paired λp q=>RelV p.1 q.1∧RelV p.2 q.2
def QF(X:Cx)(pos:Pos)(keys:List (Option Expr))(values:List Expr)(QG:List (TE×TE)):Prop:=
 ∀(pins:List (Addr×Obj))(s:Shared)(σ:St)(H:Hp)(Q:List (V×V)→Hp→Prop),Inv X pins σ H s→Cp QG σ H Q →
  wpAny (model X.prog X.w) X.A (evalPairs (pairTrees keys values X.env pos)) (λvs s'=>∃ps H',Inv X pins σ H' s'∧VV ps vs∧Q ps H') X.xe s
structure M1(X:Cx)(o:Expr)(m:Str)(apos:Pos)(e:Expr)(cpos:Pos):Prop where
 base:attributeBase o m X.env (eval o X.env)=eval o X.env
 few:((backTo cpos (starEach [e] X.env)).all (λx=>!x.1)&&(backToKw cpos (keywordEach [] X.env)).all (λx=>x.1.isSome)
  && decide (([e]:List Expr).length+([]:List Keyword).length+(if([]:List Keyword).isEmpty then 0 else 1)<30))=true
 line:(apos.endLine==cpos.line)=true
 trees:backTo cpos (starEach [e] X.env)=[(false,eval e X.env)]
structure M2(X:Cx)(o:Expr)(m:Str)(apos:Pos)(e f:Expr)(cpos:Pos):Prop where
 base:attributeBase o m X.env (eval o X.env)=eval o X.env
 few:((backTo cpos (starEach [e,f] X.env)).all (λx=>!x.1)&&(backToKw cpos (keywordEach [] X.env)).all (λx=>x.1.isSome)
  && decide (([e,f]:List Expr).length+([]:List Keyword).length+(if([]:List Keyword).isEmpty then 0 else 1)<30))=true
 line:(apos.endLine==cpos.line)=true
 trees:backTo cpos (starEach [e,f] X.env)=[(false,eval e X.env),(false,eval f X.env)]
section
variable{X:Cx}{pins:List (Addr×Obj)}{σ:St}{H:Hp}{s:Shared}{a:Addr}{y d:V}{u r:Value}{o:Option V}{A:Around}{E:Value→Shared→Prop}
end
section
variable{X:Cx}{o e f:Expr}{apos cpos:Pos}{td ty tx:TE}
end
section
variable{X:Cx}{pins:List (Addr×Obj)}{σ:St}{H:Hp}{s:Shared}{a:Addr}{kvs:List (Key×V)}{A:Around}{E:Value→Shared→Prop}
end
section
variable{X:Cx}{pins:List (Addr×Obj)}{σ:St}{H:Hp}{s:Shared}{a:Addr}{y:V}{u:Value}{A:Around}{E:Value→Shared→Prop}
end
end L2
namespace Att
open PySem PySem.W PySem.Calls PyProof.Rows
theorem qO{P:Params}{h:Heap}:∀(ns:List Int)(vs:List Value),WellAll P h vs (ns.map WData.int)→IntsAre vs ns:=by
 intro ns
 induction ns with
 | nil=>
  intro vs w
  rw[G1]at w
  cases w
  exact .nil
 | cons n ns ih=>
  intro vs w
  rw[C9]at w
  cases w with
  | cons a b=>
   cases a
   exact .cons _ _ (ih _ b)
theorem Hs{l:OpenLaw}{n:Nat}(hn:l.most=some n){P:Params}{h:Heap}{args:List WData}{vals:List Value}
  (hpre:l.row.toRowW.claim.pre args=true) (hwl:WellAll P h vals args) :
  ∃a vs ns,vals=[Value.ref a]∧args=[WData.list (ns.map WData.int)]∧h.get? a=some {cls:=.type "list", data:=.seq vs.toArray}∧IntsAre vs ns∧ns.length≤n:=by
 have hsh:WShape.hasAll [] args [.list .int]=true:=(pre_splitW hpre).1
 have hc:l.pre.holds [] {args:=args}=true:=(pre_splitW hpre).2
 obtain⟨d,r,rfl,h1,h2⟩:=hasAllW_cons hsh
 obtain rfl:=hasAllW_nil h2
 obtain⟨xs,rfl,h3⟩:=hasW_list h1
 obtain⟨ns,rfl⟩:=items_int h3
 have hlen:ns.length≤n:=by
  unfold OpenLaw.pre at hc
  have h4:(WTm.not (.lt (.lit (.int (n:Int))) (.len (.arg 0)))).holds [] {args:=[.list (ns.map .int)]}=true:=by
   have h4:=(holds_andW hc).1
   rw[hn]at h4
   exact h4
  have h5:=condW_of h4 (w_not (w_lt w_lit (w_len_list (w_arg rfl))))
  rw[B6]at h5
  refine Nat.le_of_not_lt λq=>?_
  have q':(n:Int)<((ns.length:Nat):Int):=by omega
  first
   | (rw[decide_eq_true q']at h5;exact absurd h5 (by decide))
   | (simp at h5;omega)
 cases hwl with
 | cons w1 w2=>
  cases w2
  cases w1 with
  | list ho hall=>exact⟨_,_,ns,rfl,rfl,ho,qO ns _ hall,hlen⟩
theorem Ht(l:OpenLaw)(args:List WData):l.row.toRowW.claim.post args (.bool true) args=true:=
 postW_of (r:=l.row.toRowW) (X:=(true==true))
  (show WShape.has [] (.bool true) .bool=true by first | rfl | decide | simp[WShape.has,WShape.arms,WShape.armsAll])
  (show (WTm.eq .res (.lit (.bool true))).value [] {args:=args,res:=some (.bool true),after:=args}=some (.bool (true==true))from w_eq_bool (w_res rfl) w_lit) rfl
theorem Ab{l:OpenLaw}{n:Nat}{q:Program}{loose:List Str}{XP:(Str→Option Value)→Heap→Prop}{YP:World→Heap→Prop}{d:DefRec}
  (hn:l.most=some n) (hdf:d.params.defaults=[])
  (call:∀(w:World)(s₀ s₁:Shared)(mg mb:Str→Option Value)(fa:Addr)(o:Obj)(pm cd doc:Value)(a:Addr)(vs:List Value)(ns:List Int),
   Ground q loose [] XP w s₀ mg mb s₁.heap→YP w s₁.heap →
   s₁.heap.get? fa=some o→o.data=.func (docDef d.name d.params d.body d.scope pm cd doc)→s₁.heap.CodeRec cd d.name→mg d.name=some (.ref fa) →
   s₁.heap.get? a=some {cls:=.type "list", data:=.seq vs.toArray}→IntsAre vs ns→ns.length≤n→s₁.gens=#[] →
   codeAny (model l.prog w) callerA (.call (.ref fa) ⟨[.ref a],[]⟩) (λr s'=>r=.ok (.ret (.bool true))∧OldK s₁.heap s'.heap∧s'.os=s₁.os∧AllBare s'.gens) s₁) :
  WalkO q loose XP YP l.row.toRowW d [] (λf vs=>R1 f vs):=by
 intro w s₀ s₁ mg mb G Y fa o pm cd doc dV kV ho hd hcd hD hmg hg args vals as hpre hlay hrd hwl hlo
 obtain rfl:dV=.none:=Dflts.none hD hdf
 obtain rfl:kV=.none:=Dflts.noKw hD
 obtain⟨a,vs,ns,rfl,rfl,hobj,hints,hlen⟩:=Hs hn hpre hwl
 refine enter_call (codeAny_mono (call w s₀ s₁ mg mb fa o pm cd doc a vs ns G Y ho (fd_plain hd) hcd hmg hobj hints hlen hg) λr s' hq=>?_)
 obtain⟨rfl,h2,h3,h4⟩:=hq
 exact⟨.inl ⟨.bool true,.bool true,[],rfl,λ_=>rfl,.bool true,Ht l _,λ_=>⟨List.Pairwise.nil,λ_ hm=>(nomatch hm)⟩⟩,h2,h3,h4⟩
section
variable{prog:Program}{w:World}{A:Around}{E:Value→Shared→Prop}{s:Shared}{K:Frag}
end
end Att
namespace L2
open PySem PySem.Spec PyProof.Rows
theorem vI:∀{vs:List Value} {ns:List Int},IntsAre vs ns→Vals (ns.map V.int) vs
 | _,_,.nil=>.nil
 | _,_,.cons n t h=>.cons ⟨t,rfl⟩ (vI h)
def Only(H:Hp):Prop:=∀b,H b=none∨∃o xs,H b=some (.oX o (.lst xs))
theorem Ke{P:Program}{w:World}{K:aA}{mg mb:Str→Option Value}{CX:Jx}{k:Nat}{fa a:Addr}{fd:FuncData}{x:Str}{sp:Sp}{s₁:Shared}{vs:List Value}{ns:List Int}
  (KX:K.In s₁.heap) (hns:s₁.heap.Ns mainGlobals mg) (hb:s₁.heap.Ns builtinsNs mb) (hbb:∀x:Str,x ≠ "__name__" → mb x=bootBuiltins x) (hlim:s₁.heap.NoLimit) (hg:s₁.gens=#[])
  (ha:s₁.heap.get? a=some {cls:=.type "list", data:=.seq vs.toArray}) (hi:IntsAre vs ns) (hl:ns.length≤sizeLine) (hr:gF k callerA)
  (F:∀base:Heap,K.In base→base.Ns mainGlobals mg→rG P w K mg base CX k fa fd [x] sp) (hbind:∀(s:Shared)(u:Value),BindsTo s fd ⟨[u],[]⟩ [(x,u)])
  (hsp:∀H:Hp,Only H→iH K H a (ns.map V.int)→sp [.ref a] H (λv _=>v=.bl true) λ_ _ _=>False)
  (IW:∀H e s',CX [] H s₁ (λ_ _ _=>False) e s'→False) :
  codeAny (model P w) callerA (.call (.ref fa) ⟨[.ref a],[]⟩) (λr s'=>r=.ok (.ret (.bool true))∧OldK s₁.heap s'.heap∧s'.os=s₁.os∧AllBare s'.gens) s₁:=by
 have rv:=vI hi
 have lenV:=hi.length
 have core:∀H:Hp,Only H→iH K H a (ns.map V.int)→qM P w H s₁.heap→(∀b,H b≠none→b=a)→(H a≠none→K.lookup a=none) →
   codeAny (model P w) callerA (.call (.ref fa) ⟨[.ref a],[]⟩) (λr s'=>r=.ok (.ret (.bool true))∧OldK s₁.heap s'.heap∧s'.os=s₁.os∧AllBare s'.gens) s₁:=by
  intro H hO hS hok hA hK
  have Ez:∀{b:Addr} {o:Obj},s₁.heap.get? b=some o→H b=none→(wN s₁.heap H).get? b=some o:=λe n=>Jf e n
  have Zh:∀{b:Addr} {o:Obj} {es:Array DictEntry} {ep:Nat},s₁.heap.get? b=some o→o.data=.dict es ep→H b=none:=λ{b o es ep} e d=>by
   cases q:H b with
   | none=>rfl
   | some u=>
    have e':b=a:=hA b (by rw[q];simp)
    subst e'
    rw[ha]at e;cases e
    have d':Data.seq vs.toArray _=Data.dict es ep:=d
    cases d'
  have GD:∀{b:Addr} {m:Str→Option Value},s₁.heap.Ns b m→(wN s₁.heap H).Ns b m:=λ{b m} ⟨o,es,ep,e,d,r⟩=>⟨o,es,ep,Ez e (Zh e d),d,r⟩
  have NK:K.In (wN s₁.heap H):=λb o e=>Ez (KX b o e) (by
   cases q:H b with
   | none=>rfl
   | some u=>
    have e':b=a:=hA b (by rw[q];simp)
    subst e'
    rw[hK (by rw[q];simp)]at e;cases e)
  have hM:Mod K mg (wN s₁.heap H):=⟨NK,GD hns,⟨mb,GD hb,hbb⟩,let ⟨mc,h1,h2⟩:=hlim;⟨mc,GD h1,h2⟩⟩
  have e0:Pb P w K mg (wN s₁.heap H) callerA [] s₁ H:=⟨rfl,hM,λb o e=>Oj e,Nat.le_of_eq (Gx _ _),trivial,λb hb=>absurd (show b∈([]:List Addr)from hb) (by simp),hok,.of_eq hg⟩
  refine codeAny_mono ((F _ NK (GD hns)).run callerA [] s₁ H ⟨[.ref a],[]⟩ [.ref a] [.ref a] _ _ hr e0 (hbind s₁ (.ref a)) (.cons rfl .nil) (hsp H hO hS)) λr s' h=>?_
  cases r with
  | error e=>exact(IW H e s' h).elim
  | ok fl=>
   cases fl with
   | next=>exact False.elim h
   | brk=>exact False.elim h
   | cont=>exact False.elim h
   | ret u=>
    obtain⟨v,H',os,bare,un,hok',r',q⟩:=h
    have q':v=.bl true:=q
    subst q'
    obtain rfl:u=Value.bool true:=r'
    refine⟨rfl,OldK.of_keep λb o e=>?_,os,bare⟩
    cases q:H b with
    | none=>exact un.keep b o e q (by intro z;exact absurd (show b∈([]:List Addr)from z) (by simp)) (by simp)
    | some u=>
     rcases hO b with z | ⟨ob,xs,z⟩
     ·rw[q]at z;cases z
     ·have z2:=un.wM b ob _ z
      obtain⟨e1,_⟩:=hok b _ z
      obtain⟨e2,_⟩:=hok' b _ z2
      rw[e]at e1;cases e1
      exact e2
 cases hk:K.lookup a with
 | some o=>
  have e:=KX a o hk
  rw[ha]at e
  cases e
  refine core (λ_=>none) (λ_=>.inl rfl) (.inr ⟨_,vs.toArray,_,hk,rfl,rfl,rfl,by rw[B3,lenV];exact hl,by simpa using rv⟩) (λb u z=>by have z':(none:Option HO)=some u:=z;cases z') (λb z=>absurd rfl z) λz=>absurd rfl z
 | none=>
  refine core (λb=>if b=a then some (.oX {cls:=.type "list", data:=.seq vs.toArray} (.lst (ns.map V.int)))else none) (λb=>?_) (.inl (.inr ⟨{cls:=.type "list", data:=.seq vs.toArray},if_pos rfl⟩)) (λb u z=>?_) (λb z=>?_) λ_=>hk
  ·by_cases hb:b=a
   ·exact .inr ⟨_,_,if_pos hb⟩
   ·exact .inl (if_neg hb)
  ·by_cases hb:b=a
   ·have z':=(if_pos hb).symm.trans z
    cases z'
    subst hb
    exact⟨ha,by rw[B6];exact hl,vs,_,rv,ha⟩
   ·have z':=(if_neg hb).symm.trans z
    cases z'
  ·by_cases hb:b=a
   ·exact hb
   ·exact absurd (if_neg hb) z
end L2
namespace L2
open PySem PySem.Spec PyProof.Rows
theorem Py{l:R3}{n k:Nat}{q:Program}{loose:List Str}{XP:(Str→Option Value)→Heap→Prop}{YP:World→Heap→Prop}{d:DefRec}{K:Params→aA}{CX:World→Jx}{sp:World→Sp}{x:Str}
  (hn:l.most=some n) (hn2:n≤sizeLine) (hdf:d.params.defaults=[]) (hr:gF k callerA)
  (hY:∀(w:World)(h:Heap),YP w h→(K w.params).In h)
  (F:∀(w:World)(mg:Str→Option Value)(fa:Addr)(h:Heap),(K w.params).In h→h.Ns mainGlobals mg→mg d.name=some (.ref fa) →
   ∃fd:FuncData,(∀(s:Shared)(u:Value),BindsTo s fd ⟨[u],[]⟩ [(x,u)]) ∧
    ∀base:Heap,(K w.params).In base→base.Ns mainGlobals mg→rG l.prog w (K w.params) mg base (CX w) k fa fd [x] (sp w))
  (hsp:∀(w:World)(H:Hp)(a:Addr)(ns:List Int),ns.length≤n→Only H→iH (K w.params) H a (ns.map V.int)→sp w [.ref a] H (λv _=>v=.bl true) λ_ _ _=>False)
  (IW:∀(w:World)(H:Hp)(s:Shared)(e:Value)(s':Shared),CX w [] H s (λ_ _ _=>False) e s'→False) :
  R7 q loose XP YP l.row.toRowW d [] (λf vs=>R1 f vs):=by
 refine Att.Ab hn hdf λw s₀ s₁ mg mb fa o pm cd doc a vs ns G Y ho hd hcd hmg hobj hints hlen hg=>?_
 have KX:=hY w _ Y
 obtain⟨fd,hb,hF⟩:=F w mg fa _ KX G.T.g hmg
 exact Ke KX G.T.g G.T.b G.T.builtins G.T.nolimit hg hobj hints (D9 hlen hn2) hr hF hb (λH hO hS=>hsp w H a ns hlen hO hS) λH e s'=>IW w H s₁ e s'
end L2
namespace L2
open PySem PySem.Spec PyProof.Rows
def cW(s:Stmt):Arguments:=match s with
 | .FunctionDef _ a _ _ _ _ _ _ _ _=>a
 | _=>{posonlyargs:=[],args:=[],vararg:=none,kwonlyargs:=[],kw_defaults:=[],kwarg:=none,defaults:=[]}
def bN(s:Stmt):List Stmt:=match s with
 | .FunctionDef _ _ b _ _ _ _ _ _ _=>b
 | _=>[]
def aF(s:Stmt):Scope:=match s with
 | .FunctionDef _ _ _ _ _ _ sc _ _ _=>sc
 | _=>{kind:=.function,names:=[],isGenerator:=false,isCoroutine:=false}
abbrev Jd:Jx:=λ_ _ _ _ _ _=>False
abbrev E0:XK:=λ_ _ _=>False
theorem Zr{X:Cx}:Passes Jd X E0:=λ_ _ _ _ _ _ _ h=>h.elim
structure Oh(K:aA)(x qual:Str)(st:Stmt)(f:Addr)(fd:FuncData):Prop where
 ex:∃(oc:Value)(od:Option Addr)(kV doc pm:Value)(an:Option Addr)(cdv ct:Value)(osl:Array (Option Value)),
  fd=E2 x qual (cW st) (bN st) (aF st) .none kV doc pm an cdv ct∧K.lookup f=some ⟨oc,od,.func fd,osl⟩∧J1 K cdv qual=true
 kp:F6 K (.ref f)=true
section
variable{P:Program}{w:World}{K:aA}{mg:Str→Option Value}{base:Heap}
theorem Oh.ok{x qual:Str}{st:Stmt}{f:Addr}{fd:FuncData}{N ps:List Str}{k:Nat}{sp:Sp}(F:Oh K x qual st f fd)(S:bA N ps (aF st))(len:∀vs H Q E,sp vs H Q E→vs.length=ps.length)
  (hbody:∀(cdv:Value)(A:Around)(outer:List Env)(s:Shared)(H:Hp)(vs:List V)(Q:VK)(E:XK),gF k (A.deeper (envOfC qual (aF st) s.heap.objs.size f cdv))→sp vs H Q E →
   ∃t,Es (wW Jd P w K mg base N qual (aF st) f cdv A outer s H E).Vg (bN st) t∧t {nx:=λ_ H'=>Q .non H',rt:=Q} (start N vs) H):rG P w K mg base Jd (k+1) f fd ps sp:=by
 obtain⟨oc,od,kV,doc,pm,an,cdv,ct,osl,rfl,lk,hcd⟩:=F.ex
 refine Zi lk hcd S len λA outer s H vs Q E hr hsp=>?_
 obtain⟨t,h,q⟩:=hbody cdv A outer s H vs Q E hr hsp
 exact⟨t,h.Vg,q⟩
theorem Oh.binds{x qual:Str}{st:Stmt}{f:Addr}{fd:FuncData}{ps:List Str}(F:Oh K x qual st f fd)
  (h:∀(kV doc pm:Value)(an:Option Addr)(cdv ct:Value)(us:List Value),us.length=ps.length→bindArgs (E2 x qual (cW st) (bN st) (aF st) .none kV doc pm an cdv ct) ⟨us,[]⟩=pure (ps.zip us)):Binds K fd ps []:=by
 obtain⟨oc,od,kV,doc,pm,an,cdv,ct,osl,rfl,lk,hcd⟩:=F.ex
 exact .all (h kV doc pm an cdv ct)
theorem We{x qual:Str}{st:Stmt}{f:Addr}{oc:Value}{od an:Option Addr}{osl:Array (Option Value)}{kV doc pm cdv ct:Value}(l:K.lookup f=some ⟨oc,od,.func (E2 x qual (cW st) (bN st) (aF st) .none kV doc pm an cdv ct),osl⟩)
  (c:J1 K cdv qual=true) (k:F6 K (.ref f)=true):Oh K x qual st f (E2 x qual (cW st) (bN st) (aF st) .none kV doc pm an cdv ct):=⟨⟨oc,od,kV,doc,pm,an,cdv,ct,osl,rfl,l,c⟩,k⟩
end
theorem eQ{A:Around}{k:Nat}(hr:gF k A):A.units+1<cLine:=Nat.lt_of_le_of_lt (Nat.add_le_add_left (by decide:1≤64) _) hr.units
section
variable{X:Cx}
theorem pv(i:Nat){x:Str}{pos:Pos}(hN:X.N[i]?=some x:=by rfl)(hv:EY X.env.scope x:=by first | exact D5 rfl | exact D3 (D5 rfl) | exact D3 (D3 rfl))(hd:(x==("__debug__" : Str))=false:=by decide)
  (hcd:(x==("__classdict__" : Str))=false:=by decide):PE X (.Name x pos) (jA i):=Uw hN hv hd hcd
end
def aH(H H':Hp):Prop:=∀b o,H b=some o→H' b=some o
theorem aH.refl(H:Hp):aH H H:=λ_ _ h=>h
theorem aH.trans{H H1 H2:Hp}(a:aH H H1)(b:aH H1 H2):aH H H2:=λc o h=>b c o (a c o h)
theorem aH.free{H H':Hp}(e:aH H H'){l:Addr}(h:H' l=S1):H l=S1:=by
 cases q:H l with
 | none=>rfl
 | some o=>
  rw[e l o q]at h
  cases h
theorem aH.seq{K:aA}{H H':Hp}{a:Addr}{xs:List V}(e:aH H H')(h:iH K H a xs):iH K H' a xs:=by
 rcases h with (h | ⟨o,h⟩) | h
 ·exact .inl (.inl (e _ _ h))
 ·exact .inl (.inr ⟨o,e _ _ h⟩)
 ·exact .inr h
section
variable{κ:Type} [DecidableEq κ]
end
end L2


namespace L2
open PySem PySem.Spec PyProof.Rows
theorem mY(env:Env):∀(names:List (Str×NameKind))(acc:List (Str×Addr)),(∀x∈names,x.2=.free→∃c,env.cells.lookup x.1=some c) →
    ∃cl:List (Str×Addr),(forIn names acc (λ(x:Str×NameKind) (r:List (Str×Addr))=>(match x with
      | (name,kind)=>if(kind==.free)=true then do let c ←cellOf env name;pure (ForInStep.yield ((name,c)::r))else pure (ForInStep.yield r):Sem (ForInStep (List (Str×Addr))))))=pure cl ∧
      (∀x c,cl.lookup x=some c→(∃k,(x,k)∈names∧k=.free∧env.cells.lookup x=some c)∨acc.lookup x=some c) ∧
      (∀x,(x,NameKind.free)∈names→∃c,cl.lookup x=some c)∧(∀x c,acc.lookup x=some c→∃c',cl.lookup x=some c')
  | [],acc,_=>⟨acc,rfl,λx c h=>.inr h,λx h=>by simp at h,λx c h=>⟨c,h⟩⟩
  | (n,k)::r,acc,h=>by
    rw[List.forIn_cons]
    by_cases hk:k=.free
    · subst hk
      obtain⟨c,hc⟩:=h (n,.free) C6 rfl
      obtain⟨cl,e,h1,h2,h3⟩:=mY env r ((n,c)::acc) λx hx=>h x (B9 _ hx)
      refine⟨cl,?_,λx d hd=>?_,λx hx=>?_,λx d hd=>?_⟩
      · have e0:cellOf env n=pure c:=by unfold cellOf;rw[hc]
        simp only[beq_self_eq_true,if_true,e0,pure_bind]
        exact e
      · rcases h1 x d hd with ⟨k',m,q⟩ | q
        · exact .inl ⟨k',B9 _ m,q⟩
        · rw[K3]at q
          by_cases e:x==n
          · rw[e]at q
            have e':=eq_of_beq e
            subst e'
            cases q
            exact .inl ⟨.free,C6,rfl,hc⟩
          · have e':(x==n)=false:=by simpa using e
            rw[e']at q
            exact .inr q
      · rcases E4.mp hx with q | q
        · cases q
          exact h3 n c (by simp)
        · exact h2 x q
      · by_cases e:x==n
        · exact h3 x c (by rw[K3,e])
        · have e':(x==n)=false:=by simpa using e
          exact h3 x d (by rw[K3,e'];exact hd)
    · obtain⟨cl,e,h1,h2,h3⟩:=mY env r acc λx hx=>h x (B9 _ hx)
      have hb:(k==NameKind.free)=false:=by simpa using hk
      refine⟨cl,?_,λx d hd=>?_,λx hx=>?_,h3⟩
      · simp only[hb,Bool.false_eq_true,if_false,pure_bind]
        exact e
      · rcases h1 x d hd with ⟨k',m,q⟩ | q
        · exact .inl ⟨k',B9 _ m,q⟩
        · exact .inr q
      · rcases E4.mp hx with q | q
        · cases q
          exact absurd rfl hk
        · exact h2 x q
theorem mR(scope:Scope)(env:Env)(h:∀x∈scope.names,x.2=.free→∃c,env.cells.lookup x.1=some c) :
    ∃cl,closureFor scope env=pure cl∧(∀x c,cl.lookup x=some c→(x,NameKind.free)∈scope.names∧env.cells.lookup x=some c)∧∀x,(x,NameKind.free)∈scope.names→∃c,cl.lookup x=some c:=by
  obtain⟨cl,e,h1,h2,_⟩:=mY env scope.names [] h
  refine⟨cl,?_,λx c hx=>?_,h2⟩
  · unfold closureFor
    exact(congrArg (λt=>t >>= pure) e).trans (pure_bind _ _)
  · rcases h1 x c hx with ⟨k,m,rfl,q⟩ | q
    · exact⟨m,q⟩
    · simp at q
theorem xJ{scope:Scope}{env:Env}(hcell:∀y∈scope.names,y.2≠.cell){x:Str}(h:(relabel scope env).names.lookup x=some .cell∨(relabel scope env).names.lookup x=some .free):(x,NameKind.free)∈scope.names:=by
 have m:(x,NameKind.cell)∈(relabel scope env).names∨(x,NameKind.free)∈(relabel scope env).names:=by
  rcases h with h | h
  ·exact .inl (F4 h)
  ·exact .inr (F4 h)
 unfold relabel at m
 rcases m with m | m
 all_goals
  obtain⟨⟨n,k⟩,hm,e⟩:=G6.mp m
  dsimp only at e
  split at e
  ·rename_i hc
   simp only[K4,beq_iff_eq]at hc
   cases e
   first
    | (rw[hc.1.1]at hm;exact hm)
    | skip
  ·cases e
   first
    | exact hm
    | exact absurd rfl (hcell _ hm)
def cL(X:Cx)(scope:Scope)(N:List Str)(cl:List (Str×Addr))(fp:List Addr)(s:Shared)(H:Hp)(C:Addr):Cx where
 prog:=X.prog
 w:=X.w
 K:=X.K
 mg:=X.mg
 base:=X.base
 A:=X.A
 N:=N
 s₀:=s
 H₀:=H
 env:=compEnvC scope cl C X.env
 outer:=X.stack
 stack:=X.stack
 ex:=fp
 calm:=X.calm
 fn:=λ_=>false
 pn:=[]
 xe:=λ_ _=>False
def Cq(σ:St)(fr:List Nat):St:=fr.map λi=>σ.getD i none
def blk(k:Nat)(σ:St)(fr:List Nat):St:=D7 k none++Cq σ fr
def Kp(k:Nat)(σ:St)(fr:List Nat)(σ2:St):Prop:=σ2.length=(blk k σ fr).length∧∀(j:Nat) v,(blk k σ fr)[j]?=some (some v)→σ2[j]?=some (some v)
def Yk(X:Cx)(ifs:List Expr)(t:TT):Prop:=
 ∀(pins:List (Addr×Obj))(s:Shared)(σ:St)(H:Hp)(Q:Bool→Hp→Prop),Inv X pins σ H s→t σ H Q →
  wpAny (model X.prog X.w) X.A (forIn ifs true λc r=>if r=true then do let ok ←isTrue c X.env (eval c X.env);pure (ForInStep.yield ok)else pure (ForInStep.yield r)) (TP X pins σ Q) X.xe s
def Zt:TT:=λ_ H Q=>Q true H
theorem Pz{X:Cx}:Yk X [] Zt:=λ_ _ _ H _ I h=>wpAny_tests_nil ⟨H,I,h⟩
theorem mL{prog:Program}{w:World}{A:Around}{R:Result→Shared→Prop}{s:Shared}{elt target iter:Expr}{ifs:List Expr}{scope:Scope}{pos:Pos}{it acc:Value}{env:Env}(I:Nat→Shared→Prop)
  (turn:∀n s,I n s→wpAny (model prog w) A (pyNext it) (λr s₁=>match r with
   | none=>R (.ok .next) s₁
   | some v=>wpAny (model prog w) A (letOwnedTupleGo target it v) (λ_ s₀=>wpAny (model prog w) A (assign target env v) (λ_ s₂=>
     wpAny (model prog w) A (forIn ifs true λc r=>if r=true then do let ok ←isTrue c env (eval c env);pure (ForInStep.yield ok)else pure (ForInStep.yield r)) (λok s₃=>
      if ok=true then wpAny (model prog w) A (eval elt env) (λx s₄=>
       wpAny (model prog w) A (call (.builtin "list.append") [acc,x]) (λ_ s₅=>∃m,m<n∧I m s₅) (λ_ _=>False) s₄) (λ_ _=>False) s₃
      else ∃m,m<n∧I m s₃) (λ_ _=>False) s₂) (λ_ _=>False) s₀) (λ_ _=>False) s₁) (λ_ _=>False) s)
  (n:Nat) (h:I n s) :
  codeAny (model prog w) A (.compLoop (.ListComp elt [⟨target,iter,ifs,0⟩] scope pos) 0 it acc env) R s:=by
 refine codeAny_loop rfl I (λn s hI=>?_) n h
 show wpAny _ A ((compTurn (.ListComp elt [⟨target,iter,ifs,0⟩] scope pos) 0 it acc env).onRaise (λx=>do noteFrame x env;theTreesLotGoes x)) _ _ s
 refine wpAny_noted ?_
 rw[compTurn_list]
 refine wpAny_mono (E:=λ_ _=>False) ?_ (λ_ _ q=>q) λ_ _ x=>x.elim
 refine wpAny_bind (wpAny_standAt (wpAny_bind (wpAny_mono (turn n s hI) (λr s₁ h₁=>?_) λ_ _ h'=>h')))
 cases r with
 | none=>exact wpAny_pure h₁
 | some v=>
  refine wpAny_bind (wpAny_mono h₁ (λ_ s₀ h₀=>?_) λ_ _ h'=>h')
  refine wpAny_bind (wpAny_mono h₀ (λ_ s₂ h₂=>wpAny_bind (wpAny_mono h₂ (λok s₃ h₃=>?_) λ_ _ h'=>h')) λ_ _ h'=>h')
  cases ok with
  | false=>exact wpAny_pure ⟨rfl,h₃⟩
  | true=>
   exact wpAny_bind (wpAny_bind (wpAny_mono h₃ (λx s₄ h₄=>wpAny_bind (wpAny_mono h₄ (λ_ s₅ h₅=>wpAny_pure (wpAny_pure ⟨rfl,h₅⟩)) λ_ _ h'=>h')) λ_ _ h'=>h'))
def Tu(J:It)(k:Nat)(fr:List Nat)(g:TG)(tc:TT)(te:TE)(σ:St)(H1:Hp)(Q:VK)(D:Addr):Prop:=∃W:Nat→Nat→List V→Hp→Prop,(∃m,W 0 m [] (upd H1 D (.lst []))) ∧
 ∀i m ys H,W i m ys H→H D=some (.lst ys)∧((J.stop i H∧Q (.ref D) H)∨(J.go i H∧∀x H',J.Yy i H x H'→g x (blk k σ fr) H' λσ2 H2=>Kp k σ fr σ2∧tc σ2 H2 λok H3=>if ok=true then
  te σ2 H3 λy H4=>H4 D=some (.lst ys)∧ys.length<sizeLine∧∃m',m'<m∧W (i+1) m' (ys++[y]) (upd H4 D (.lst (ys++[y])))else ∃m',m'<m∧W (i+1) m' ys H3))
def Ac(wi:TI)(k:Nat)(fr:List Nat)(g:TG)(tc:TT)(te:TE):TE:=λσ H Q=>wi σ H λJ H1=>∀D,H1 D=none→Tu J k fr g tc te σ H1 Q D
def lD(scope zN:Scope):Scope:=
 {scope with names:=scope.names.map λ(n,k)=>if(k==.free&&zN.kind==.function&&zN.names.lookup n==some .cell)then(n,.cell)else(n,k)}
structure cQ(zN scope:Scope)(oN N:List Str)(k:Nat)(fr:List Nat):Prop where
 kind:scope.kind=.function
 cell:∀y∈scope.names,y.2≠.cell
 loc:∀y∈scope.names,y.2=.local→scope.names.lookup y.1=some .local
 free:∀y∈scope.names,y.2=.free→zN.names.lookup y.1=some .cell∨zN.names.lookup y.1=some .free
 len:N.length=k+fr.length
 slots:∀j∈E9 fr.length,oN[fr.getD j 0]?=N[k+j]?
 from_:∀x∈N.drop k,(x,NameKind.free)∈scope.names∧((lD scope zN).names.lookup x=some .cell∨(lD scope zN).names.lookup x=some .free)
def Kf(zN scope:Scope)(oN N:List Str)(k:Nat)(fr:List Nat):Bool:=
 decide (scope.kind=.function)&&decide (∀y∈scope.names,y.2≠.cell)&&decide (∀y∈scope.names,y.2=.local→scope.names.lookup y.1=some .local) &&
 decide (∀y∈scope.names,y.2=.free→zN.names.lookup y.1=some .cell∨zN.names.lookup y.1=some .free)&&decide (N.length=k+fr.length) &&
 decide (∀j∈E9 fr.length,oN[fr.getD j 0]?=N[k+j]?) &&
 decide (∀x∈N.drop k,(x,NameKind.free)∈scope.names∧((lD scope zN).names.lookup x=some .cell∨(lD scope zN).names.lookup x=some .free))
theorem cQ.of{zN scope:Scope}{oN N:List Str}{k:Nat}{fr:List Nat}(h:Kf zN scope oN N k fr=true):cQ zN scope oN N k fr:=by
 unfold Kf at h
 simp only[K4,decide_eq_true_eq]at h
 obtain⟨⟨⟨⟨⟨⟨h1,h2⟩,h3⟩,h4⟩,h5⟩,h6⟩,h7⟩:=h
 exact⟨h1,h2,h3,h4,h5,h6,h7⟩
section
variable{X:Cx}
theorem Qa{k:Nat}{σ:St}{fr:List Nat}{i:Nat}{v:V}(h:(blk k σ fr)[i]?=some (some v)):∃j o,i=k+j∧fr[j]?=some o∧σ[o]?=some (some v):=by
 unfold blk at h
 by_cases hi:i<k
 ·rw[M5 (by simpa using hi),N3]at h
  rw[if_pos hi]at h
  cases h
 ·rw[L6 (by simpa using hi),O1]at h
  unfold Cq at h
  rw[C3]at h
  cases e:fr[i-k]? with
  | none=>rw[e]at h;cases h
  | some o=>
   rw[e]at h
   refine⟨i-k,o,by omega,e,?_⟩
   have h:some (σ.getD o none)=some (some v):=h
   have h:=E1 h
   rw[F5]at h
   cases e2:σ[o]? with
   | none=>rw[e2]at h;cases h
   | some z=>rw[e2]at h;exact congrArg some h
theorem Cr{pins:List (Addr×Obj)}{σ:St}{H:Hp}{s:Shared}{scope:Scope}{N:List Str}{k:Nat}{fr:List Nat}{cl:List (Str×Addr)}{fp:List Addr}{h₁:Heap}{tk:Nat}{m:Str→Option Value}
    (I:Inv X pins σ H s) (B:cQ X.env.scope scope X.N N k fr) (hf:∀b∈fp,uG X pins H b) (hfo:∀b∈fp,b<s.heap.objs.size)
    (hcl:∀x c,cl.lookup x=some c→(x,NameKind.free)∈scope.names∧X.env.cells.lookup x=some c) (Qc:∀x,(x,NameKind.free)∈scope.names→∃c,cl.lookup x=some c)
    (hn:h₁.Ns (s.heap.objs.size+1) m) (hs:Heap.SameBut (s.heap.objs.size+1) ((s.heap.push {cls:=.type "list", data:=.seq ([]:List Value).toArray}).push {cls:=.type "dict", data:=.dict #[]}) h₁) :
    Inv (cL X scope N cl fp s H (s.heap.objs.size+1)) [] (blk k σ fr) (upd H s.heap.objs.size (.lst [])) {s with heap:=h₁,toks:=tk}:=by
  have I3:=I.Kc (ys:=[]) (its:=[]) (t':=tk) .nil (L4 _)
  have hD:H s.heap.objs.size=none:=I.fresh
  have hC:H (s.heap.objs.size+1)=none:=I.hok.fresh (P9 _)
  have Yj:∀b o,(s.heap.push {cls:=.type "list", data:=.seq ([]:List Value).toArray}).get? b=some o→b≠s.heap.objs.size+1:=λb o e=>by
    have:=Heap.lt_size e
    rw[Heap.size_push]at this
    exact D8 this
  have Tv:∀b o,(s.heap.push {cls:=.type "list", data:=.seq ([]:List Value).toArray}).get? b=some o→h₁.get? b=some o:=λb o e=>
    hs.extBut b o (Yj b o e) (Heap.get?_push_of_some _ e)
  have kept:∀b o,s.heap.get? b=some o→h₁.get? b=some o:=λb o e=>Tv b o (Heap.get?_push_of_some _ e)
  refine⟨⟨I.ok.mod,B.kind,I.ok.glob,I.ok.blt,P9 _,λx y c h1 h2=>I.ok.inj x y c (hcl x c h1).2 (hcl y c h2).2,λx hx=>Qc x (xJ B.cell hx),λx c h _=>(nomatch h),
      I.ok.hd,I.ok.frames,.inl rfl,λb hb=>⟨?_,λx c e=>(hf b hb).2.2.2.2.1 x c (hcl x c e).2⟩,λb o e=>I.bs b o e,D9 I.ok.Tg I.sz,λb o e hb=>?_,λb hb hb2=>?_,I.stack,I.Ep⟩,
    rfl,I.bare,Un.laid kept (B7 _) hD,⟨m,hn,λi x v h1 h2 h3=>?_⟩,λx c e=>?_,?_,λx c e=>?_,λp hp=>absurd (show p∈([]:List (Addr×Obj))from hp) (by simp),?_,?_⟩
  · exact D8 (M3 (hfo b hb))
  · rcases(hf b hb).2.2.2.1 with z | z
    · exact I.ok.Jg b o e z
    · exact absurd (B5 (Heap.lt_size e) (D9 I.ok.Tg z)) (F0 _)
  · rcases E4.mp (I.wQ b hb2)with z | z
    · exact(hf b hb).2.1 z
    · exact(hf b hb).2.2.1 z
  · obtain⟨j,o,rfl,h4,h5⟩:=Qa h2
    have h1:N[k+j]?=some x:=h1
    have hj:j<fr.length:=(B8.mp h4).1
    have hx:X.N[o]?=some x:=by
      have q:=B.slots j (I0.mpr hj)
      rw[F5,h4]at q
      exact q.trans h1
    obtain⟨hfr,QH⟩:=B.from_ x (J3 (i:=j) (by rw[List.getElem?_drop];exact h1))
    have hk:=B.free _ hfr rfl
    obtain⟨m0,hn0,hl0⟩:=I.loc
    have hv:EY X.env.scope x:=by
      rcases hk with q | q
      · exact .inr (.inl q)
      · exact .inr (.inr q)
    obtain⟨u,r,l⟩:=hl0 o x v hx h5 hv
    refine⟨u,r,.inr ?_⟩
    rcases l with ⟨q,_⟩ | ⟨_,c,e,z⟩
    · rcases hk with q' | q'
      · exact absurd (q.symm.trans q') (by intro z;cases z)
      · exact absurd (q.symm.trans q') (by intro z;cases z)
    · obtain⟨c',e'⟩:=Qc x hfr
      have e2:=(hcl x c' e').2
      rw[e]at e2
      cases e2
      refine⟨QH,c,e',?_⟩
      obtain⟨oc,hoc,hd⟩:=z
      exact⟨oc,kept c oc hoc,hd⟩
  · obtain⟨v,oc,hoc,hd⟩:=I.cell x c (hcl x c e).2
    exact⟨v,oc,kept c oc hoc,hd⟩
  · show upd H s.heap.objs.size (.lst []) (s.heap.objs.size+1)=none
    rw[aX (J7 (Q3 _))]
    exact hC
  · have hc:=(hcl x c e).2
    obtain⟨v,oc,hoc,hd⟩:=I.cell x c hc
    show upd H s.heap.objs.size (.lst []) c=none
    rw[aX (D8 (Heap.lt_size hoc))]
    exact I.lA x c hc
  · exact qM.kept I3.hok Tv
  · show (blk k σ fr).length=N.length
    rw[B.len]
    unfold blk Cq
    simp
theorem Ad{tg elt iter:Expr}{ifs:List Expr}{scope:Scope}{pos:Pos}{N:List Str}{k:Nat}{fr:List Nat}{g:TG}{tc:TT}{te:TE}{cl:List (Str×Addr)}{pins:List (Addr×Obj)}{σ:St}{H:Hp}{s:Shared}{it:Addr}{fp:List Addr}{tn:Nat→Heap→Prop}{J:It}{Q:VK}
    {RR:Value→Addr→Result→Shared→Prop} {E:Value→Shared→Prop} (hcalm:X.calm=true) (I:Inv X pins σ H s) (T:Turn X.prog X.w X.K tg J fp it tn) (st:tn 0 s.heap) (hf:∀b∈fp,uG X pins H b) (B:cQ X.env.scope scope X.N N k fr)
    (hcl:∀x c,cl.lookup x=some c→(x,NameKind.free)∈scope.names∧X.env.cells.lookup x=some c) (Qc:∀x,(x,NameKind.free)∈scope.names→∃c,cl.lookup x=some c)
    (hg:∀cl fp s H C,PG (cL X scope N cl fp s H C) tg g) (hc:∀cl fp s H C,Yk (cL X scope N cl fp s H C) ifs tc) (he:∀cl fp s H C,PE (cL X scope N cl fp s H C) elt te)
    (hw:∀D,H D=none→Tu J k fr g tc te σ H Q D)
    (hRR:∀D C m s' H',s'.heap.Ns C m→s.heap.objs.size≤C→H' C=none→C≠D→Inv X pins σ H' s'→Q (.ref D) H'→RR (.ref D) C (.ok .next) s') :
    wpAny (model X.prog X.w) X.A (newList []) (λacc s₃=>wpAny (model X.prog X.w) X.A (newFunctionEnv scope X.env.globals cl [] X.env.qual none .none (some X.env)) (λcenv s₄=>
      codeAny (model X.prog X.w) X.A (.compStart (.ListComp elt [⟨tg,iter,ifs,0⟩] scope pos) 0 (.ref it) acc {cenv with scope:=relabel scope X.env}) (RR acc cenv.locals) s₄) E s₃) E s:=by
  refine wpAny_newObj_type (wpAny_newFunctionEnv B.cell (by intro y hy;simp at hy) (λh₁ hns₁ hsb₁=>?_) B.kind)
  dsimp only at hns₁ hsb₁ ⊢
  rw[Heap.size_push]at hns₁ hsb₁ ⊢
  have hfo:∀b∈fp,b<s.heap.objs.size:=λb hb=>by
    obtain⟨o,e,_⟩:=T.obj 0 _ st b hb
    exact Heap.lt_size e
  have I4:=Cr (tk:=s.toks+([]:List (Str×Value)).length) I B hf hfo hcl Qc hns₁ hsb₁
  generalize hD:s.heap.objs.size=D at *
  have QJ:H D=none:=by rw[←hD];exact I.fresh
  obtain⟨W,⟨m0,w0⟩,turn⟩:=hw D QJ
  have st1:tn 0 h₁:=T.keep 0 _ _ st λb hb o e=>hsb₁.extBut b o (D8 (M3 (by have:=hfo b hb;exact this))) (Heap.get?_push_of_some _ (Heap.get?_push_of_some _ e))
  have QK:∀b∈fp,(upd H D (.lst [])) b=none:=λb hb=>by
    rw[aX (D8 (hfo b hb))]
    exact(hf b hb).1
  generalize hX':cL X scope N cl fp s H (D+1)=X' at I4
  have stat:∀{H':Hp},(∀b∈fp,H' b=none)→∀b∈fp,uG X' [] H' b:=λ{H'} hn b hb=>by
    subst hX'
    refine⟨hn b hb,?_,λz=>?_,.inl hb,λx c e=>(hf b hb).2.2.2.2.1 x c (hcl x c e).2,λp hp=>absurd (show p∈([]:List (Addr×Obj))from hp) (by simp)⟩
    · exact D8 (M3 (hfo b hb))
    · rcases E4.mp (I.wQ b z)with z | z
      · exact(hf b hb).2.1 z
      · exact(hf b hb).2.2.1 z
  have loop:∀s₃:Shared,s₃={s with heap:=h₁,toks:=s.toks+([]:List (Str×Value)).length} →
      codeAny (model X.prog X.w) X.A (.compLoop (.ListComp elt [⟨tg,iter,ifs,0⟩] scope pos) 0 (.ref it) (.ref D) (compEnvC scope cl (D+1) X.env)) (RR (.ref D) (D+1)) s₃:=by
    rintro s₃ rfl
    refine mL (λn s'=>∃i ys H',Inv X' [] (blk k σ fr) H' s'∧tn i s'.heap∧(∀b∈fp,H' b=none)∧W i n ys H') ?_ m0 ⟨0,[],_,I4,st1,QK,w0⟩
    rintro n s5 ⟨i,ys,H5,I5,st5,fr5,w5⟩
    obtain⟨hys,way⟩:=turn i n ys H5 w5
    have e1:X'.prog=X.prog:=by rw[←hX'];rfl
    have e2:X'.w=X.w:=by rw[←hX'];rfl
    have e3:X'.K=X.K:=by rw[←hX'];rfl
    have e4:X'.A=X.A:=by rw[←hX'];rfl
    have e5:X'.calm=true:=by rw[←hX'];exact hcalm
    have e6:X'.env=compEnvC scope cl (D+1) X.env:=by rw[←hX'];rfl
    have e7:X'.xe=λ_ _=>False:=by rw[←hX'];rfl
    rcases way with ⟨stop,q⟩ | ⟨go,step⟩
    · have d:=T.done X' e1 e2 e3 e5 i [] s5 _ H5 (λ_ _=>False) I5 (stat fr5) st5 stop
      rw[e4]at d
      refine dW d λr s6 ⟨hr,I6⟩=>?_
      subst hr
      subst hX'
      obtain⟨m6,QL,_⟩:=I6.loc
      refine hRR D (D+1) m6 s6 H5 QL (P9 _) I6.free (J7 (Q3 _)) ?_ q
      exact I.call' I6.os I6.base I6.hok I6.bare λb hb=>⟨(hf b hb).2.2.2.1,(hf b hb).2.1,(hf b hb).2.2.2.2.1,(hf b hb).2.2.2.2.2⟩
    · have d:=T.item X' e1 e2 e3 e5 i [] s5 _ H5 (λ_ _=>False) I5 (stat fr5) st5 go
      rw[e4]at d
      refine dW d λr s6 ⟨u,hr,h6⟩=>?_
      subst hr
      refine dW h6 λ_ s7 ⟨x,H7,I7,r7,y7,st7,fr7⟩=>?_
      have QM:=I7.pinned (stat fr7) (T.obj _ _ st7)
      have hg':PG X' tg g:=by rw[←hX'];exact hg _ _ _ _ _
      have hc':Yk X' ifs tc:=by rw[←hX'];exact hc _ _ _ _ _
      have he':PE X' elt te:=by rw[←hX'];exact he _ _ _ _ _
      have a1:=hg' _ s7 _ H7 x u _ QM r7 (step x H7 y7)
      rw[e1,e2,e4,e6,e7]at a1
      refine dW a1 λ_ s8 ⟨σ8,H8,I8,⟨kl,kk⟩,q8⟩=>?_
      have a2:=hc' _ s8 σ8 H8 _ I8 q8
      rw[e1,e2,e4,e6,e7]at a2
      refine dW a2 λok s9 ⟨H9,I9,q9⟩=>?_
      have again:∀{Ha:Hp} {ya:List V} {sa:Shared},Inv X' ([]++rD fp s7.heap) σ8 Ha sa→(∃m',m'<n∧W (i+1) m' ya Ha) →
          ∃m,m<n∧∃i ys H',Inv X' [] (blk k σ fr) H' sa∧tn i sa.heap∧(∀b∈fp,H' b=none)∧W i m ys H':=λ{Ha ya sa} Ia ⟨m',hm,w'⟩=>by
        refine⟨m',hm,i+1,ya,Ha,(Ia.weak kl.symm kk).nP,T.keep _ _ _ st7 λb hb o e=>(Ia.pin (b,o) (D4 _ (D4 _ (jB hb e)))).1,λb hb=>?_,w'⟩
        obtain⟨o,e,d⟩:=T.obj _ _ st7 b hb
        exact(Ia.pin (b,o) (D4 _ (D4 _ (jB hb e)))).2.1
      cases ok with
      | false=>exact again I9 q9
      | true=>
        have a3:=he' _ s9 σ8 H9 _ I9 q9
        rw[e1,e2,e4,e6,e7]at a3
        show wpAny _ _ _ _ _ s9
        refine dW a3 λv QQ ⟨y,H10,I10,r10,hD10,hz,q10⟩=>?_
        have a4:=gA (X:=X') _ QQ σ8 H10 (.ref D) [y] (.ref D) [v] (λ_ NP=>NP=upd H10 D (.lst (ys++[y]))) I10 rfl (.cons r10 .nil) ⟨D,ys,y,rfl,rfl,hD10,hz,rfl⟩
        rw[e1,e2,e4,e7]at a4
        refine dW a4 λ_ SX ⟨_,NP,I11,_,e11⟩=>?_
        subst e11
        exact again I11 q10
  exact codeAny_compStart_list (loop _ rfl) (T.self _ 0 _ _ _ st1 (loop _ rfl))
theorem Qd{tg elt iter:Expr}{ifs:List Expr}{scope:Scope}{pos:Pos}{wi:TI}{g:TG}{tc:TT}{te:TE}(N:List Str)(k:Nat)(fr:List Nat)(hcalm:X.calm=true)(B:cQ X.env.scope scope X.N N k fr)(hi:PI X tg iter wi)
  (hg:∀cl fp s H C,PG (cL X scope N cl fp s H C) tg g) (hc:∀cl fp s H C,Yk (cL X scope N cl fp s H C) ifs tc) (he:∀cl fp s H C,PE (cL X scope N cl fp s H C) elt te)
  (hs:∀x,foldedSetIterable iter X.env x=pure x:=by intro _;rfl):PE X (.ListComp elt [⟨tg,iter,ifs,0⟩] scope pos) (Ac wi k fr g tc te):=by
 intro pins s σ H Q I h
 obtain⟨cl,e,h1,h2⟩:=mR scope X.env λy hy hk=>I.ok.has y.1 (B.free y hy hk)
 rw[eval_ListComp]
 refine wpAny_comprehension_free (use:=none) rfl hs e B.kind B.loc (wpAny_mono (hi pins s σ H _ I h) (λxv s₁ q₁=>wpAny_mono q₁ (λitv s₂ q₂=>?_) λ_ _ x=>x) λ_ _ x=>x)
 obtain⟨it,fp,tn,J,H2,rfl,I2,T,st2,f2,hw⟩:=q₂
 refine Ad (Q:=Q) (RR:=λacc C=>compPost (model X.prog X.w) X.A X.xe none (EP X pins σ Q) acc C) hcalm I2 T st2 f2 B h1 h2 hg hc he hw ?_
 intro D C m s' H' hn hC hf hne I' q
 refine⟨m,hn,λh' hs'=>⟨.ref D,H',?_,rfl,q⟩⟩
 exact I'.turned (t':=s'.toks) (λb o hb eb=>(hs'.2 b hb).trans eb) hf (J7 (B5 I2.lt hC)) (.inr (D9 I2.sz hC)) (λx c ec z=>by
  obtain⟨v,q⟩:=I2.cell x c ec
  exact absurd (B5 q.lt (by rw[z];exact hC)) (F0 _)) λp hp z=>absurd (B5 (Heap.lt_size (I2.pin p hp).1) (by rw[z];exact hC)) (F0 _)
theorem Qe{tg elt iter:Expr}{ifs:List Expr}{scope:Scope}{pos spos py:Pos}{y:Str}{i:Nat}{wi:TI}{g:TG}{tc:TT}{te:TE}(N:List Str)(k:Nat)(fr:List Nat)(hcalm:X.calm=true)(B:cQ X.env.scope scope X.N N k fr)(hN:X.N.Nodup)(hy:X.N[i]?=some y)(hx:Loc X.env.scope y)(hi:PI X tg iter wi)
  (hg:∀cl fp s H C,PG (cL X scope N cl fp s H C) tg g) (hc:∀cl fp s H C,Yk (cL X scope N cl fp s H C) ifs tc) (he:∀cl fp s H C,PE (cL X scope N cl fp s H C) elt te)
  (hsw:swapsWith (.ListComp elt [⟨tg,iter,ifs,0⟩] scope pos) (some (.Name y py)) spos.line X.env=pure true:=by rfl)
  (hs:∀x,foldedSetIterable iter X.env x=pure x:=by intro _;rfl) (hf:X.fn y=true∨X.env.scope.names.lookup y=some .local:=by first | exact .inl rfl | exact .inr rfl | assumption) :
  PS X (.Assign [.Name y py] (.ListComp elt [⟨tg,iter,ifs,0⟩] scope pos) spos) (Gy (Ac wi k fr g tc te) (dR i)):=by
 intro pins s σ H D I h
 obtain⟨cl,e,h1,h2⟩:=mR scope X.env λy hy hk=>I.ok.has y.1 (B.free y hy hk)
 rw[exec_Assign_Name_used _ _ _ _ hsw]
 refine wpAny_bind (wpAny_standAt (wpAny_bind ?_))
 show wpAny _ X.A (do let _ ←comprehension (.ListComp elt [⟨tg,iter,ifs,0⟩] scope pos) scope X.env _ (newList []) false (eval iter X.env) (some (assign (.Name y py) X.env))) _ _ s
 refine wpAny_bind (wpAny_mono (wpAny_comprehension_free (use:=some (assign (.Name y py) X.env)) (Q:=λ_ s'=>SP X pins D .next s') rfl hs e B.kind B.loc
  (wpAny_mono (hi pins s σ H _ I h) (λxv s₁ q₁=>wpAny_mono q₁ (λitv s₂ q₂=>?_) λ_ _ x=>x) λ_ _ x=>x)) (λ_ s' hq=>wpAny_pure (wpAny_pure hq)) λ_ _ x=>x)
 obtain⟨it,fp,tn,J,H2,rfl,I2,T,st2,f2,hw⟩:=q₂
 refine Ad (Q:=λx H1=>dR i x σ H1 D.nx) (RR:=λacc C=>compPost (model X.prog X.w) X.A X.xe (some (assign (.Name y py) X.env)) (λ_ s'=>SP X pins D .next s') acc C) hcalm I2 T st2 f2 B h1 h2 hg hc he hw ?_
 intro E C m s' H' hn hC hfr hne I' q
 show wpAny _ X.A (assign (.Name y py) X.env (.ref E)) _ _ _
 have Oe:∀x c,X.env.cells.lookup x=some c→c≠C:=λx c ec z=>by
  obtain⟨v,q⟩:=I2.cell x c ec
  exact absurd (B5 q.lt (by rw[z];exact hC)) (F0 _)
 refine wpAny_assign_Name (uX I' hN hy hx (show RelV (.ref E) (.ref E)from rfl) (λs6 I6 ⟨a,hsb,ha⟩=>?_) hf)
 have QR:C≠a:=by
  rcases ha with z | z
  ·rw[z];exact J7 (B5 I2.lt hC)
  ·exact λq=>Oe _ _ z q.symm
 refine⟨m,hn.sameBut hsb QR,λh'' hs''=>⟨_,H',?_,q⟩⟩
 exact I6.turned (t':=s6.toks) (λb o hb eb=>(hs''.2 b hb).trans eb) hfr (J7 (B5 I2.lt hC)) (.inr (D9 I2.sz hC)) Oe
  λp hp z=>absurd (B5 (Heap.lt_size (I2.pin p hp).1) (by rw[z];exact hC)) (F0 _)
end
end L2


set_option maxHeartbeats 4000000
namespace L2
open PySem PySem.Spec PyProof.Rows
def Wf(J:It)(P:Hp→Prop)(xs:List V):Prop:=
 ∀i H,P H→(i<xs.length→J.go i H)∧(∀x H',J.Yy i H x H'→H'=H∧(i<xs.length→xs[i]?=some x))∧(xs.length≤i→J.stop i H)
theorem Kg{K:aA}{a:Addr}{xs:List V}:Wf (HQ K a) (λH=>iH K H a xs) xs:=λi H hq=>
 ⟨λh=>⟨xs,xs[i],hq,by simp[h]⟩,λx H' ⟨e,y⟩=>⟨e,λ_=>y xs hq⟩,λh=>⟨xs,hq,h⟩⟩
theorem Qf{K:aA}{a:Addr}{xs:List V}:Wf (HR K a) (λH=>lB K H a xs) xs:=λi H hq=>
 ⟨λh=>⟨xs,xs[i],hq,by simp[h]⟩,λx H' ⟨e,y⟩=>⟨e,λ_=>y xs hq⟩,λh=>⟨xs,hq,h⟩⟩
theorem vJ{lo:Int}{n:Nat}:Wf (FN lo n) (λ_=>True) ((E9 n).map λi:Nat=>V.int (lo+(i:Int))):=λi H _=>
 ⟨λh=>show i<n by simpa using h,λx H' ⟨e,y⟩=>⟨e,λh=>by
  have h:i<n:=by simpa using h
  subst y
  simp[h]⟩,λh=>show n≤i by simpa using h⟩
section
variable{X:Cx}
theorem dH{scope:Scope}{N:List Str}{x:Str}{pos:Pos}(hN:N.Nodup)(hi:N[0]?=some x)(hx:(lD scope X.env.scope).names.lookup x=some .local) :
  ∀cl fp s H C,PG (cL X scope N cl fp s H C) (.Name x pos) (dR 0):=λ_ _ _ _ _=>gQ hN hi (D5 hx) (D3 hx)
theorem Fb{J:It}{P:Hp→Prop}{xs:List V}(hJ:Wf J P xs){g:TG}{tb:TS}{D:Ends}{σ:St}{H:Hp}(Pv:Nat→St→Hp→Prop)(h0:Pv 0 σ H)(hl:∀i σ H,i≤xs.length→Pv i σ H→P H)
  (hs:∀i x σ H,xs[i]?=some x→Pv i σ H→g x σ H λσ2 H2=>tb {D with nx:=Pv (i+1),ct:=Pv (i+1),bk:=D.nx} σ2 H2) (hd:∀σ H,Pv xs.length σ H→D.nx σ H) :
  ∃W:Nat→Nat→St→Hp→Prop,(∃m,W 0 m σ H)∧∀i m σ H,W i m σ H →
   (J.stop i H∧D.nx σ H)∨(J.go i H∧∃N:St→Hp→Prop,(∀σ' H',N σ' H'→∃m',m'<m∧W (i+1) m' σ' H')∧∀x H',J.Yy i H x H'→g x σ H' λσ2 H2=>tb {D with nx:=N,ct:=N,bk:=D.nx} σ2 H2):=by
 refine⟨λi m σ H=>m=xs.length-i∧i≤xs.length∧Pv i σ H,⟨xs.length,by simp,L4 _,h0⟩,?_⟩
 rintro i m σ H ⟨rfl,hi,p⟩
 obtain⟨j1,j2,j3⟩:=hJ i H (hl i σ H hi p)
 by_cases hlt:i<xs.length
 ·refine .inr ⟨j1 hlt,Pv (i+1),λσ' H' p'=>⟨xs.length-(i+1),by omega,rfl,hlt,p'⟩,λx H' y=>?_⟩
  obtain⟨e,ex⟩:=j2 x H' y
  subst e
  exact hs i x σ _ (ex hlt) p
 ·have e:i=xs.length:=by omega
  subst e
  exact .inl ⟨j3 (B7 _),hd σ H p⟩
end
end L2


namespace L2
open PySem PySem.Spec PyProof.Rows
section
variable{X:Cx}
theorem pZ:∀{bs:List Bool} {us:List Value},Vals (bs.map V.bl) us→us=bs.map Value.bool
 | [],us,r=>by rw[G1]at r;cases r;rfl
 | b::bs,us,r=>by
  rw[C9]at r
  cases r with
  | cons r1 r2=>
   cases(show _=Value.bool b from r1)
   rw[pZ r2]
   rfl
theorem Cu(bs:List Bool):((E9 bs.length).all λi=>(bs[i]?).getD true)=bs.all id:=by
 rw[G0,M9,M9]
 constructor
 ·intro h b hb
  obtain⟨i,hi,rfl⟩:=O6 hb
  have:=h i (I0.mpr hi)
  simpa[hi]using this
 ·intro h i hi
  have hi':=I0.mp hi
  simp only[B4 hi',Q4]
  exact h _ (N0 hi')
theorem Qg{s:Shared}{h':Heap}{o:Obj}(hk:∀b x,b∉[s.heap.objs.size]→(s.heap.push o).get? b=some x→h'.get? b=some x):∀b x,s.heap.get? b=some x→h'.get? b=some x:=
 λb x e=>hk b x (λhm=>by rw[E6.mp hm]at e;exact F0 _ (Heap.lt_size e)) (Heap.get?_push_of_some _ e)
theorem Kh(hc:X.calm=true):eO X (.builtin "all") (λxs H Q=>∃(p:Addr)(bs:List Bool),xs=[.ref p]∧iH X.K H p (bs.map V.bl)∧Q (.bl (bs.all id)) H):=by
 intro pins s σ H xs us Q I r h
 obtain⟨p,bs,rfl,hq,q⟩:=h
 obtain⟨u,rfl,rx⟩:=vals1 r
 cases rx
 obtain⟨its,rv,pl,hz⟩:=I.list hq
 have hb:=pZ rv
 subst hb
 have hl:=pl.isList
 have hlt:p<s.heap.objs.size:=by obtain⟨_,e,_⟩:=hl;exact Heap.lt_size e
 refine call_all_walk (wpAny_pyIter_list hl ?_)
 refine⟨s.heap.objs.size,[s.heap.objs.size,p],[s.heap.objs.size],_,_,_,λi=>(bs[i]?).getD true,rfl,Walks.list (A:=X.A.in1) (I.ok.hd hc) _ p (D8 hlt) _,
  ⟨⟨_,Heap.get?_push_size _ rfl,rfl,rfl⟩,hl.push _⟩,λi v s' Q' E' hP hQ=>?_,λh' tk hk=>?_⟩
 ·have e:(bs.map Value.bool)[i]?=some v:=by simpa using hP
  rw[C3]at e
  cases e2:bs[i]? with
  | none=>rw[e2]at e;cases e
  | some b=>
   rw[e2]at e
   cases e
   simp only[e2,Q4]at hQ
   exact wpAny_truthy_bool hQ
 ·have e:((E9 (bs.map Value.bool).toArray.size).all λi=>(bs[i]?).getD true)=bs.all id:=by
   rw[B3,B6];exact Cu bs
  rw[e]
  exact⟨.bl _,H,I.kept (Qg hk),rfl,q⟩
end
inductive DV where
  | int (i:Int) | non | lst (ds:List DV) | tup (ds:List DV)
mutual
def Reads(K:aA)(H:Hp):DV→V→Prop
 | .int i,x=>x=.int i
 | .non,x=>x=.non
 | .lst ds,x=>∃a xs,x=.ref a∧iH K H a xs∧bB K H ds xs
 | .tup ds,x=>∃a xs,x=.ref a∧lB K H a xs∧bB K H ds xs
def bB(K:aA)(H:Hp):List DV→List V→Prop
 | [],xs=>xs=[]
 | d::ds,xs=>∃y ys,xs=y::ys∧Reads K H d y∧bB K H ds ys
end
mutual
def DV.depth:DV→Nat
 | .int _=>0
 | .non=>0
 | .lst ds=>bK ds+1
 | .tup ds=>bK ds+1
def bK:List DV→Nat
 | []=>0
 | d::ds=>max d.depth (bK ds)
end
theorem bB.length{K:aA}{H:Hp}:∀{ds:List DV} {xs:List V},bB K H ds xs→xs.length=ds.length
 | [],xs,h=>by
  unfold bB at h
  rw[h]
  rfl
 | d::ds,xs,h=>by
  unfold bB at h
  obtain⟨y,ys,rfl,_,h2⟩:=h
  simp[bB.length h2]
theorem bB.get{K:aA}{H:Hp}:∀{ds:List DV} {xs:List V} {i:Nat} {d:DV},bB K H ds xs→ds[i]?=some d→∃x,xs[i]?=some x∧Reads K H d x
 | [],xs,i,d,h,e=>by simp at e
 | d'::ds,xs,0,d,h,e=>by
  unfold bB at h
  obtain⟨y,ys,rfl,h1,_⟩:=h
  simp at e
  subst e
  exact⟨y,rfl,h1⟩
 | d'::ds,xs,i+1,d,h,e=>by
  unfold bB at h
  obtain⟨y,ys,rfl,_,h2⟩:=h
  obtain⟨x,e1,e2⟩:=bB.get h2 (by simpa using e)
  exact⟨x,by simpa using e1,e2⟩
theorem rJ:∀{ds:List DV} {i:Nat} {d:DV},ds[i]?=some d→d.depth≤bK ds
 | [],i,d,e=>by simp at e
 | d'::ds,0,d,e=>by
  simp at e
  subst e
  unfold bK
  exact Nat.le_max_left _ _
 | d'::ds,i+1,d,e=>by
  have:=rJ (ds:=ds) (i:=i) (d:=d) (by simpa using e)
  unfold bK
  exact D9 this (Nat.le_max_right _ _)
theorem Cv(A:Around):A.in1.units=A.units+1:=rfl
section
open SeqAt
open Classical in
noncomputable def lE(d e:DV):Bool:=decide (d=e)
theorem lF{d e:DV}:lE d e=true↔d=e:=by unfold lE;simp
theorem lG(d:DV):lE d d=true:=lF.mpr rfl
theorem cC{d e:DV}(h:d≠e):lE d e=false:=by unfold lE;simp[h]
theorem Qh(a b:Int):lE (.int a) (.int b)=(a==b):=by
 by_cases h:a=b
 ·subst h;simp[lG]
 ·rw[cC (by simpa using h)];simp[h]
open Classical in
theorem fJ{ds es:List DV}(hl:ds.length=es.length):((E9 ds.length).all λi=>match ds[i]?,es[i]? with | some d,some e=>lE d e | _,_=>true)=decide (ds=es):=by
 rw[G0,M9,decide_eq_true_iff]
 constructor
 ·intro h
  apply Q5 hl
  intro i h1 h2
  have:=h i (I0.mpr h1)
  simp only[B4 h1,B4 h2]at this
  exact lF.mp this
 ·rintro rfl i hi
  have hi':=I0.mp hi
  simp only[B4 hi']
  exact lG _
variable{X:Cx}{pins:List (Addr×Obj)}{σ:St}{H:Hp}{s:Shared}
open Classical in
theorem Fd(ds es:List DV):lE (.lst ds) (.lst es)=decide (ds=es):=by
 by_cases h:ds=es
 ·subst h;simp[lG]
 ·rw[cC (by intro z;cases z;exact h rfl)];simp[h]
open Classical in
theorem Fe(ds es:List DV):lE (.tup ds) (.tup es)=decide (ds=es):=by
 by_cases h:ds=es
 ·subst h;simp[lG]
 ·rw[cC (by intro z;cases z;exact h rfl)];simp[h]
theorem vK(I:Inv X pins σ H s):∀(n:Nat)(d e:DV)(x:V),d.depth≤n→Reads X.K H d x→Reads X.K H e x→d=e:=by
 have lists:∀(n:Nat),(∀(d e:DV)(x:V),d.depth≤n→Reads X.K H d x→Reads X.K H e x→d=e)→∀(ds es:List DV)(xs:List V),bK ds≤n→bB X.K H ds xs→bB X.K H es xs→ds=es:=by
  intro n ih ds
  induction ds with
  | nil=>
   intro es xs _ h1 h2
   have l1:=h1.length
   have l2:=h2.length
   cases es with
   | nil=>rfl
   | cons _ _=>rw[l1]at l2;simp at l2
  | cons d ds ihl=>
   intro es xs hd h1 h2
   have hd1:d.depth≤n:=by unfold bK at hd;omega
   have hd2:bK ds≤n:=by unfold bK at hd;omega
   unfold bB at h1
   obtain⟨y,ys,rfl,a1,a2⟩:=h1
   cases es with
   | nil=>have:=h2.length;simp at this
   | cons e es=>
    unfold bB at h2
    obtain⟨y',ys',q,b1,b2⟩:=h2
    cases q
    rw[ih d e y hd1 a1 b1,ihl es ys hd2 a2 b2]
 have kinds:∀{a:Addr} {xs ys:List V},iH X.K H a xs→lB X.K H a ys→False:=λ{a xs ys} h1 h2=>by
  obtain⟨_,_,p1,_⟩:=I.list h1
  obtain⟨_,_,p2,_⟩:=I.tuple h2
  exact ne_of_list_tuple p1.isList (show s.heap.IsTuple a _ from p2) rfl
 intro n
 induction n with
 | zero=>
  intro d e x hd h1 h2
  cases d with
  | int i=>
   unfold Reads at h1
   subst h1
   cases e with
   | int j=>unfold Reads at h2;cases h2;rfl
   | non=>unfold Reads at h2;cases h2
   | lst es=>unfold Reads at h2;obtain⟨_,_,q,_⟩:=h2;cases q
   | tup es=>unfold Reads at h2;obtain⟨_,_,q,_⟩:=h2;cases q
  | non=>
   unfold Reads at h1
   subst h1
   cases e with
   | non=>rfl
   | int j=>unfold Reads at h2;cases h2
   | lst es=>unfold Reads at h2;obtain⟨_,_,q,_⟩:=h2;cases q
   | tup es=>unfold Reads at h2;obtain⟨_,_,q,_⟩:=h2;cases q
  | lst ds=>unfold DV.depth at hd;omega
  | tup ds=>unfold DV.depth at hd;omega
 | succ n ih=>
  intro d e x hd h1 h2
  cases d with
  | int i=>
   unfold Reads at h1
   subst h1
   cases e with
   | int j=>unfold Reads at h2;cases h2;rfl
   | non=>unfold Reads at h2;cases h2
   | lst es=>unfold Reads at h2;obtain⟨_,_,q,_⟩:=h2;cases q
   | tup es=>unfold Reads at h2;obtain⟨_,_,q,_⟩:=h2;cases q
  | non=>
   unfold Reads at h1
   subst h1
   cases e with
   | non=>rfl
   | int j=>unfold Reads at h2;cases h2
   | lst es=>unfold Reads at h2;obtain⟨_,_,q,_⟩:=h2;cases q
   | tup es=>unfold Reads at h2;obtain⟨_,_,q,_⟩:=h2;cases q
  | lst ds=>
   unfold Reads at h1
   obtain⟨a,xs,rfl,hq,r⟩:=h1
   cases e with
   | int j=>unfold Reads at h2;cases h2
   | non=>unfold Reads at h2;cases h2
   | lst es=>
    unfold Reads at h2
    obtain⟨b,ys,q,hq2,r2⟩:=h2
    cases q
    have:=I.zT hq hq2
    subst this
    rw[lists n ih ds es xs (by unfold DV.depth at hd;omega) r r2]
   | tup es=>
    unfold Reads at h2
    obtain⟨b,ys,q,hq2,r2⟩:=h2
    cases q
    exact(kinds hq hq2).elim
  | tup ds=>
   unfold Reads at h1
   obtain⟨a,xs,rfl,hq,r⟩:=h1
   cases e with
   | int j=>unfold Reads at h2;cases h2
   | non=>unfold Reads at h2;cases h2
   | lst es=>
    unfold Reads at h2
    obtain⟨b,ys,q,hq2,r2⟩:=h2
    cases q
    exact(kinds hq2 hq).elim
   | tup es=>
    unfold Reads at h2
    obtain⟨b,ys,q,hq2,r2⟩:=h2
    cases q
    have:=I.uY hq hq2
    subst this
    rw[lists n ih ds es xs (by unfold DV.depth at hd;omega) r r2]
theorem Kl(I:Inv X pins σ H s)(i:Int)(e:DV)(y:V)(u v:Value)(A:Around)(hu:A.units<cLine)(r2:Reads X.K H e y)(rx:RelV (.int i) u)(ry:RelV y v):RcAt A s u v (lE (.int i) e)∧EqAt A s u v (lE (.int i) e):=by
 obtain⟨t,rfl⟩:=rx
 cases e with
 | int j=>
  unfold Reads at r2
  subst r2
  obtain⟨t',rfl⟩:=ry
  rw[Qh]
  exact⟨RcAt.int_int _ _ _ _,EqAt.int_int _ _ _ _⟩
 | non=>
  unfold Reads at r2
  subst r2
  cases ry
  rw[cC (by intro z;cases z)]
  exact⟨RcAt.int_none _ _,EqAt.int_none _ _⟩
 | lst es=>
  unfold Reads at r2
  obtain⟨b,ys,rfl,hq,_⟩:=r2
  cases ry
  obtain⟨its,_,pl,_⟩:=I.list hq
  rw[cC (by intro z;cases z)]
  exact⟨RcAt.int_list _ _ pl.isList (hu),EqAt.int_list _ _ pl.isList (hu)⟩
 | tup es=>
  unfold Reads at r2
  obtain⟨b,ys,rfl,hq,_⟩:=r2
  cases ry
  obtain⟨its,_,pl,_⟩:=I.tuple hq
  rw[cC (by intro z;cases z)]
  exact⟨RcAt.int_tuple _ _ pl (hu),EqAt.int_tuple _ _ pl (hu)⟩
theorem Km(I:Inv X pins σ H s)(e:DV)(y:V)(u v:Value)(A:Around)(hu:A.units<cLine)(r2:Reads X.K H e y)(rx:RelV .non u)(ry:RelV y v):RcAt A s u v (lE .non e)∧EqAt A s u v (lE .non e):=by
 cases rx
 cases e with
 | non=>
  unfold Reads at r2
  subst r2
  cases ry
  rw[lG]
  exact⟨RcAt.none_none,EqAt.same _⟩
 | int j=>
  unfold Reads at r2
  subst r2
  obtain⟨t',rfl⟩:=ry
  rw[cC (by intro z;cases z)]
  exact⟨RcAt.none_int _ _,EqAt.none_int _ _⟩
 | lst es=>
  unfold Reads at r2
  obtain⟨b,ys,rfl,hq,_⟩:=r2
  cases ry
  obtain⟨its,_,pl,_⟩:=I.list hq
  rw[cC (by intro z;cases z)]
  exact⟨RcAt.none_list pl.isList hu,EqAt.none_list pl.isList hu⟩
 | tup es=>
  unfold Reads at r2
  obtain⟨b,ys,rfl,hq,_⟩:=r2
  cases ry
  obtain⟨its,_,pl,_⟩:=I.tuple hq
  rw[cC (by intro z;cases z)]
  exact⟨RcAt.none_tuple pl hu,EqAt.none_tuple pl hu⟩
theorem rK(I:Inv X pins σ H s):∀(n:Nat)(A:Around),(∀(d e:DV)(x y:V)(u v:Value)(A:Around),d.depth≤n→A.units+n<cLine→Reads X.K H d x→Reads X.K H e y→RelV x u→RelV y v→RcAt A s u v (lE d e)∧EqAt A s u v (lE d e)) →
  ∀(ds es:List DV)(xs ys:List V)(us vs:List Value),bK ds≤n→A.units+(n+1)<cLine→bB X.K H ds xs→bB X.K H es ys→Vals xs us→Vals ys vs →
  ∀j (h1:j<us.toArray.size) (h2:j<vs.toArray.size),EqAt A.in1 s us.toArray[j] vs.toArray[j] (match ds[j]?,es[j]? with | some d,some e=>lE d e | _,_=>true):=by
 intro n A ih ds es xs ys us vs hd hu r1 r2 v1 v2 j h1 h2
 have l1:j<ds.length:=by rw[←r1.length,v1.length];simpa using h1
 have l2:j<es.length:=by rw[←r2.length,v2.length];simpa using h2
 obtain⟨x,ex,rx⟩:=r1.get (i:=j) (d:=ds[j]) (by simp)
 obtain⟨y,ey,ry⟩:=r2.get (i:=j) (d:=es[j]) (by simp)
 obtain⟨u,eu,ru⟩:=v1.get ex
 obtain⟨v,ev,rv⟩:=v2.get ey
 have e1:us.toArray[j]=u:=by
  rw[B8]at eu
  obtain⟨_,eu⟩:=eu
  simpa using eu
 have e2:vs.toArray[j]=v:=by
  rw[B8]at ev
  obtain⟨_,ev⟩:=ev
  simpa using ev
 rw[e1,e2]
 simp only[B4 l1,B4 l2]
 exact(ih _ _ x y u v A.in1 (D9 (rJ (i:=j) (by simp)) hd) (by rw[Cv];omega) rx ry ru rv).2
theorem xK(I:Inv X pins σ H s):∀(n:Nat)(d e:DV)(x y:V)(u v:Value)(A:Around),d.depth≤n→A.units+n<cLine→Reads X.K H d x→Reads X.K H e y→RelV x u→RelV y v→RcAt A s u v (lE d e)∧EqAt A s u v (lE d e):=by
 have items:=rK I
 have seqs:∀(n:Nat)(A:Around),(∀(d e:DV)(x y:V)(u v:Value)(A:Around),d.depth≤n→A.units+n<cLine→Reads X.K H d x→Reads X.K H e y→RelV x u→RelV y v→RcAt A s u v (lE d e)∧EqAt A s u v (lE d e)) →
   ∀(d e:DV)(x y:V)(u v:Value),d.depth≤n+1→A.units+(n+1)<cLine→Reads X.K H d x→Reads X.K H e y→RelV x u→RelV y v→RcAt A s u v (lE d e)∧EqAt A s u v (lE d e):=by
  intro n A ih d e x y u v hd hu r1 r2 rx ry
  have of_same:∀{a b:Addr} {k:Bool},(a=b→k=true)→RcAt A s (.ref a) (.ref b) k→EqAt A s (.ref a) (.ref b) k:=λ{a b k} hk h=>by
   by_cases hab:a=b
   ·subst hab
    rw[hk rfl]
    exact EqAt.same _
   ·exact EqAt.of_refs hab h
  cases d with
  | int i=>
   unfold Reads at r1
   subst r1
   exact Kl I i e y u v A (by omega) r2 rx ry
  | non=>
   unfold Reads at r1
   subst r1
   exact Km I e y u v A (by omega) r2 rx ry
  | lst ds=>
   unfold Reads at r1
   obtain⟨a,xs,rfl,hq1,Hu⟩:=r1
   cases rx
   obtain⟨rM,v1,uK,_⟩:=I.list hq1
   have hd':bK ds≤n:=by unfold DV.depth at hd;omega
   cases e with
   | int j=>
    unfold Reads at r2
    subst r2
    obtain⟨t',rfl⟩:=ry
    rw[cC (by intro z;cases z)]
    exact⟨RcAt.list_int _ _ uK.isList (by omega),EqAt.list_int _ _ uK.isList (by omega)⟩
   | non=>
    unfold Reads at r2
    subst r2
    cases ry
    rw[cC (by intro z;cases z)]
    exact⟨RcAt.list_none uK.isList (by omega),EqAt.list_none uK.isList (by omega)⟩
   | lst es=>
    unfold Reads at r2
    obtain⟨b,ys,rfl,hq2,Cw⟩:=r2
    cases ry
    obtain⟨its2,v2,Ae,_⟩:=I.list hq2
    have e1:rM.toArray.size=ds.length:=by rw[B3,←v1.length,Hu.length]
    have e2:its2.toArray.size=es.length:=by rw[B3,←v2.length,Cw.length]
    have rc:RcAt A s (.ref a) (.ref b) (lE (.lst ds) (.lst es)):=by
     by_cases hl:ds.length=es.length
     ·have q:=RcAt.lists (A:=A) (s:=s) uK.isList Ae.isList (by rw[e1,e2];exact hl) (by omega) (items n A ih ds es xs ys rM its2 hd' hu Hu Cw v1 v2)
      rw[e1,fJ hl]at q
      rw[Fd]
      exact q
     ·rw[cC (by intro z;cases z;exact hl rfl)]
      exact RcAt.lists_lengths uK.isList Ae.isList (by rw[e1,e2];simpa using hl) (by omega)
    exact⟨rc,of_same (λhab=>by
     subst hab
     refine lF.mpr (vK I (n+1) _ _ (.ref a) hd ?_ ?_)
     ·unfold Reads
      exact⟨a,xs,rfl,hq1,Hu⟩
     ·unfold Reads
      exact⟨a,ys,rfl,hq2,Cw⟩) rc⟩
   | tup es=>
    unfold Reads at r2
    obtain⟨b,ys,rfl,hq2,Cw⟩:=r2
    cases ry
    obtain⟨its2,v2,Ae,_⟩:=I.tuple hq2
    rw[cC (by intro z;cases z)]
    exact⟨RcAt.list_tuple uK.isList Ae (by omega),EqAt.list_tuple uK.isList Ae (by omega)⟩
  | tup ds=>
   unfold Reads at r1
   obtain⟨a,xs,rfl,hq1,Hu⟩:=r1
   cases rx
   obtain⟨rM,v1,uK,_⟩:=I.tuple hq1
   have hd':bK ds≤n:=by unfold DV.depth at hd;omega
   cases e with
   | int j=>
    unfold Reads at r2
    subst r2
    obtain⟨t',rfl⟩:=ry
    rw[cC (by intro z;cases z)]
    exact⟨RcAt.tuple_int _ _ uK (by omega),EqAt.tuple_int _ _ uK (by omega)⟩
   | non=>
    unfold Reads at r2
    subst r2
    cases ry
    rw[cC (by intro z;cases z)]
    exact⟨RcAt.tuple_none uK (by omega),EqAt.tuple_none uK (by omega)⟩
   | lst es=>
    unfold Reads at r2
    obtain⟨b,ys,rfl,hq2,Cw⟩:=r2
    cases ry
    obtain⟨its2,v2,Ae,_⟩:=I.list hq2
    rw[cC (by intro z;cases z)]
    exact⟨RcAt.tuple_list uK Ae.isList (by omega),EqAt.tuple_list uK Ae.isList (by omega)⟩
   | tup es=>
    unfold Reads at r2
    obtain⟨b,ys,rfl,hq2,Cw⟩:=r2
    cases ry
    obtain⟨its2,v2,Ae,_⟩:=I.tuple hq2
    have e1:rM.toArray.size=ds.length:=by rw[B3,←v1.length,Hu.length]
    have e2:its2.toArray.size=es.length:=by rw[B3,←v2.length,Cw.length]
    have rc:RcAt A s (.ref a) (.ref b) (lE (.tup ds) (.tup es)):=by
     have q:=RcAt.tuples (A:=A) (s:=s) (l:=a) (b:=b) uK Ae (by omega) (items n A ih ds es xs ys rM its2 hd' hu Hu Cw v1 v2)
     rw[e1,e2]at q
     by_cases hl:ds.length=es.length
     ·rw[←hl,Nat.min_self,fJ hl]at q
      rw[Fe]
      simpa using q
     ·rw[cC (by intro z;cases z;exact hl rfl)]
      have z:(ds.length==es.length)=false:=by simpa using hl
      rw[z,R5]at q
      exact q
    exact⟨rc,of_same (λhab=>by
     subst hab
     refine lF.mpr (vK I (n+1) _ _ (.ref a) hd ?_ ?_)
     ·unfold Reads
      exact⟨a,xs,rfl,hq1,Hu⟩
     ·unfold Reads
      exact⟨a,ys,rfl,hq2,Cw⟩) rc⟩
 intro n
 induction n with
 | zero=>
  intro d e x y u v A hd hu r1 r2 rx ry
  cases d with
  | int i=>
   unfold Reads at r1
   subst r1
   exact Kl I i e y u v A (by omega) r2 rx ry
  | non=>
   unfold Reads at r1
   subst r1
   exact Km I e y u v A (by omega) r2 rx ry
  | lst ds=>unfold DV.depth at hd;omega
  | tup ds=>unfold DV.depth at hd;omega
 | succ n ih=>
  intro d e x y u v A hd hu r1 r2 rx ry
  exact seqs n A ih d e x y u v hd hu r1 r2 rx ry
end
section
variable{X:Cx}
def Wg(K:aA)(neg:Bool):R2:=λx y H Q=>∃d e,Reads K H d x∧Reads K H e y∧d.depth≤32∧Q (.bl (if neg then !lE d e else lE d e)) H
theorem Wh(hu:X.A.units+64<cLine):jC X (compareOp .Eq) (Wg X.K false):=by
 intro pins s σ H x y v u Q I rx ry h
 obtain⟨d,e,r1,r2,hd,q⟩:=h
 exact(xK I 32 d e x y v u X.A hd (by omega) r1 r2 rx ry).1 X.prog X.w X.xe _ ⟨.bl _,H,I,rfl,q⟩
open SeqAt in
theorem Wi(hu:X.A.units+64<cLine):jC X (compareOp .NotEq) (λx y H Q=>∃ds es,Reads X.K H (.lst ds) x∧Reads X.K H (.lst es) y∧bK ds≤32∧Q (.bl (!lE (.lst ds) (.lst es))) H):=by
 intro pins s σ H x y v u Q I rx ry h
 obtain⟨ds,es,r1,r2,hd,q⟩:=h
 unfold Reads at r1 r2
 obtain⟨a,xs,rfl,hq1,Hu⟩:=r1
 obtain⟨b,ys,rfl,hq2,Cw⟩:=r2
 cases rx
 cases ry
 obtain⟨rM,v1,uK,_⟩:=I.list hq1
 obtain⟨its2,v2,Ae,_⟩:=I.list hq2
 have e1:rM.toArray.size=ds.length:=by rw[B3,←v1.length,Hu.length]
 have e2:its2.toArray.size=es.length:=by rw[B3,←v2.length,Cw.length]
 have rc:RcNeAt X.A s (.ref a) (.ref b) (!lE (.lst ds) (.lst es)):=by
  by_cases hl:ds.length=es.length
  ·have z:=RcNeAt.lists (A:=X.A) (s:=s) uK.isList Ae.isList (by rw[e1,e2];exact hl) (by omega) (rK I 32 X.A (λd e x y u v A a1 a2 a3 a4 a5 a6=>xK I 32 d e x y u v A a1 a2 a3 a4 a5 a6) ds es xs ys rM its2 hd (by omega) Hu Cw v1 v2)
   rw[e1,fJ hl]at z
   rw[Fd]
   exact z
  ·rw[cC (by intro z;cases z;exact hl rfl)]
   exact RcNeAt.lists_lengths uK.isList Ae.isList (by rw[e1,e2];simpa using hl) (by omega)
 exact rc X.prog X.w X.xe _ ⟨.bl _,H,I,rfl,q⟩
end
end L2


namespace L2
open PySem PySem.Spec PyProof.Rows
structure Raw(K:aA)(mg:Str→Option Value)(x:Str)(st:Stmt):Prop where
 ex:∃f fd,Oh K x x st f fd∧mg x=some (.ref f)
theorem Wj{K:aA}{h:Heap}{mg:Str→Option Value}{x:Str}{st:Stmt}{f:Addr}{oc:Value}{od an:Option Addr}{osl:Array (Option Value)}{kV doc pm cdv ct:Value}(X:K.In h)(G:h.Ns mainGlobals mg)
  (a:K9 K mainGlobals x=some (some (.ref f))) (l:K.lookup f=some ⟨oc,od,.func (E2 x x (cW st) (bN st) (aF st) .none kV doc pm an cdv ct),osl⟩)
  (c:J1 K cdv x=true) (k:F6 K (.ref f)=true):Raw K mg x st:=⟨⟨f,_,We l c k,L7 X G a⟩⟩
structure jF(P:Program)(w:World)(K:aA)(mg:Str→Option Value)(base:Heap)(x:Str)(k:Nat)(n:Nat)(sp:Sp):Prop where
 ex:∃f fd ps,ps.length=n∧rG P w K mg base Jd k f fd ps sp∧Binds K fd ps []∧F6 K (.ref f)=true∧mg x=some (.ref f)
theorem Raw.cal{P:Program}{w:World}{K:aA}{mg:Str→Option Value}{base:Heap}{x:Str}{st:Stmt}{N ps:List Str}{k:Nat}{sp:Sp}(R:Raw K mg x st)(S:bA N ps (aF st))(len:∀vs H Q E,sp vs H Q E→vs.length=ps.length)
  (hb:∀(kV doc pm:Value)(an:Option Addr)(cdv ct:Value)(us:List Value),us.length=ps.length→bindArgs (E2 x x (cW st) (bN st) (aF st) .none kV doc pm an cdv ct) ⟨us,[]⟩=pure (ps.zip us))
  (hbody:∀(f:Addr)(cdv:Value)(A:Around)(outer:List Env)(s:Shared)(H:Hp)(vs:List V)(Q:VK)(E:XK),gF k (A.deeper (envOfC x (aF st) s.heap.objs.size f cdv))→sp vs H Q E →
   ∃t,Es (wW Jd P w K mg base N x (aF st) f cdv A outer s H E).Vg (bN st) t∧t {nx:=λ_ H'=>Q .non H',rt:=Q} (start N vs) H):jF P w K mg base x (k+1) ps.length sp:=by
 obtain⟨f,fd,F,m⟩:=R.ex
 exact⟨f,fd,ps,rfl,F.ok S len λcdv A outer s H vs Q E hr h=>hbody f cdv A outer s H vs Q E hr h,F.binds hb,F.kp,m⟩
theorem Wk{X:Cx}{x:Str}{k n:Nat}{sp:Sp}{e:Expr}{es:List Expr}{p pos:Pos}{t:TA}(C:jF X.prog X.w X.K X.mg X.base x k n sp)(hr:gF k X.A)(hg:Gl X x)
  (ha:PA X (e::es) t) (hdb:(x==("__debug__" : Str))=false:=by decide) (he:starEach (e::es) X.env=(false,eval e X.env)::starEach es X.env:=by rfl) (hpl:(backTo pos (starEach es X.env)).any (·.1)=false:=by rfl) :
  PE X (.Call (.Name x p) (e::es) [] pos) (zW sp [] E0 t):=by
 obtain⟨f,fd,ps,_,F,hb,hk,hm⟩:=C.ex
 exact Pg F hr hg hm hk hb .nil Zr ha hdb he hpl
theorem call_of{sp:Sp}{E:XK}{t:TA}{σ:St}{H:Hp}{Q:VK}(h:t σ H λvs H1=>sp vs H1 Q E):zW sp [] E t σ H Q:=by
 unfold zW
 have e:(λ(vs:List V) (H1:Hp)=>sp (vs++[]) H1 Q E)=λvs H1=>sp vs H1 Q E:=by funext vs H1;rw[J5]
 rw[e]
 exact h
theorem bT{H:Hp}{p:Addr}(h:H p=none)(o:HO):aH H (upd H p o):=λb u q=>by rw[aX (dM q h)];exact q
theorem aH.tup{K:aA}{H H':Hp}{a:Addr}{xs:List V}(e:aH H H')(h:lB K H a xs):lB K H' a xs:=by
 rcases h with (h | ⟨o,h⟩) | h
 ·exact .inl (.inl (e _ _ h))
 ·exact .inl (.inr ⟨o,e _ _ h⟩)
 ·exact .inr h
mutual
theorem aH.reads{K:aA}{H H':Hp}(e:aH H H'):∀(d:DV)(x:V),Reads K H d x→Reads K H' d x
 | .int i,x,h=>by unfold Reads at h ⊢;exact h
 | .non,x,h=>by unfold Reads at h ⊢;exact h
 | .lst ds,x,h=>by
  unfold Reads at h ⊢
  obtain⟨a,xs,r,hq,l⟩:=h
  exact⟨a,xs,r,e.seq hq,aH.Cy e ds xs l⟩
 | .tup ds,x,h=>by
  unfold Reads at h ⊢
  obtain⟨a,xs,r,hq,l⟩:=h
  exact⟨a,xs,r,e.tup hq,aH.Cy e ds xs l⟩
theorem aH.Cy{K:aA}{H H':Hp}(e:aH H H'):∀(ds:List DV)(xs:List V),bB K H ds xs→bB K H' ds xs
 | [],xs,h=>by unfold bB at h ⊢;exact h
 | d::ds,xs,h=>by
  unfold bB at h ⊢
  obtain⟨y,ys,r,h1,h2⟩:=h
  exact⟨y,ys,r,aH.reads e d y h1,aH.Cy e ds ys h2⟩
end
theorem rN:∀ns:List Int,bK (ns.map DV.int)=0
 | []=>by rw[G1];unfold bK;rfl
 | n::ns=>by rw[C9];unfold bK DV.depth;rw[rN ns];rfl
theorem Ko{ns ms:List Int}:ns.map DV.int=ms.map DV.int↔ns=ms:=by
 constructor
 ·intro h
  have:∀(a b:Int),DV.int a=DV.int b→a=b:=λa b e=>by cases e;rfl
  exact(List.map_inj_right this).mp h
 ·rintro rfl;rfl
theorem JB{xs:List V}{k:Int}{v:V}(h0:0≤k)(h:xs[k.toNat]?=some v):Aa xs k=some v:=by
 have ek:k=((k.toNat:Nat):Int):=by omega
 rw[ek]
 exact Pn h
end L2
namespace L2
theorem cQ.at{scope:PySem.Scope}{N:List PySem.Str}{k:Nat}{fr:List Nat}(zN:PySem.Scope)(oN:List PySem.Str)(h:Kf zN scope oN N k fr=true):cQ zN scope oN N k fr:=cQ.of h
end L2
namespace L2
open PySem PySem.Spec PyProof.Rows
def nR(H:Hp)(p:Addr):Prop:=(∀xs,H p≠some (.tup xs))∧∀o xs,H p≠some (.oX o (.tup xs))
theorem mC{H:Hp}{p:Addr}{xs:List V}(h:H p=some (.lst xs)):nR H p:=⟨λys e=>(by rw[h]at e;cases e),λo ys e=>(by rw[h]at e;cases e)⟩
theorem Kq{H:Hp}{p:Addr}{kvs:List (Key×V)}(h:H p=some (.dK kvs)):nR H p:=⟨λys e=>(by rw[h]at e;cases e),λo ys e=>(by rw[h]at e;cases e)⟩
theorem lB.upd{K:aA}{H:Hp}{a p:Addr}{xs:List V}{o:HO}(h:lB K H a xs)(n:nR H p):lB K (upd H p o) a xs:=by
 rcases h with (h | ⟨u,h⟩) | h
 ·exact .inl (.inl (by rw[aX (λz=>n.1 xs (by rw[←z];exact h))];exact h))
 ·exact .inl (.inr ⟨u,by rw[aX (λz=>n.2 u xs (by rw[←z];exact h))];exact h⟩)
 ·exact .inr h
mutual
def cY:DV→Bool
 | .int _=>true
 | .non=>true
 | .lst _=>false
 | .tup ds=>cR ds
def cR:List DV→Bool
 | []=>true
 | d::ds=>cY d&&cR ds
end
mutual
theorem Hv{K:aA}{H:Hp}{p:Addr}{o:HO}(n:nR H p):∀(d:DV)(x:V),cY d=true→Reads K H d x→Reads K (upd H p o) d x
 | .int i,x,_,h=>by unfold Reads at h ⊢;exact h
 | .non,x,_,h=>by unfold Reads at h ⊢;exact h
 | .lst ds,x,hi,h=>by unfold cY at hi;cases hi
 | .tup ds,x,hi,h=>by
  unfold cY at hi
  unfold Reads at h ⊢
  obtain⟨a,xs,r,hq,l⟩:=h
  exact⟨a,xs,r,hq.upd n,rO n ds xs hi l⟩
theorem rO{K:aA}{H:Hp}{p:Addr}{o:HO}(n:nR H p):∀(ds:List DV)(xs:List V),cR ds=true→bB K H ds xs→bB K (upd H p o) ds xs
 | [],xs,_,h=>by unfold bB at h ⊢;exact h
 | d::ds,xs,hi,h=>by
  unfold cR at hi
  rw[K4]at hi
  unfold bB at h ⊢
  obtain⟨y,ys,r,h1,h2⟩:=h
  exact⟨y,ys,r,Hv n d y hi.1 h1,rO n ds ys hi.2 h2⟩
end
end L2
namespace L2
open PySem PySem.Spec PyProof.Rows
section
variable{X:Cx}
end
end L2
namespace L2
open PySem PySem.Spec PyProof.Rows
end L2
namespace L2
open PySem PySem.Spec PyProof.Rows
section
variable{X:Cx}
end
theorem Af{K:aA}:C8 K (.type "int") (.type "int")=some true:=by unfold C8;rfl
theorem uL{K:aA}:C8 K (.type "bool") (.type "bool")=some true:=by unfold C8;rfl
theorem uM{K:aA}:C8 K (.type "list") (.type "list")=some true:=by unfold C8;rfl
theorem qP{K:aA}:C8 K (.type "tuple") (.type "tuple")=some true:=by unfold C8;rfl
theorem xM{K:aA}:C8 K (.type "int") (.type "bool")=some false:=by
  first | rfl | decide | (unfold C8 R6;rfl) | (unfold C8 R6;simp;decide)
end L2


namespace L2
open PySem PySem.Spec PyProof.Rows
section
variable{X:Cx}
open SeqAt in
theorem Wl(hu:X.A.units+64<cLine):jC X (compareOp .NotEq) (λx y H Q=>∃ds es,Reads X.K H (.tup ds) x∧Reads X.K H (.tup es) y∧bK ds≤32∧Q (.bl (!lE (.tup ds) (.tup es))) H):=by
 intro pins s σ H x y v u Q I rx ry h
 obtain⟨ds,es,r1,r2,hd,q⟩:=h
 unfold Reads at r1 r2
 obtain⟨a,xs,rfl,hq1,Hu⟩:=r1
 obtain⟨b,ys,rfl,hq2,Cw⟩:=r2
 cases rx
 cases ry
 obtain⟨rM,v1,uK,_⟩:=I.tuple hq1
 obtain⟨its2,v2,Ae,_⟩:=I.tuple hq2
 have e1:rM.toArray.size=ds.length:=by rw[B3,←v1.length,Hu.length]
 have e2:its2.toArray.size=es.length:=by rw[B3,←v2.length,Cw.length]
 have rc:RcNeAt X.A s (.ref a) (.ref b) (!lE (.tup ds) (.tup es)):=by
  have z:=RcNeAt.tuples (A:=X.A) (s:=s) (l:=a) (b:=b) uK Ae (by omega) (rK I 32 X.A (λd e x y u v A a1 a2 a3 a4 a5 a6=>xK I 32 d e x y u v A a1 a2 a3 a4 a5 a6) ds es xs ys rM its2 hd (by omega) Hu Cw v1 v2)
  rw[e1,e2]at z
  by_cases hl:ds.length=es.length
  ·rw[←hl,Nat.min_self,fJ hl]at z
   rw[Fe]
   simpa using z
  ·rw[cC (by intro z;cases z;exact hl rfl)]
   have zz:(ds.length==es.length)=false:=by simpa using hl
   rw[zz,R5]at z
   exact z
 exact rc X.prog X.w X.xe _ ⟨.bl _,H,I,rfl,q⟩
end
end L2


namespace L2
open PySem PySem.Spec PyProof.Rows
inductive D where
  | non | bl (b:Bool) | int (i:Int) | str (x:Str)
  | lst (ds:List D) | tup (ds:List D)
  | dk (ks:List Key) (ds:List D)
  | dt (ks:List (List Key)) (ds:List D)
  | ins (C:Addr) (nm:List Str) (ds:List D)
abbrev Fp:=Addr→Prop
def Apart(A B:Fp):Prop:=∀x,A x→¬B x
def Is(A B:Fp):Prop:=∀x,A x↔B x
def None(A:Fp):Prop:=∀x,¬A x
abbrev dY(A B:Fp):Fp:=λx=>A x∨B x
mutual
def Rv(K:aA)(H:Hp):D→V→Prop
 | .non,v=>v=.non
 | .bl b,v=>v=.bl b
 | .int i,v=>v=.int i
 | .str x,v=>v=.str x
 | .lst ds,v=>∃a xs,v=.ref a∧iH K H a xs∧bG K H ds xs
 | .tup ds,v=>∃a xs,v=.ref a∧lB K H a xs∧bG K H ds xs
 | .dk ks ds,v=>∃a xs,v=.ref a∧Rd H a (.dK (ks.zip xs))∧ks.length=xs.length∧bG K H ds xs
 | .dt ks ds,v=>∃a xs,v=.ref a∧Rd H a (.dT (ks.zip xs))∧ks.length=xs.length∧bG K H ds xs
 | .ins C nm ds,v=>∃a dx xs,v=.ref a∧H a=some (.ins C dx (nm.zip xs))∧nm.length=xs.length∧bG K H ds xs
def bG(K:aA)(H:Hp):List D→List V→Prop
 | [],xs=>xs=[]
 | d::ds,xs=>∃y ys,xs=y::ys∧Rv K H d y∧bG K H ds ys
end
theorem aH.rd{H H':Hp}(e:aH H H'){a:Addr}{u:HO}(h:Rd H a u):Rd H' a u:=by
 rcases h with h | ⟨o,h⟩
 ·exact .inl (e _ _ h)
 ·exact .inr ⟨o,e _ _ h⟩
mutual
theorem aH.rv{K:aA}{H H':Hp}(e:aH H H'):∀(d:D)(v:V),Rv K H d v→Rv K H' d v
 | .non,v,h=>by unfold Rv at h ⊢;exact h
 | .bl _,v,h=>by unfold Rv at h ⊢;exact h
 | .int _,v,h=>by unfold Rv at h ⊢;exact h
 | .str _,v,h=>by unfold Rv at h ⊢;exact h
 | .lst ds,v,h=>by unfold Rv at h ⊢;obtain⟨a,xs,r,hq,l⟩:=h;exact⟨a,xs,r,e.seq hq,aH.Je e ds xs l⟩
 | .tup ds,v,h=>by unfold Rv at h ⊢;obtain⟨a,xs,r,hq,l⟩:=h;exact⟨a,xs,r,e.tup hq,aH.Je e ds xs l⟩
 | .dk ks ds,v,h=>by unfold Rv at h ⊢;obtain⟨a,xs,r,hq,hl,l⟩:=h;exact⟨a,xs,r,e.rd hq,hl,aH.Je e ds xs l⟩
 | .dt ks ds,v,h=>by unfold Rv at h ⊢;obtain⟨a,xs,r,hq,hl,l⟩:=h;exact⟨a,xs,r,e.rd hq,hl,aH.Je e ds xs l⟩
 | .ins C nm ds,v,h=>by unfold Rv at h ⊢;obtain⟨a,dx,xs,r,hq,hl,l⟩:=h;exact⟨a,dx,xs,r,e _ _ hq,hl,aH.Je e ds xs l⟩
theorem aH.Je{K:aA}{H H':Hp}(e:aH H H'):∀(ds:List D)(xs:List V),bG K H ds xs→bG K H' ds xs
 | [],xs,h=>by unfold bG at h ⊢;exact h
 | d::ds,xs,h=>by unfold bG at h ⊢;obtain⟨y,ys,r,h1,h2⟩:=h;exact⟨y,ys,r,aH.rv e d y h1,aH.Je e ds ys h2⟩
end
theorem bG.length{K:aA}{H:Hp}:∀{ds:List D} {xs:List V},bG K H ds xs→xs.length=ds.length
 | [],xs,h=>by unfold bG at h;subst h;rfl
 | d::ds,xs,h=>by unfold bG at h;obtain⟨y,ys,rfl,_,h2⟩:=h;rw[E3,E3,bG.length h2]
theorem bG.get{K:aA}{H:Hp}:∀{ds:List D} {xs:List V} {i:Nat} {d:D},bG K H ds xs→ds[i]?=some d→∃x,xs[i]?=some x∧Rv K H d x
 | [],xs,i,d,h,e=>by simp at e
 | d'::ds,xs,0,d,h,e=>by unfold bG at h;obtain⟨y,ys,rfl,h1,_⟩:=h;simp at e;subst e;exact⟨y,rfl,h1⟩
 | d'::ds,xs,i+1,d,h,e=>by
  unfold bG at h
  obtain⟨y,ys,rfl,_,h2⟩:=h
  obtain⟨x,e1,e2⟩:=bG.get (i:=i) (d:=d) h2 (by simpa using e)
  exact⟨x,by simpa using e1,e2⟩
theorem bG.of{K:aA}{H:Hp}:∀{ds:List D} {xs:List V},xs.length=ds.length→(∀(i:Nat)(d:D)(x:V),ds[i]?=some d→xs[i]?=some x→Rv K H d x)→bG K H ds xs
 | [],xs,hl,_=>by unfold bG;exact List.eq_nil_of_length_eq_zero hl
 | d::ds,[],hl,_=>by simp at hl
 | d::ds,x::xs,hl,h=>by
  unfold bG
  exact⟨x,xs,rfl,h 0 d x rfl rfl,bG.of (by simpa using hl) λi e y h1 h2=>h (i+1) e y (by simpa using h1) (by simpa using h2)⟩
def cN{α β:Type}(R:α→Fp→β→Prop):List α→Fp→List β→Prop
 | [],A,ys=>None A∧ys=[]
 | d::ds,A,ys=>∃y yt A1 A2,ys=y::yt∧Apart A1 A2∧Is A (dY A1 A2)∧R d A1 y∧cN R ds A2 yt
section
variable{α β:Type}{R R':α→Fp→β→Prop}
theorem cN.congr:∀{ds:List α} {A A':Fp} {ys:List β},cN R ds A ys→Is A A'→cN R ds A' ys
 | [],A,A',ys,h,e=>⟨λx q=>h.1 x ((e x).mpr q),h.2⟩
 | d::ds,A,A',ys,⟨y,yt,A1,A2,h1,h2,h3,h4⟩,e=>⟨y,yt,A1,A2,h1,h2,λx=>((e x).symm).trans (h3 x),h4⟩
theorem cN.mono:∀{ds:List α} {A:Fp} {ys:List β},cN R ds A ys→(∀e B z,(∀x,B x→A x)→R e B z→R' e B z)→cN R' ds A ys
 | [],A,ys,h,_=>h
 | d::ds,A,ys,⟨y,yt,A1,A2,h1,h2,h3,h4,h5⟩,m=>
  ⟨y,yt,A1,A2,h1,h2,h3,m _ _ _ (λx q=>(h3 x).mpr (.inl q)) h4,h5.mono λe B z hb=>m e B z λx q=>(h3 x).mpr (.inr (hb x q))⟩
theorem cN.len:∀{ds:List α} {A:Fp} {ys:List β},cN R ds A ys→ys.length=ds.length
 | [],A,ys,h=>by rw[h.2];rfl
 | d::ds,A,ys,⟨y,yt,A1,A2,h1,h2,h3,h4,h5⟩=>by rw[h1,E3,E3,h5.len]
theorem cN.focus:∀{ds:List α} {A:Fp} {ys:List β} {i:Nat} {d:α},cN R ds A ys→ds[i]?=some d→∃y A1 C,ys[i]?=some y∧Apart A1 C∧Is A (dY A1 C)∧R d A1 y ∧
    ∀(R':α→Fp→β→Prop),(∀e B z,(∀x,B x→C x)→R e B z→R' e B z)→∀d' y' Oi,Apart Oi C→R' d' Oi y'→cN R' (ds.set i d') (dY Oi C) (ys.set i y')
  | [],A,ys,i,d,h,e=>by simp at e
  | d0::ds,A,ys,0,d,⟨y,yt,A1,A2,h1,h2,h3,h4,h5⟩,e=>by
    simp at e
    subst e h1
    exact⟨y,A1,A2,rfl,h2,h3,h4,λR' m d' y' Oi ap r=>⟨y',yt,Oi,A2,rfl,ap,λx=>Iff.rfl,r,h5.mono m⟩⟩
  | d0::ds,A,ys,i+1,d,⟨y,yt,A1,A2,h1,h2,h3,h4,h5⟩,e=>by
    subst h1
    obtain⟨z,B1,C,e1,ap,hA,r,k⟩:=cN.focus (i:=i) (d:=d) h5 (by simpa using e)
    refine⟨z,B1,dY A1 C,by simpa using e1,?_,?_,r,λR' m d' y' Oi ap' r'=>?_⟩
    · intro x hx hc
      rcases hc with hc | hc
      · exact h2 x hc ((hA x).mpr (.inl hx))
      · exact ap x hx hc
    · intro x
      rw[h3 x]
      constructor
      · rintro(q | q)
        · exact .inr (.inl q)
        · rcases(hA x).mp q with q | q
          · exact .inl q
          · exact .inr (.inr q)
      · rintro(q | q | q)
        · exact .inr ((hA x).mpr (.inl q))
        · exact .inl q
        · exact .inr ((hA x).mpr (.inr q))
    · refine⟨y,_,A1,dY Oi C,rfl,?_,?_,m _ _ _ (λx q=>.inl q) h4,k R' (λe B z hb=>m e B z λx q=>.inr (hb x q)) d' y' Oi (λx q q'=>ap' x q (.inr q')) r'⟩
      · intro x q q'
        rcases q' with q' | q'
        · exact ap' x q' (.inl q)
        · exact h2 x q ((hA x).mpr (.inr q'))
      · intro x
        show (Oi x∨A1 x∨C x)↔(A1 x∨Oi x∨C x)
        constructor
        · rintro(q | q | q)
          · exact .inr (.inl q)
          · exact .inl q
          · exact .inr (.inr q)
        · rintro(q | q | q)
          · exact .inr (.inl q)
          · exact .inl q
          · exact .inr (.inr q)
theorem cN.snoc:∀{ds:List α} {A A1:Fp} {ys:List β} {d:α} {y:β},cN R ds A ys→R d A1 y→Apart A A1→cN R (ds++[d]) (dY A A1) (ys++[y])
 | [],A,A1,ys,d,y,h,r,ap=>by
  rw[h.2]
  exact⟨y,[],A1,λ_=>False,rfl,λ_ _ z=>z,λx=>⟨λq=>q.elim (λq=>absurd q (h.1 x)) .inl,λq=>q.elim .inr False.elim⟩,r,λ_ z=>z,rfl⟩
 | d0::ds,A,A1,ys,d,y,⟨y0,yt,B1,B2,h1,h2,h3,h4,h5⟩,r,ap=>by
  subst h1
  refine⟨y0,yt++[y],B1,dY B2 A1,rfl,?_,?_,h4,cN.snoc h5 r λx q=>ap x ((h3 x).mpr (.inr q))⟩
  ·intro x q q'
   rcases q' with q' | q'
   ·exact h2 x q q'
   ·exact ap x ((h3 x).mpr (.inl q)) q'
  ·intro x
   show (A x∨A1 x)↔(B1 x∨B2 x∨A1 x)
   rw[h3 x]
   exact or_assoc
end
mutual
def Ow(K:aA)(H:Hp):D→Fp→V→Prop
 | .non,A,v=>None A∧v=.non
 | .bl b,A,v=>None A∧v=.bl b
 | .int i,A,v=>None A∧v=.int i
 | .str x,A,v=>None A∧v=.str x
 | .lst ds,A,v=>∃a xs B,v=.ref a∧H a=some (.lst xs)∧¬B a∧Is A (dY (·=a) B)∧cZ K H ds B xs
 | .tup ds,A,v=>∃a xs,v=.ref a∧lB K H a xs∧cZ K H ds A xs
 | .dk ks ds,A,v=>∃a xs B,v=.ref a∧H a=some (.dK (ks.zip xs))∧ks.length=xs.length∧¬B a∧Is A (dY (·=a) B)∧cZ K H ds B xs
 | .dt ks ds,A,v=>∃a xs B,v=.ref a∧H a=some (.dT (ks.zip xs))∧ks.length=xs.length∧¬B a∧Is A (dY (·=a) B)∧cZ K H ds B xs
 | .ins C nm ds,A,v=>∃a dx xs B,v=.ref a∧H a=some (.ins C dx (nm.zip xs))∧H dx=some (.own a)∧nm.length=xs.length∧¬B a∧¬B dx∧Is A (dY (λx=>x=a∨x=dx) B)∧cZ K H ds B xs
def cZ(K:aA)(H:Hp):List D→Fp→List V→Prop
 | [],A,ys=>None A∧ys=[]
 | d::ds,A,ys=>∃y yt A1 A2,ys=y::yt∧Apart A1 A2∧Is A (dY A1 A2)∧Ow K H d A1 y∧cZ K H ds A2 yt
end
theorem dI{K:aA}{H:Hp}:∀{ds:List D} {A:Fp} {ys:List V},cZ K H ds A ys↔cN (Ow K H) ds A ys
 | [],A,ys=>by unfold cZ cN;exact Iff.rfl
 | d::ds,A,ys=>by
  unfold cZ cN
  constructor
  ·rintro⟨y,yt,A1,A2,h1,h2,h3,h4,h5⟩;exact⟨y,yt,A1,A2,h1,h2,h3,h4,dI.mp h5⟩
  ·rintro⟨y,yt,A1,A2,h1,h2,h3,h4,h5⟩;exact⟨y,yt,A1,A2,h1,h2,h3,h4,dI.mpr h5⟩
def oZ(K:aA)(H H':Hp):Prop:=∀a xs,lB K H a xs→lB K H' a xs
theorem aH.tk{K:aA}{H H':Hp}(e:aH H H'):oZ K H H':=λ_ _ h=>e.tup h
theorem Ow.congr{K:aA}{H:Hp}{d:D}{A A':Fp}{v:V}(h:Ow K H d A v)(e:Is A A'):Ow K H d A' v:=by
 cases d with
 | non=>unfold Ow at h ⊢;exact⟨λx q=>h.1 x ((e x).mpr q),h.2⟩
 | bl b=>unfold Ow at h ⊢;exact⟨λx q=>h.1 x ((e x).mpr q),h.2⟩
 | int b=>unfold Ow at h ⊢;exact⟨λx q=>h.1 x ((e x).mpr q),h.2⟩
 | str b=>unfold Ow at h ⊢;exact⟨λx q=>h.1 x ((e x).mpr q),h.2⟩
 | lst ds=>unfold Ow at h ⊢;obtain⟨a,xs,B,h1,h2,h3,h4,h5⟩:=h;exact⟨a,xs,B,h1,h2,h3,λx=>(e x).symm.trans (h4 x),h5⟩
 | tup ds=>unfold Ow at h ⊢;obtain⟨a,xs,h1,h2,h3⟩:=h;exact⟨a,xs,h1,h2,dI.mpr ((dI.mp h3).congr e)⟩
 | dk ks ds=>unfold Ow at h ⊢;obtain⟨a,xs,B,h1,h2,h2',h3,h4,h5⟩:=h;exact⟨a,xs,B,h1,h2,h2',h3,λx=>(e x).symm.trans (h4 x),h5⟩
 | dt ks ds=>unfold Ow at h ⊢;obtain⟨a,xs,B,h1,h2,h2',h3,h4,h5⟩:=h;exact⟨a,xs,B,h1,h2,h2',h3,λx=>(e x).symm.trans (h4 x),h5⟩
 | ins C nm ds=>unfold Ow at h ⊢;obtain⟨a,dx,xs,B,h1,h2,h2',h3,h3',h3'',h4,h5⟩:=h;exact⟨a,dx,xs,B,h1,h2,h2',h3,h3',h3'',λx=>(e x).symm.trans (h4 x),h5⟩
mutual
theorem Ow.frame{K:aA}{H H':Hp}(t:oZ K H H'):∀(d:D)(A:Fp)(v:V),Ow K H d A v→(∀a,A a→H' a=H a)→Ow K H' d A v
 | .non,A,v,h,f=>by unfold Ow at h ⊢;exact h
 | .bl _,A,v,h,f=>by unfold Ow at h ⊢;exact h
 | .int _,A,v,h,f=>by unfold Ow at h ⊢;exact h
 | .str _,A,v,h,f=>by unfold Ow at h ⊢;exact h
 | .lst ds,A,v,h,f=>by
  unfold Ow at h ⊢
  obtain⟨a,xs,B,h1,h2,h3,h4,h5⟩:=h
  exact⟨a,xs,B,h1,(f a ((h4 a).mpr (.inl rfl))).trans h2,h3,h4,cZ.frame t ds B xs h5 λb q=>f b ((h4 b).mpr (.inr q))⟩
 | .tup ds,A,v,h,f=>by unfold Ow at h ⊢;obtain⟨a,xs,h1,h2,h3⟩:=h;exact⟨a,xs,h1,t _ _ h2,cZ.frame t ds A xs h3 f⟩
 | .dk ks ds,A,v,h,f=>by
  unfold Ow at h ⊢
  obtain⟨a,xs,B,h1,h2,h2',h3,h4,h5⟩:=h
  exact⟨a,xs,B,h1,(f a ((h4 a).mpr (.inl rfl))).trans h2,h2',h3,h4,cZ.frame t ds B xs h5 λb q=>f b ((h4 b).mpr (.inr q))⟩
 | .dt ks ds,A,v,h,f=>by
  unfold Ow at h ⊢
  obtain⟨a,xs,B,h1,h2,h2',h3,h4,h5⟩:=h
  exact⟨a,xs,B,h1,(f a ((h4 a).mpr (.inl rfl))).trans h2,h2',h3,h4,cZ.frame t ds B xs h5 λb q=>f b ((h4 b).mpr (.inr q))⟩
 | .ins C nm ds,A,v,h,f=>by
  unfold Ow at h ⊢
  obtain⟨a,dx,xs,B,h1,h2,h2',h3,h3',h3'',h4,h5⟩:=h
  exact⟨a,dx,xs,B,h1,(f a ((h4 a).mpr (.inl (.inl rfl)))).trans h2,(f dx ((h4 dx).mpr (.inl (.inr rfl)))).trans h2',h3,h3',h3'',h4,cZ.frame t ds B xs h5 λb q=>f b ((h4 b).mpr (.inr q))⟩
theorem cZ.frame{K:aA}{H H':Hp}(t:oZ K H H'):∀(ds:List D)(A:Fp)(ys:List V),cZ K H ds A ys→(∀a,A a→H' a=H a)→cZ K H' ds A ys
 | [],A,ys,h,f=>by unfold cZ at h ⊢;exact h
 | d::ds,A,ys,h,f=>by
  unfold cZ at h ⊢
  obtain⟨y,yt,A1,A2,h1,h2,h3,h4,h5⟩:=h
  exact⟨y,yt,A1,A2,h1,h2,h3,Ow.frame t d A1 y h4 λb q=>f b ((h3 b).mpr (.inl q)),cZ.frame t ds A2 yt h5 λb q=>f b ((h3 b).mpr (.inr q))⟩
end
mutual
theorem Ow.rv{K:aA}{H:Hp}:∀(d:D)(A:Fp)(v:V),Ow K H d A v→Rv K H d v
 | .non,A,v,h=>by unfold Ow at h;unfold Rv;exact h.2
 | .bl _,A,v,h=>by unfold Ow at h;unfold Rv;exact h.2
 | .int _,A,v,h=>by unfold Ow at h;unfold Rv;exact h.2
 | .str _,A,v,h=>by unfold Ow at h;unfold Rv;exact h.2
 | .lst ds,A,v,h=>by unfold Ow at h;unfold Rv;obtain⟨a,xs,B,h1,h2,h3,h4,h5⟩:=h;exact⟨a,xs,h1,iH.of h2,cZ.rv ds B xs h5⟩
 | .tup ds,A,v,h=>by unfold Ow at h;unfold Rv;obtain⟨a,xs,h1,h2,h3⟩:=h;exact⟨a,xs,h1,h2,cZ.rv ds A xs h3⟩
 | .dk ks ds,A,v,h=>by unfold Ow at h;unfold Rv;obtain⟨a,xs,B,h1,h2,h2',h3,h4,h5⟩:=h;exact⟨a,xs,h1,.inl h2,h2',cZ.rv ds B xs h5⟩
 | .dt ks ds,A,v,h=>by unfold Ow at h;unfold Rv;obtain⟨a,xs,B,h1,h2,h2',h3,h4,h5⟩:=h;exact⟨a,xs,h1,.inl h2,h2',cZ.rv ds B xs h5⟩
 | .ins C nm ds,A,v,h=>by unfold Ow at h;unfold Rv;obtain⟨a,dx,xs,B,h1,h2,h2',h3,h3',h3'',h4,h5⟩:=h;exact⟨a,dx,xs,h1,h2,h3,cZ.rv ds B xs h5⟩
theorem cZ.rv{K:aA}{H:Hp}:∀(ds:List D)(A:Fp)(ys:List V),cZ K H ds A ys→bG K H ds ys
 | [],A,ys,h=>by unfold cZ at h;unfold bG;exact h.2
 | d::ds,A,ys,h=>by unfold cZ at h;unfold bG;obtain⟨y,yt,A1,A2,h1,h2,h3,h4,h5⟩:=h;exact⟨y,yt,h1,Ow.rv d A1 y h4,cZ.rv ds A2 yt h5⟩
end
def mZ(H:Hp)(a:Addr):Prop:=(∃o,H a=some o)∧nR H a
mutual
theorem Ow.cells{K:aA}{H:Hp}:∀(d:D)(A:Fp)(v:V),Ow K H d A v→∀a,A a→mZ H a
 | .non,A,v,h,a,q=>by unfold Ow at h;exact absurd q (h.1 a)
 | .bl _,A,v,h,a,q=>by unfold Ow at h;exact absurd q (h.1 a)
 | .int _,A,v,h,a,q=>by unfold Ow at h;exact absurd q (h.1 a)
 | .str _,A,v,h,a,q=>by unfold Ow at h;exact absurd q (h.1 a)
 | .lst ds,A,v,h,a,q=>by
  unfold Ow at h
  obtain⟨p,xs,B,h1,h2,h3,h4,h5⟩:=h
  rcases(h4 a).mp q with z | z
  ·cases z;exact⟨⟨_,h2⟩,mC h2⟩
  ·exact cZ.cells ds B xs h5 a z
 | .tup ds,A,v,h,a,q=>by unfold Ow at h;obtain⟨p,xs,h1,h2,h3⟩:=h;exact cZ.cells ds A xs h3 a q
 | .dk ks ds,A,v,h,a,q=>by
  unfold Ow at h
  obtain⟨p,xs,B,h1,h2,h2',h3,h4,h5⟩:=h
  rcases(h4 a).mp q with z | z
  ·cases z;exact⟨⟨_,h2⟩,Kq h2⟩
  ·exact cZ.cells ds B xs h5 a z
 | .dt ks ds,A,v,h,a,q=>by
  unfold Ow at h
  obtain⟨p,xs,B,h1,h2,h2',h3,h4,h5⟩:=h
  rcases(h4 a).mp q with z | z
  ·cases z;exact⟨⟨_,h2⟩,λys e=>(by rw[h2]at e;cases e),λo ys e=>(by rw[h2]at e;cases e)⟩
  ·exact cZ.cells ds B xs h5 a z
 | .ins C nm ds,A,v,h,a,q=>by
  unfold Ow at h
  obtain⟨p,dx,xs,B,h1,h2,h2',h3,h3',h3'',h4,h5⟩:=h
  rcases(h4 a).mp q with (z | z) | z
  ·cases z;exact⟨⟨_,h2⟩,λys e=>(by rw[h2]at e;cases e),λo ys e=>(by rw[h2]at e;cases e)⟩
  ·cases z;exact⟨⟨_,h2'⟩,λys e=>(by rw[h2']at e;cases e),λo ys e=>(by rw[h2']at e;cases e)⟩
  ·exact cZ.cells ds B xs h5 a z
theorem cZ.cells{K:aA}{H:Hp}:∀(ds:List D)(A:Fp)(ys:List V),cZ K H ds A ys→∀a,A a→mZ H a
 | [],A,ys,h,a,q=>by unfold cZ at h;exact absurd q (h.1 a)
 | d::ds,A,ys,h,a,q=>by
  unfold cZ at h
  obtain⟨y,yt,A1,A2,h1,h2,h3,h4,h5⟩:=h
  rcases(h3 a).mp q with z | z
  ·exact Ow.cells d A1 y h4 a z
  ·exact cZ.cells ds A2 yt h5 a z
end
mutual
def D.cY:D→Bool
  | .non=>true | .bl _=>true | .int _=>true | .str _=>true
  | .tup ds=>D.cR ds
  | _=>false
def D.cR:List D→Bool
  | []=>true
  | d::ds=>D.cY d&&D.cR ds
end
abbrev nil:Fp:=λ_=>False
mutual
theorem rP{K:aA}{H:Hp}:∀(d:D)(v:V),d.cY=true→Rv K H d v→Ow K H d nil v
 | .non,v,_,h=>by unfold Rv at h;unfold Ow;exact⟨λ_ z=>z,h⟩
 | .bl _,v,_,h=>by unfold Rv at h;unfold Ow;exact⟨λ_ z=>z,h⟩
 | .int _,v,_,h=>by unfold Rv at h;unfold Ow;exact⟨λ_ z=>z,h⟩
 | .str _,v,_,h=>by unfold Rv at h;unfold Ow;exact⟨λ_ z=>z,h⟩
 | .tup ds,v,i,h=>by unfold D.cY at i;unfold Rv at h;unfold Ow;obtain⟨a,xs,h1,h2,h3⟩:=h;exact⟨a,xs,h1,h2,xN ds xs i h3⟩
 | .lst ds,v,i,h=>by unfold D.cY at i;cases i
 | .dk _ ds,v,i,h=>by unfold D.cY at i;cases i
 | .dt _ ds,v,i,h=>by unfold D.cY at i;cases i
 | .ins _ _ ds,v,i,h=>by unfold D.cY at i;cases i
theorem xN{K:aA}{H:Hp}:∀(ds:List D)(ys:List V),D.cR ds=true→bG K H ds ys→cZ K H ds nil ys
 | [],ys,_,h=>by unfold bG at h;unfold cZ;exact⟨λ_ z=>z,h⟩
 | d::ds,ys,i,h=>by
  unfold D.cR at i
  rw[K4]at i
  unfold bG at h
  unfold cZ
  obtain⟨y,yt,h1,h2,h3⟩:=h
  exact⟨y,yt,nil,nil,h1,λ_ z _=>z,λx=>⟨False.elim,λz=>z.elim id id⟩,rP d y i.1 h2,xN ds yt i.2 h3⟩
end
open Classical in
noncomputable def out(H:Hp)(A:Fp):Hp:=λa=>if A a then none else H a
theorem xO{H:Hp}{A:Fp}{a:Addr}(h:¬A a):out H A a=H a:=by unfold out;rw[if_neg h]
theorem aZ{H:Hp}{A:Fp}{a:Addr}{o:HO}:out H A a=some o↔¬A a∧H a=some o:=by
 unfold out
 split
 ·rename_i h;exact⟨λz=>(by cases z),λz=>absurd h z.1⟩
 ·rename_i h;exact⟨λz=>⟨h,z⟩,λz=>z.2⟩
theorem gH(H:Hp)(A:Fp):aH (out H A) H:=λb o h=>(aZ.mp h).2
theorem Kr{K:aA}{H:Hp}{A:Fp}(h:∀a,A a→nR H a):oZ K H (out H A):=λa xs q=>by
 rcases q with (q | ⟨o,q⟩) | q
 ·exact .inl (.inl (aZ.mpr ⟨λz=>(h a z).1 _ q,q⟩))
 ·exact .inl (.inr ⟨o,aZ.mpr ⟨λz=>(h a z).2 _ _ q,q⟩⟩)
 ·exact .inr q
theorem Ow.out{K:aA}{H:Hp}{d:D}{A A':Fp}{v:V}(h:Ow K H d A' v)(ap:Apart A' A)(c:∀a,A a→nR H a):Rv K (out H A) d v:=
 Ow.rv d A' v (Ow.frame (Kr c) d A' v h λa q=>xO (ap a q))
end L2


namespace L2
open PySem PySem.Spec PyProof.Rows
abbrev DE:=List (Option D)
abbrev FE:=DE→Option D
abbrev FA:=DE→Option (List D)
abbrev FT:=DE→Option Bool
def oW(K:aA)(H:Hp)(e:DE)(σ:St):Prop:=∀(i:Nat)(d:D),e[i]?=some (some d)→∃v,σ[i]?=some (some v)∧Rv K H d v
theorem oW.same{K:aA}{H H':Hp}{e:DE}{σ:St}(h:oW K H e σ)(s:aH H H'):oW K H' e σ:=λi d q=>let ⟨v,h1,h2⟩:=h i d q;⟨v,h1,s.rv _ _ h2⟩
structure Zn(K:aA)(N:Fp)(Z H:Hp):Prop where
 sm:aH Z H
 tk:oZ K H Z
 no:∀a,N a→Z a=none∧¬H a=none
theorem Zn.self(K:aA)(H:Hp):Zn K nil H H:=⟨aH.refl _,λ_ _ h=>h,λ_ z=>z.elim⟩
theorem oZ.trans{K:aA}{H H1 H2:Hp}(a:oZ K H H1)(b:oZ K H1 H2):oZ K H H2:=λp xs h=>b p xs (a p xs h)
theorem Ow.same{K:aA}{H H':Hp}{d:D}{A:Fp}{v:V}(h:Ow K H d A v)(s:aH H H'):Ow K H' d A v:=
 Ow.frame s.tk d A v h λa q=>by
  obtain⟨⟨o,e⟩,_⟩:=Ow.cells d A v h a q
  rw[e];exact s a o e
theorem cZ.same{K:aA}{H H':Hp}{ds:List D}{A:Fp}{vs:List V}(h:cZ K H ds A vs)(s:aH H H'):cZ K H' ds A vs:=
 cZ.frame s.tk ds A vs h λa q=>by
  obtain⟨⟨o,e⟩,_⟩:=cZ.cells ds A vs h a q
  rw[e];exact s a o e
def Ag(K:aA)(H H':Hp)(d:D)(v:V):Prop:=∃A,Ow K H' d A v∧∀a,A a→H a=none
def xP(K:aA)(H H':Hp)(ds:List D)(vs:List V):Prop:=∃A,cZ K H' ds A vs∧∀a,A a→H a=none
theorem Ag.rv{K:aA}{H H':Hp}{d:D}{v:V}(h:Ag K H H' d v):Rv K H' d v:=let ⟨A,o,_⟩:=h;Ow.rv d A v o
theorem xP.rv{K:aA}{H H':Hp}{ds:List D}{vs:List V}(h:xP K H H' ds vs):bG K H' ds vs:=let ⟨A,o,_⟩:=h;cZ.rv ds A vs o
theorem Ag.back{K:aA}{H0 H H':Hp}{d:D}{v:V}(h:Ag K H H' d v)(s:aH H0 H):Ag K H0 H' d v:=let ⟨A,o,f⟩:=h;⟨A,o,λa q=>s.free (f a q)⟩
theorem Ag.cY{K:aA}{H H':Hp}{d:D}{v:V}(i:d.cY=true)(h:Rv K H' d v):Ag K H H' d v:=⟨nil,rP d v i h,λ_ z=>z.elim⟩
theorem xP.cR{K:aA}{H H':Hp}{ds:List D}{vs:List V}(i:D.cR ds=true)(h:bG K H' ds vs):xP K H H' ds vs:=⟨nil,xN ds vs i h,λ_ z=>z.elim⟩
open Classical in
noncomputable def xQ(Z H H':Hp):Hp:=λa=>if H a=none then H' a else Z a
theorem nT{Z H H':Hp}{a:Addr}(h:H a=none):xQ Z H H' a=H' a:=by unfold xQ;rw[if_pos h]
theorem rQ{Z H H':Hp}{a:Addr}(h:¬H a=none):xQ Z H H' a=Z a:=by unfold xQ;rw[if_neg h]
theorem pA{K:aA}{N:Fp}{Z H H':Hp}(z:Zn K N Z H):aH Z (xQ Z H H'):=λb o e=>by
 rw[rQ (by rw[z.sm b o e];intro q;cases q)];exact e
theorem xR{K:aA}{N:Fp}{Z H H':Hp}(z:Zn K N Z H)(s:aH H H'):Zn K N (xQ Z H H') H' where
  sm:=λb o e=>by
    by_cases c:H b=none
    · rw[nT c]at e;exact e
    · rw[rQ c]at e;exact s b o (z.sm b o e)
  tk:=λa xs h=>by
    by_cases c:H a=none
    · rcases h with (h | ⟨o,h⟩) | h
      · exact .inl (.inl (by rw[nT c];exact h))
      · exact .inl (.inr ⟨o,by rw[nT c];exact h⟩)
      · exact .inr h
    · have q:lB K H a xs:=by
        rcases h with (h | ⟨o,h⟩) | h
        · cases e:H a with
          | none=>exact absurd e c
          | some o=>have:=s a o e;rw[h]at this;cases this;exact .inl (.inl e)
        · cases e:H a with
          | none=>exact absurd e c
          | some o=>have:=s a o e;rw[h]at this;cases this;exact .inl (.inr ⟨_,e⟩)
        · exact .inr h
      exact(pA z).tup (z.tk a xs q)
  no:=λa q=>⟨by rw[rQ (z.no a q).2];exact(z.no a q).1,λh=>(z.no a q).2 (s.free h)⟩
theorem Ag.zone{K:aA}{N:Fp}{Z H H':Hp}{d:D}{v:V}(h:Ag K H H' d v)(z:Zn K N Z H)(s:aH H H'):Rv K (xQ Z H H') d v:=by
 obtain⟨A,o,f⟩:=h
 exact Ow.rv d A v (Ow.frame (xR z s).tk d A v o λa q=>nT (f a q))
def Cz(K:aA)(t:TE)(f:FE):Prop:=∀{N:Fp}(σ:St)(H Z:Hp)(e:DE)(d:D)(Q:VK),Zn K N Z H→oW K Z e σ→f e=some d →
 (∀v H' Z',aH H H'→aH Z Z'→Zn K N Z' H'→Rv K Z' d v→Q v H')→t σ H Q
def Ci(K:aA)(t:TE)(f:FE):Prop:=∀(σ:St)(H:Hp)(e:DE)(d:D)(Q:VK),oW K H e σ→f e=some d →
 (∀v H',aH H H'→Ag K H H' d v→Q v H')→t σ H Q
def Ks(K:aA)(t:TT)(f:FT):Prop:=∀(σ:St)(H:Hp)(e:DE)(b:Bool)(Q:Bool→Hp→Prop),oW K H e σ→f e=some b→(∀H',aH H H'→Q b H')→t σ H Q
def Yl(K:aA)(t:TA)(f:FA):Prop:=∀{N:Fp}(σ:St)(H Z:Hp)(e:DE)(ds:List D)(Q:List V→Hp→Prop),Zn K N Z H→oW K Z e σ→f e=some ds →
 (∀vs H' Z',aH H H'→aH Z Z'→Zn K N Z' H'→bG K Z' ds vs→Q vs H')→t σ H Q
def Ym(K:aA)(t:TA)(f:FA):Prop:=∀(σ:St)(H:Hp)(e:DE)(ds:List D)(Q:List V→Hp→Prop),oW K H e σ→f e=some ds →
 (∀vs H',aH H H'→xP K H H' ds vs→Q vs H')→t σ H Q
theorem Ci.r{K:aA}{t:TE}{f:FE}(h:Ci K t f):Cz K t f:=λσ H Z e d Q z r q k=>
 h σ H e d Q (r.same z.sm) q λv H' s n=>k v H' (xQ Z H H') s (pA z) (xR z s) (n.zone z s)
def Hw(f:FE):FE:=λe=>(f e).bind λd=>if d.cY=true then some d else none
theorem vL{f:FE}{e:DE}{d:D}:Hw f e=some d↔f e=some d∧d.cY=true:=by
 unfold Hw
 cases q:f e with
 | none=>simp
 | some a=>
  simp only[C5]
  split
  ·rename_i h;constructor
   ·intro z;cases z;exact⟨rfl,h⟩
   ·rintro⟨z,_⟩;exact z
  ·rename_i h;constructor
   ·intro z;cases z
   ·rintro⟨z,z2⟩;cases z;exact absurd z2 h
theorem Cz.n{K:aA}{t:TE}{f:FE}(h:Cz K t f):Ci K t (Hw f):=λσ H e d Q r q k=>by
 obtain⟨q1,q2⟩:=vL.mp q
 exact h σ H H e d Q (Zn.self K H) r q1 λv H' Z' s1 s2 z' rv=>k v H' s1 (.cY q2 (z'.sm.rv _ _ rv))
def aG(i:Nat):FE:=λe=>(e[i]?).getD none
theorem Wm{K:aA}(i:Nat):Cz K (jA i) (aG i):=λσ H Z e d Q z r q k=>by
 have e1:e[i]?=some (some d):=by
  unfold aG at q
  cases h:e[i]? with
  | none=>rw[h]at q;cases q
  | some o=>rw[h]at q;cases q;rfl
 obtain⟨v,h1,h2⟩:=r i d e1
 exact⟨v,h1,k v H Z (aH.refl _) (aH.refl _) z h2⟩
def fC(d:D):FE:=λ_=>some d
theorem Ku{K:aA}(i:Int):Ci K (tC (.int i)) (fC (.int i)):=λσ H e d Q r q k=>by cases q;exact k _ H (aH.refl _) (.cY rfl (by unfold Rv;rfl))
theorem Zu{K:aA}(i:Bool):Ci K (tC (.bl i)) (fC (.bl i)):=λσ H e d Q r q k=>by cases q;exact k _ H (aH.refl _) (.cY rfl (by unfold Rv;rfl))
theorem Kv{K:aA}(i:Str):Ci K (tC (.str i)) (fC (.str i)):=λσ H e d Q r q k=>by cases q;exact k _ H (aH.refl _) (.cY rfl (by unfold Rv;rfl))
def f2(φ:D→D→Option D)(f g:FE):FE:=λe=>(f e).bind λa=>(g e).bind λb=>φ a b
theorem nU{φ:D→D→Option D}{f g:FE}{e:DE}{d:D}(h:f2 φ f g e=some d):∃a b,f e=some a∧g e=some b∧φ a b=some d:=by
 unfold f2 at h
 obtain⟨a,h1,h2⟩:=aP h
 obtain⟨b,h3,h4⟩:=aP h2
 exact⟨a,b,h1,h3,h4⟩
def QS(K:aA)(r:R2)(φ:D→D→Option D):Prop:=∀{N:Fp}(x y:V)(H Z:Hp)(a b d:D)(Q:VK),Zn K N Z H→Rv K Z a x→Rv K Z b y→φ a b=some d →
 (∀v H' Z',aH H H'→aH Z Z'→Zn K N Z' H'→Rv K Z' d v→Q v H')→r x y H Q
def Dc(K:aA)(r:R2)(φ:D→D→Option D):Prop:=∀(x y:V)(H:Hp)(a b d:D)(Q:VK),Rv K H a x→Rv K H b y→φ a b=some d →
 (∀v H',aH H H'→Ag K H H' d v→Q v H')→r x y H Q
theorem Zv{K:aA}{r:R2}{φ:D→D→Option D}{ta tb:TE}{f g:FE}(o:QS K r φ)(ha:Cz K ta f)(hb:Cz K tb g):Cz K (zM r ta tb) (f2 φ f g):=λσ H Z e d Q z re q k=>by
 obtain⟨a,b,h1,h2,h3⟩:=nU q
 refine ha σ H Z e a _ z re h1 λx H1 Z1 s1 t1 z1 rx=>hb σ H1 Z1 e b _ z1 (re.same t1) h2 λy H2 Z2 s2 t2 z2 ry=>?_
 exact o x y H2 Z2 a b d Q z2 (t2.rv _ _ rx) ry h3 λv H3 Z3 s3 t3 z3 rv=>k v H3 Z3 (s1.trans (s2.trans s3)) (t1.trans (t2.trans t3)) z3 rv
theorem Ff{K:aA}{r:R2}{φ:D→D→Option D}{ta tb:TE}{f g:FE}(o:Dc K r φ)(ha:Cz K ta f)(hb:Cz K tb g):Ci K (zM r ta tb) (f2 φ f g):=λσ H e d Q re q k=>by
 obtain⟨a,b,h1,h2,h3⟩:=nU q
 refine ha σ H H e a _ (Zn.self K H) re h1 λx H1 Z1 s1 t1 z1 rx=>hb σ H1 Z1 e b _ z1 (re.same t1) h2 λy H2 Z2 s2 t2 z2 ry=>?_
 exact o x y H2 a b d Q (z2.sm.rv _ _ (t2.rv _ _ rx)) (z2.sm.rv _ _ ry) h3 λv H3 s3 n=>k v H3 (s1.trans (s2.trans s3)) (n.back (s1.trans s2))
def uN(C:Int→Int→Prop) [∀i j,Decidable (C i j)] (g:Int→Int→D):D→D→Option D
 | .int i,.int j=>if C i j then some (g i j)else none
 | _,_=>none
theorem rR{C:Int→Int→Prop} [∀i j,Decidable (C i j)] {g:Int→Int→D} {a b d:D} (h:uN C g a b=some d):∃i j,a=.int i∧b=.int j∧C i j∧d=g i j:=by
 unfold uN at h
 split at h
 ·split at h
  ·rename_i i j c;cases h;exact⟨i,j,rfl,rfl,c,rfl⟩
  ·cases h
 ·cases h
theorem xT{K:aA}{C:Int→Int→Prop} [∀i j,Decidable (C i j)] {C':Int→Int→Prop} (hC:∀i j,C i j→C' i j) {g:Int→Int→Int}:Dc K (rI C' λi j=>.int (g i j)) (uN C λi j=>.int (g i j)):=λx y H a b d Q ra rb q k=>by
 obtain⟨i,j,rfl,rfl,c,rfl⟩:=rR q
 unfold Rv at ra rb
 exact⟨i,j,ra,rb,hC i j c,k _ H (aH.refl _) (.cY rfl (by unfold Rv;rfl))⟩
theorem Qi{K:aA}{g:Int→Int→Int}:Dc K (Jr λi j=>.int (g i j)) (uN (λ_ _=>True) λi j=>.int (g i j)):=λx y H a b d Q ra rb q k=>by
 obtain⟨i,j,rfl,rfl,c,rfl⟩:=rR q
 unfold Rv at ra rb
 exact⟨i,j,ra,rb,k _ H (aH.refl _) (.cY rfl (by unfold Rv;rfl))⟩
theorem nA{K:aA}{g:Int→Int→Bool}:Dc K (Jr λi j=>.bl (g i j)) (uN (λ_ _=>True) λi j=>.bl (g i j)):=λx y H a b d Q ra rb q k=>by
 obtain⟨i,j,rfl,rfl,c,rfl⟩:=rR q
 unfold Rv at ra rb
 exact⟨i,j,ra,rb,k _ H (aH.refl _) (.cY rfl (by unfold Rv;rfl))⟩
def aM:FA:=λ_=>some []
def aC(f:FE)(fs:FA):FA:=λe=>(f e).bind λa=>(fs e).bind λr=>some (a::r)
theorem qC{f:FE}{fs:FA}{e:DE}{ds:List D}(h:aC f fs e=some ds):∃a r,f e=some a∧fs e=some r∧ds=a::r:=by
 unfold aC at h
 obtain⟨a,h1,h2⟩:=aP h
 obtain⟨b,h3,h4⟩:=aP h2
 cases h4
 exact⟨a,b,h1,h3,rfl⟩
theorem Wn{K:aA}:Yl K jD aM:=λσ H Z e ds Q z re q k=>by cases q;exact k [] H Z (aH.refl _) (aH.refl _) z (by unfold bG;rfl)
theorem Qj{K:aA}{te:TE}{t:TA}{f:FE}{fs:FA}(h:Cz K te f)(hs:Yl K t fs):Yl K (dD te t) (aC f fs):=λσ H Z e ds Q z re q k=>by
 obtain⟨a,r,h1,h2,rfl⟩:=qC q
 refine h σ H Z e a _ z re h1 λx H1 Z1 s1 t1 z1 rx=>hs σ H1 Z1 e r _ z1 (re.same t1) h2 λvs H2 Z2 s2 t2 z2 rs=>?_
 exact k _ H2 Z2 (s1.trans s2) (t1.trans t2) z2 (by unfold bG;exact⟨x,vs,rfl,t2.rv _ _ rx,rs⟩)
theorem Wo{K:aA}:Ym K jD aM:=λσ H e ds Q re q k=>by cases q;exact k [] H (aH.refl _) (.cR rfl (by unfold bG;rfl))
theorem Qk{K:aA}{te:TE}{t:TA}{f:FE}{fs:FA}(h:Ci K te f)(hs:Ym K t fs):Ym K (dD te t) (aC f fs):=λσ H e ds Q re q k=>by
 obtain⟨a,r,h1,h2,rfl⟩:=qC q
 refine h σ H e a _ re h1 λx H1 s1 n1=>hs σ H1 e r _ (re.same s1) h2 λvs H2 s2 n2=>?_
 refine k _ H2 (s1.trans s2) ?_
 obtain⟨A,oA,fA⟩:=n1
 obtain⟨B,oB,fB⟩:=n2
 refine⟨dY A B,?_,λp q=>q.elim (fA p) λz=>s1.free (fB p z)⟩
 unfold cZ
 refine⟨x,vs,A,B,rfl,λp qa qb=>?_,λ_=>Iff.rfl,oA.same s2,oB⟩
 obtain⟨⟨o,e1⟩,_⟩:=Ow.cells _ _ _ oA p qa
 rw[fB p qb]at e1;cases e1
def cap(n:Nat)(d:D):Option D:=if n≤100000 then some d else none
theorem rT{n:Nat}{d d':D}(h:cap n d=some d'):n≤100000∧d'=d:=by
 unfold cap at h
 split at h
 ·rename_i c;cases h;exact⟨c,rfl⟩
 ·cases h
theorem gR{n:Nat}(h:n≤100000):n≤sizeLine:=by rw[sizeLine_eq];omega
theorem Kw{n:Nat}(h:n≤100000):n<sizeLine:=by rw[sizeLine_eq];omega
def pB(fs:FA):FE:=λe=>(fs e).bind λds=>cap ds.length (.lst ds)
def Hx(fs:FA):FE:=λe=>(fs e).bind λds=>cap ds.length (.tup ds)
theorem qX{K:aA}{H H1:Hp}{ds:List D}{xs:List V}{p:Addr}(s:aH H H1)(n:xP K H H1 ds xs)(hp:H1 p=none):Ag K H (upd H1 p (.lst xs)) (.lst ds) (.ref p):=by
 obtain⟨A,o,f⟩:=n
 refine⟨dY (·=p) A,?_,λa q=>q.elim (λz=>by cases z;exact s.free hp) (f a)⟩
 unfold Ow
 refine⟨p,xs,A,rfl,bI,λz=>?_,λ_=>Iff.rfl,o.same (bT hp _)⟩
 obtain⟨⟨u,e⟩,_⟩:=cZ.cells _ _ _ o p z
 rw[hp]at e;cases e
theorem Fg{K:aA}{H H1:Hp}{ds:List D}{xs:List V}{p:Addr}(n:xP K H H1 ds xs)(hp:H1 p=none):Ag K H (upd H1 p (.tup xs)) (.tup ds) (.ref p):=by
 obtain⟨A,o,f⟩:=n
 refine⟨A,?_,f⟩
 unfold Ow
 exact⟨p,xs,rfl,lB.of bI,o.same (bT hp _)⟩
theorem Wq{K:aA}{t:TA}{fs:FA}(h:Ym K t fs):Ci K (Jv t) (pB fs):=λσ H e d Q re q k=>by
 unfold pB at q
 obtain⟨ds,h1,h2⟩:=aP q
 obtain⟨hc,rfl⟩:=rT h2
 refine h σ H e ds _ re h1 λxs H1 s1 n=>⟨gR (by rw[n.rv.length];exact hc),λp hp=>?_⟩
 exact k _ _ (s1.trans (bT hp _)) (qX s1 n hp)
theorem Wr{K:aA}{t:TA}{fs:FA}(h:Ym K t fs):Ci K (Vt t) (Hx fs):=λσ H e d Q re q k=>by
 unfold Hx at q
 obtain⟨ds,h1,h2⟩:=aP q
 obtain⟨hc,rfl⟩:=rT h2
 refine h σ H e ds _ re h1 λxs H1 s1 n=>⟨gR (by rw[n.rv.length];exact hc),λp hp=>?_⟩
 exact k _ _ (s1.trans (bT hp _)) (Fg n hp)
theorem Ky{K:aA}{N:Fp}{Z H:Hp}{p:Addr}{o:HO}(z:Zn K N Z H)(hp:H p=none):aH Z (upd Z p o)∧Zn K N (upd Z p o) (upd H p o):=by
 have hz:Z p=none:=z.sm.free hp
 refine⟨bT hz o,⟨λb u e=>?_,λa xs h=>?_,λa q=>?_⟩⟩
 ·by_cases c:b=p
  ·subst c;rw[bI]at e;rw[bI];exact e
  ·rw[aX c]at e;rw[aX c];exact z.sm b u e
 ·by_cases c:a=p
  ·subst c
   rcases h with (h | ⟨u,h⟩) | h
   ·rw[bI]at h;exact .inl (.inl (by rw[bI];exact h))
   ·rw[bI]at h;exact .inl (.inr ⟨u,by rw[bI];exact h⟩)
   ·exact .inr h
  ·have q:lB K H a xs:=by
    rcases h with (h | ⟨u,h⟩) | h
    ·rw[aX c]at h;exact .inl (.inl h)
    ·rw[aX c]at h;exact .inl (.inr ⟨u,h⟩)
    ·exact .inr h
   exact(bT hz o).tup (z.tk a xs q)
 ·have c:a≠p:=λz'=>(z.no a q).2 (by rw[z'];exact hp)
  rw[aX c,aX c];exact z.no a q
theorem Ws{K:aA}{t:TA}{fs:FA}(h:Yl K t fs):Cz K (Jv t) (pB fs):=λσ H Z e d Q z re q k=>by
 unfold pB at q
 obtain⟨ds,h1,h2⟩:=aP q
 obtain⟨hc,rfl⟩:=rT h2
 refine h σ H Z e ds _ z re h1 λxs H1 Z1 s1 t1 z1 rs=>⟨gR (by rw[rs.length];exact hc),λp hp=>?_⟩
 obtain⟨a1,a2⟩:=Ky (o:=.lst xs) z1 hp
 exact k _ _ _ (s1.trans (bT hp _)) (t1.trans a1) a2 (by unfold Rv;exact⟨p,xs,rfl,iH.of bI,a1.Je _ _ rs⟩)
end L2


namespace L2
open PySem PySem.Spec PyProof.Rows
structure XR(K:aA)(X:Cx)(e:Expr)(t:TE)(f:FE):Prop where
 hk:X.K=K
 pe:PE X e t
 ev:Cz K t f
structure XN(K:aA)(X:Cx)(e:Expr)(t:TE)(f:FE):Prop where
 hk:X.K=K
 pe:PE X e t
 ev:Ci K t f
structure XT(K:aA)(X:Cx)(e:Expr)(t:TT)(f:FT):Prop where
 hk:X.K=K
 pt:PT X e t
 ev:Ks K t f
structure XW(K:aA)(X:Cx)(e:Expr)(t:TT)(f:FT):Prop where
 hk:X.K=K
 pw:PW X e t
 ev:Ks K t f
structure XA(K:aA)(X:Cx)(es:List Expr)(t:TA)(f:FA):Prop where
 hk:X.K=K
 pa:PA X es t
 ev:Yl K t f
structure XB(K:aA)(X:Cx)(es:List Expr)(t:TA)(f:FA):Prop where
 hk:X.K=K
 pa:PA X es t
 ev:Ym K t f
section
variable{K:aA}{X:Cx}{e a b c:Expr}{es:List Expr}{t ta tb:TE}{f g:FE}{tA:TA}{fs:FA}{pos:Pos}
theorem XN.r(h:XN K X e t f):XR K X e t f:=⟨h.hk,h.pe,h.ev.r⟩
theorem XR.n(h:XR K X e t f):XN K X e t (Hw f):=⟨h.hk,h.pe,Cz.n h.ev⟩
theorem aJ{i:Nat}(h:PE X e (jA i))(hk:X.K=K:=by rfl):XR K X e (jA i) (aG i):=⟨hk,h,Wm i⟩
theorem aO{i:Int}{j:Nat}(hk:X.K=K:=by rfl):XN K X (.Constant (.int i) j pos) (tC (.int i)) (fC (.int i)):=⟨hk,Ux,Ku i⟩
theorem kE{i:Bool}{j:Nat}(hk:X.K=K:=by rfl):XN K X (.Constant (.bool i) j pos) (tC (.bl i)) (fC (.bl i)):=⟨hk,Ys,Zu i⟩
theorem Dd{x:Str}{j:Nat}(hk:X.K=K:=by rfl):XN K X (.Constant (.str x) j pos) (tC (.str x)) (fC (.str x)):=⟨hk,Uy,Kv x⟩
theorem vM{op:Operator}{r:R2}{φ:D→D→Option D}(ho:jC X (binaryOp op) r)(hd:Dc K r φ)(ha:XR K X a ta f)(hb:XR K X b tb g):XN K X (.BinOp a op b pos) (zM r ta tb) (f2 φ f g):=⟨ha.hk,Za ho ha.pe hb.pe,Ff hd ha.ev hb.ev⟩
def De:D→D→Option D:=uN (λ_ _=>True) λi j=>.int (i-j)
instance (i j:Int):Decidable (uH i j):=by unfold uH;exact inferInstance
instance (i j:Int):Decidable (Hg i j):=by unfold Hg;exact inferInstance
instance (i j:Int):Decidable (Hh i j):=by unfold Hh;exact inferInstance
def rW:D→D→Option D:=uN uH λi j=>.int (i*j)
def uO:D→D→Option D:=uN Hg λi j=>.int (i/j)
def gO:D→D→Option D:=uN (λ_ j=>0<j) λi j=>.int (i%j)
def Ah:D→D→Option D:=uN Hh λi j=>.int (i ^ j.toNat)
theorem Kz(ha:XR K X a ta f)(hb:XR K X b tb g):XN K X (.BinOp a .Sub b pos) (zM (Jr λi j=>.int (i-j)) ta tb) (f2 De f g):=vM Vm Qi ha hb
theorem lH(ha:XR K X a ta f)(hb:XR K X b tb g):XN K X (.BinOp a .Mult b pos) (zM (rI uH λi j=>.int (i*j)) ta tb) (f2 rW f g):=vM Vn (xT λ_ _ h=>h) ha hb
theorem xU(ha:XR K X a ta f)(hb:XR K X b tb g):XN K X (.BinOp a .FloorDiv b pos) (zM (rI Hg λi j=>.int (i/j)) ta tb) (f2 uO f g):=vM Ov (xT λ_ _ h=>h) ha hb
theorem dZ(ha:XR K X a ta f)(hb:XR K X b tb g):XN K X (.BinOp a .Mod b pos) (zM (rI (λ_ j=>0<j) λi j=>.int (i%j)) ta tb) (f2 gO f g):=vM Vo (xT λ_ _ h=>h) ha hb
theorem xV(ha:XR K X a ta f)(hb:XR K X b tb g):XN K X (.BinOp a .Pow b pos) (zM (rI Hh λi j=>.int (i ^ j.toNat)) ta tb) (f2 Ah f g):=vM Vp (xT λ_ _ h=>h) ha hb
theorem rY{op:CmpOp}{r:R2}{φ:D→D→Option D}(ho:jC X (compareOp op) r)(hd:Dc K r φ)(ha:XR K X a ta f)(hb:XR K X b tb g)(hm:behindInMarks op b=false):XN K X (.Compare a [op] [b] pos) (zM r ta tb) (f2 φ f g):=⟨ha.hk,Ox ho ha.pe hb.pe hm,Ff hd ha.ev hb.ev⟩
def fB(f:FE):FT:=λe=>(f e).bind λd=>match d with | .bl b=>some b | _=>none
theorem nW{f:FE}{e:DE}{b:Bool}(h:fB f e=some b):f e=some (.bl b):=by
 unfold fB at h
 obtain⟨d,h1,h2⟩:=aP h
 split at h2
 ·cases h2;exact h1
 ·cases h2
theorem Ql(h:Cz K t f):Ks K (zV t) (fB f):=λσ H e b Q re q k=>h σ H H e _ _ (Zn.self K H) re (nW q) λv H' Z' s1 s2 z rv=>by
 unfold Rv at rv
 exact⟨b,rv,k H' s1⟩
theorem Zw(h:Cz K t f):Ks K (tB t) (fB f):=λσ H e b Q re q k=>h σ H H e _ _ (Zn.self K H) re (nW q) λv H' Z' s1 s2 z rv=>by
 unfold Rv at rv
 exact⟨b,rv,k H' s1⟩
theorem iI{op:CmpOp}{r:R2}{φ:D→D→Option D}(ho:jC X (compareOp op) r)(hd:Dc K r φ)(ha:XR K X a ta f)(hb:XR K X b tb g)(hm:behindInMarks op b=false):XT K X (.Compare a [op] [b] pos) (zV (zM r ta tb)) (fB (f2 φ f g)):=⟨ha.hk,Oz ho ha.pe hb.pe hm,Ql (Ff hd ha.ev hb.ev).r⟩
theorem dB(h:XR K X e t f)(he:∀whole,isTrue e X.env whole=(do let v ←whole;standAt e.pos;holding [v] (truthy v)):=by intro _;rfl):XT K X e (tB t) (fB f):=⟨h.hk,Uz h.pe he,Zw h.ev⟩
def TF:D→D→Option D:=uN (λ_ _=>True) λi j=>.bl (decide (i<j))
def Fi:D→D→Option D:=uN (λ_ _=>True) λi j=>.bl (decide (i≤j))
def JC:D→D→Option D:=uN (λ_ _=>True) λi j=>.bl (decide (j<i))
def TJ:D→D→Option D:=uN (λ_ _=>True) λi j=>.bl (decide (j≤i))
def toV:D→Option V
  | .non=>some .non | .bl b=>some (.bl b) | .int i=>some (.int i) | .str x=>some (.str x)
  | _=>none
theorem xW{H:Hp}{d:D}{v x:V}(h:toV d=some v)(r:Rv K H d x):x=v:=by
 cases d<;>unfold toV at h<;>first | (cases h;unfold Rv at r;exact r) | cases h
mutual
def cO:D→Option DV
 | .int i=>some (.int i)
 | .non=>some .non
 | .lst ds=>(gU ds).map DV.lst
 | .tup ds=>(gU ds).map DV.tup
 | _=>none
def gU:List D→Option (List DV)
 | []=>some []
 | d::ds=>(cO d).bind λx=>(gU ds).bind λxs=>some (x::xs)
end
mutual
theorem jG{H:Hp}:∀(d:D)(x:DV)(v:V),cO d=some x→Rv K H d v→Reads K H x v
 | .int i,x,v,h,r=>by unfold cO at h;cases h;unfold Rv at r;unfold Reads;exact r
 | .lst ds,x,v,h,r=>by
  unfold cO at h
  obtain⟨xs,h1,rfl⟩:=iG h
  unfold Rv at r;unfold Reads
  obtain⟨a,vs,r1,r2,r3⟩:=r
  exact⟨a,vs,r1,r2,rZ ds xs vs h1 r3⟩
 | .tup ds,x,v,h,r=>by
  unfold cO at h
  obtain⟨xs,h1,rfl⟩:=iG h
  unfold Rv at r;unfold Reads
  obtain⟨a,vs,r1,r2,r3⟩:=r
  exact⟨a,vs,r1,r2,rZ ds xs vs h1 r3⟩
 | .non,x,v,h,r=>by unfold cO at h;cases h;unfold Rv at r;unfold Reads;exact r
 | .bl _,x,v,h,r=>by unfold cO at h;cases h
 | .str _,x,v,h,r=>by unfold cO at h;cases h
 | .dk _ _,x,v,h,r=>by unfold cO at h;cases h
 | .dt _ _,x,v,h,r=>by unfold cO at h;cases h
 | .ins _ _ _,x,v,h,r=>by unfold cO at h;cases h
theorem rZ{H:Hp}:∀(ds:List D)(xs:List DV)(vs:List V),gU ds=some xs→bG K H ds vs→bB K H xs vs
 | [],xs,vs,h,r=>by unfold gU at h;cases h;unfold bG at r;unfold bB;exact r
 | d::ds,xs,vs,h,r=>by
  unfold gU at h
  obtain⟨x,h1,h2⟩:=aP h
  obtain⟨xt,h3,h4⟩:=aP h2
  cases h4
  unfold bG at r;unfold bB
  obtain⟨y,ys,r1,r2,r3⟩:=r
  exact⟨y,ys,r1,jG d x y h1 r2,rZ ds xt ys h3 r3⟩
end
mutual
theorem La:∀(d e:D)(x:DV),cO d=some x→cO e=some x→d=e
 | .int i,e,x,h,h'=>by
  unfold cO at h;cases h
  cases e<;>unfold cO at h'<;>first | (cases h';rfl) | cases h' | (obtain⟨xs,q1,q2⟩:=iG h';cases q2)
 | .lst ds,e,x,h,h'=>by
  unfold cO at h
  obtain⟨xs,h1,rfl⟩:=iG h
  cases e with
  | lst es=>unfold cO at h';obtain⟨ys,q1,q2⟩:=iG h';cases q2;rw[pC ds es xs h1 q1]
  | tup es=>unfold cO at h';obtain⟨ys,q1,q2⟩:=iG h';cases q2
  | _=>unfold cO at h';cases h'
 | .tup ds,e,x,h,h'=>by
  unfold cO at h
  obtain⟨xs,h1,rfl⟩:=iG h
  cases e with
  | tup es=>unfold cO at h';obtain⟨ys,q1,q2⟩:=iG h';cases q2;rw[pC ds es xs h1 q1]
  | lst es=>unfold cO at h';obtain⟨ys,q1,q2⟩:=iG h';cases q2
  | _=>unfold cO at h';cases h'
 | .non,e,x,h,h'=>by
  unfold cO at h;cases h
  cases e<;>unfold cO at h'<;>first | (cases h';rfl) | cases h' | (obtain⟨xs,q1,q2⟩:=iG h';cases q2)
 | .bl _,e,x,h,h'=>by unfold cO at h;cases h
 | .str _,e,x,h,h'=>by unfold cO at h;cases h
 | .dk _ _,e,x,h,h'=>by unfold cO at h;cases h
 | .dt _ _,e,x,h,h'=>by unfold cO at h;cases h
 | .ins _ _ _,e,x,h,h'=>by unfold cO at h;cases h
theorem pC:∀(ds es:List D)(xs:List DV),gU ds=some xs→gU es=some xs→ds=es
 | [],[],xs,h,h'=>rfl
 | [],e::es,xs,h,h'=>by
  unfold gU at h h'
  cases h
  obtain⟨x,h1,h2⟩:=aP h'
  obtain⟨xt,h3,h4⟩:=aP h2
  cases h4
 | d::ds,[],xs,h,h'=>by
  unfold gU at h h'
  cases h'
  obtain⟨x,h1,h2⟩:=aP h
  obtain⟨xt,h3,h4⟩:=aP h2
  cases h4
 | d::ds,e::es,xs,h,h'=>by
  unfold gU at h h'
  obtain⟨x,h1,h2⟩:=aP h
  obtain⟨xt,h3,h4⟩:=aP h2
  cases h4
  obtain⟨y,k1,k2⟩:=aP h'
  obtain⟨yt,k3,k4⟩:=aP k2
  cases k4
  rw[La d e x h1 k1,pC ds es xt h3 k3]
end
noncomputable def vN(a b:D):Option D:=match toV a,toV b with
 | some x,some y=>if zU x y=true then some (.bl (decide (x=y)))else none
 | _,_=>match cO a,cO b with
  | some x,some y=>if x.depth≤32 then some (.bl (lE x y))else none
  | _,_=>none
theorem sE:Dc K (λx y H Q=>HX x y H Q∨Wg K false x y H Q) vN:=λx y H a b d Q ra rb q k=>by
 unfold vN at q
 split at q
 ·rename_i u v h1 h2
  split at q
  ·rename_i hs
   cases q
   rw[xW h1 ra,xW h2 rb]
   exact .inl ⟨hs,k _ H (aH.refl _) (.cY rfl (by unfold Rv;rfl))⟩
  ·cases q
 ·split at q
  ·rename_i u v h1 h2
   split at q
   ·rename_i hs
    cases q
    exact .inr ⟨u,v,jG a u x h1 ra,jG b v y h2 rb,hs,k _ H (aH.refl _) (.cY rfl (by unfold Rv;rfl))⟩
   ·cases q
  ·cases q
noncomputable def Hy(a b:D):Option D:=match toV a,toV b with
 | some x,some y=>if zU x y=true then some (.bl (!decide (x=y)))else none
 | _,_=>match cO a,cO b with
  | some (.lst x),some (.lst y)=>if bK x≤32 then some (.bl (!lE (.lst x) (.lst y)))else none
  | some (.tup x),some (.tup y)=>if bK x≤32 then some (.bl (!lE (.tup x) (.tup y)))else none
  | _,_=>none
def Zx(K:aA):R2:=λx y H Q=>MN x y H Q∨(∃ds es,Reads K H (.lst ds) x∧Reads K H (.lst es) y∧bK ds≤32∧Q (.bl (!lE (.lst ds) (.lst es))) H)∨(∃ds es,Reads K H (.tup ds) x∧Reads K H (.tup es) y∧bK ds≤32∧Q (.bl (!lE (.tup ds) (.tup es))) H)
theorem vO:Dc K (Zx K) Hy:=λx y H a b d Q ra rb q k=>by
 unfold Hy at q
 split at q
 ·rename_i u v h1 h2
  split at q
  ·rename_i hs
   cases q
   rw[xW h1 ra,xW h2 rb]
   exact .inl ⟨hs,k _ H (aH.refl _) (.cY rfl (by unfold Rv;rfl))⟩
  ·cases q
 ·split at q
  ·rename_i u v h1 h2
   split at q
   ·rename_i hs
    cases q
    exact .inr (.inl ⟨u,v,jG a _ x h1 ra,jG b _ y h2 rb,hs,k _ H (aH.refl _) (.cY rfl (by unfold Rv;rfl))⟩)
   ·cases q
  ·rename_i u v h1 h2
   split at q
   ·rename_i hs
    cases q
    exact .inr (.inr ⟨u,v,jG a _ x h1 ra,jG b _ y h2 rb,hs,k _ H (aH.refl _) (.cY rfl (by unfold Rv;rfl))⟩)
   ·cases q
  ·cases q
theorem or_eq(hu:X.A.units+64<cLine)(hk:X.K=K):jC X (compareOp .Eq) (λx y H Q=>HX x y H Q∨Wg K false x y H Q):=by subst hk;exact Ze.or (Wh hu)
theorem vP(hu:X.A.units+64<cLine)(hk:X.K=K):jC X (compareOp .NotEq) (Zx K):=by subst hk;exact Zf.or ((Wi hu).or (Wl hu))
def lJ:D→Option (List D)
 | .lst ds=>some ds
 | .tup ds=>some ds
 | _=>none
theorem xX{H:Hp}{d:D}{ds:List D}{v:V}(h:lJ d=some ds)(r:Rv K H d v):∃p xs,v=.ref p∧(iH K H p xs∨lB K H p xs)∧bG K H ds xs:=by
 cases d with
 | lst es=>unfold lJ at h;cases h;unfold Rv at r;obtain⟨p,xs,r1,r2,r3⟩:=r;exact⟨p,xs,r1,.inl r2,r3⟩
 | tup es=>unfold lJ at h;cases h;unfold Rv at r;obtain⟨p,xs,r1,r2,r3⟩:=r;exact⟨p,xs,r1,.inr r2,r3⟩
 | _=>unfold lJ at h;cases h
end
section
variable{κ:Type} [DecidableEq κ] {K:aA} {H:Hp}
def posK:List κ→κ→Option Nat
 | [],_=>none
 | a::ks,k=>if a=k then some 0 else(posK ks k).map (·+1)
theorem Ai:∀{ks:List κ} {xs:List V} {k:κ},ks.length=xs.length→Hr (ks.zip xs) k=(posK ks k).bind λj=>xs[j]?
 | [],xs,k,h=>by unfold posK;rfl
 | a::ks,[],k,h=>by simp at h
 | a::ks,x::xs,k,h=>by
  have ih:=Ai (ks:=ks) (xs:=xs) (k:=k) (by simpa using h)
  unfold posK
  rw[P4]
  unfold Hr at ih ⊢
  rw[List.find?_cons]
  by_cases c:a=k
  ·rw[if_pos c,decide_eq_true c];rfl
  ·rw[if_neg c,decide_eq_false c]
   show Option.map _ (List.find? _ (ks.zip xs))=_
   rw[ih]
   cases posK ks k<;>rfl
end
section
variable{K:aA}{X:Cx}{e a b c:Expr}{es:List Expr}{t ta tb:TE}{f g:FE}{pos:Pos}
def sG(a i:D):Option D:=match i with
 | .int i=>(lJ a).bind λds=>Aa ds i
 | _=>none
theorem Tw{H:Hp}{ds:List D}{xs:List V}{i:Int}{d:D}(r:bG K H ds xs)(h:Aa ds i=some d):∃v,Aa xs i=some v∧Rv K H d v:=by
 unfold Aa at h ⊢
 obtain⟨j,h1,h2⟩:=aP h
 rw[r.length,h1]
 exact r.get h2
theorem Tz(hk:X.K=K):Og X (GC K):=by subst hk;exact Wb
theorem iJ(ha:XR K X a ta f)(hb:XR K X b tb g)(hs:qW b):XR K X (.Subscript a b pos) (zM (GC K) ta tb) (f2 sG f g):=
 ⟨ha.hk,Jy (Tz ha.hk) ha.pe hb.pe hs,Zv (λx y H Z da db d Q z ra rb q k=>by
  unfold sG at q
  split at q
  ·rename_i i
   obtain⟨ds,h1,h2⟩:=aP q
   unfold Rv at rb
   cases da with
   | lst es=>
    unfold lJ at h1;cases h1
    unfold Rv at ra
    obtain⟨p,xs,r1,r2,r3⟩:=ra
    obtain⟨v,e1,e2⟩:=Tw r3 h2
    exact .inl ⟨p,xs,i,v,r1,rb,z.sm.seq r2,e1,k v H Z (aH.refl _) (aH.refl _) z e2⟩
   | tup es=>
    unfold lJ at h1;cases h1
    unfold Rv at ra
    obtain⟨p,xs,r1,r2,r3⟩:=ra
    obtain⟨v,e1,e2⟩:=Tw r3 h2
    exact .inr (.inl ⟨p,xs,i,v,r1,rb,z.sm.tup r2,e1,k v H Z (aH.refl _) (aH.refl _) z e2⟩)
   | _=>unfold lJ at h1;cases h1
  ·cases q) ha.ev hb.ev⟩
end
end L2


namespace L2
open PySem PySem.Spec PyProof.Rows
section
variable{K:aA}{X:Cx}{e a b c:Expr}{es rest:List Expr}{t ta tb:TE}{f g:FE}{tA:TA}{fs:FA}{pos:Pos}{tc:TT}{fc fd:FT}{td:TT}
theorem aL(hk:X.K=K:=by rfl):XA K X [] jD aM:=⟨hk,cB,Wn⟩
theorem aD(h:XR K X e t f)(hs:XA K X es tA fs)(hst:starEach (e::es) X.env=(false,eval e X.env)::starEach es X.env:=by rfl):XA K X (e::es) (dD t tA) (aC f fs):=⟨h.hk,bD h.pe hs.pa hst,Qj h.ev hs.ev⟩
theorem sH(hk:X.K=K:=by rfl):XB K X [] jD aM:=⟨hk,cB,Wo⟩
theorem Qm(h:XN K X e t f)(hs:XB K X es tA fs)(hst:starEach (e::es) X.env=(false,eval e X.env)::starEach es X.env:=by rfl):XB K X (e::es) (dD t tA) (aC f fs):=⟨h.hk,bD h.pe hs.pa hst,Qk h.ev hs.ev⟩
theorem xY(h:XB K X es tA fs):XN K X (.List es pos) (Jv tA) (pB fs):=⟨h.hk,Jw h.pa,Wq h.ev⟩
theorem Wt(h:XA K X es tA fs):XR K X (.List es pos) (Jv tA) (pB fs):=⟨h.hk,Jw h.pa,Ws h.ev⟩
theorem Wu{x1:Nat}(h:XB K X es tA fs):XN K X (.Tuple es x1 pos) (Vt tA) (Hx fs):=⟨h.hk,Vu h.pa,Wr h.ev⟩
def QT(f g:FT):FT:=λe=>(f e).bind λc=>if c=true then g e else some false
def Fj(f g:FT):FT:=λe=>(f e).bind λc=>if c=true then some true else g e
def fY(f:FT):FT:=λe=>(f e).map λc=>!c
theorem Zy(h1:Ks K tc fc)(h2:Ks K td fd):Ks K (HJ tc td) (Fj fc fd):=λσ H e b Q re q k=>by
 unfold Fj at q
 obtain⟨c,q1,q2⟩:=aP q
 refine h1 σ H e c _ re q1 λH1 s1=>?_
 cases c with
 | false=>rw[if_neg (by decide)]at q2 ⊢;exact h2 σ H1 e b Q (re.same s1) q2 λH2 s2=>k H2 (s1.trans s2)
 | true=>rw[if_pos rfl]at q2 ⊢;cases q2;exact k H1 s1
theorem Wv(h1:Ks K tc fc):Ks K (Va tc) (fY fc):=λσ H e b Q re q k=>by
 unfold fY at q
 obtain⟨c,q1,rfl⟩:=iG q
 exact h1 σ H e c _ re q1 k
theorem XW.xt(h:XW K X e tc fc):XT K X e tc fc:=⟨h.hk,h.pw.pt,h.ev⟩
theorem pD(h:XT K X a tc fc):XW K X (.BoolOp .Or [a] pos) tc fc:=⟨h.hk,Vb h.pt,h.ev⟩
theorem sI(h:XT K X a tc fc)(h2:XW K X (.BoolOp .Or (b::rest) pos) td fd):XW K X (.BoolOp .Or (a::b::rest) pos) (HJ tc td) (Fj fc fd):=⟨h.hk,Yt h.pt h2.pw,Zy h.ev h2.ev⟩
theorem cT(h:XT K X a tc fc):XT K X (.UnaryOp .Not a pos) (Va tc) (fY fc):=⟨h.hk,Vc h.pt,Wv h.ev⟩
def qD(f g:FE):FE:=λe=>(fB f e).bind λc=>if c=true then g e else some (.bl false)
def Hz(f g:FE):FE:=λe=>(fB f e).bind λc=>if c=true then some (.bl true)else g e
def Aj(f:FE):FE:=λe=>(fB f e).map λc=>.bl (!c)
theorem xZ{op:BoolOp}(h:XN K X a t f):XN K X (.BoolOp op [a] pos) t f:=⟨h.hk,Vd h.pe,h.ev⟩
theorem Lb(h:XR K X a ta f)(h2:XN K X (.BoolOp .And (b::rest) pos) tb g):XN K X (.BoolOp .And (a::b::rest) pos) (Ti ta tb) (qD f g):=⟨h.hk,Ve h.pe h2.pe,λσ H e d Q re q k=>by
 unfold qD at q
 obtain⟨c,q1,q2⟩:=aP q
 refine h.ev σ H H e _ _ (Zn.self K H) re (nW q1) λv H1 Z1 s1 t1 z1 rv=>?_
 unfold Rv at rv
 refine⟨c,rv,?_⟩
 cases c with
 | true=>rw[if_pos rfl]at q2 ⊢;exact h2.ev σ H1 e d Q (re.same s1) q2 λv H2 s2 n=>k v H2 (s1.trans s2) (n.back s1)
 | false=>rw[if_neg (by decide)]at q2 ⊢;cases q2;exact k _ H1 s1 (.cY rfl (by unfold Rv;rfl))⟩
theorem Zz(h:XR K X a ta f)(h2:XN K X (.BoolOp .Or (b::rest) pos) tb g):XN K X (.BoolOp .Or (a::b::rest) pos) (Yu ta tb) (Hz f g):=⟨h.hk,Yv h.pe h2.pe,λσ H e d Q re q k=>by
 unfold Hz at q
 obtain⟨c,q1,q2⟩:=aP q
 refine h.ev σ H H e _ _ (Zn.self K H) re (nW q1) λv H1 Z1 s1 t1 z1 rv=>?_
 unfold Rv at rv
 refine⟨c,rv,?_⟩
 cases c with
 | false=>rw[if_neg (by decide)]at q2 ⊢;exact h2.ev σ H1 e d Q (re.same s1) q2 λv H2 s2 n=>k v H2 (s1.trans s2) (n.back s1)
 | true=>rw[if_pos rfl]at q2 ⊢;cases q2;exact k _ H1 s1 (.cY rfl (by unfold Rv;rfl))⟩
theorem Ww(h:XR K X a ta f):XN K X (.UnaryOp .Not a pos) (Tj ta) (Aj f):=⟨h.hk,Vf h.pe,λσ H e d Q re q k=>by
 unfold Aj at q
 obtain⟨c,q1,rfl⟩:=iG q
 refine h.ev σ H H e _ _ (Zn.self K H) re (nW q1) λv H1 Z1 s1 t1 z1 rv=>?_
 unfold Rv at rv
 exact⟨c,rv,k _ H1 s1 (.cY rfl (by unfold Rv;rfl))⟩⟩
def Ua(c:FT)(f g:FE):FE:=λe=>(c e).bind λb=>if b=true then f e else g e
theorem Ub(hc:XT K X c tc fc)(ha:XN K X a ta f)(hb:XN K X b tb g):XN K X (.IfExp c a b pos) (MK tc ta tb) (Ua fc f g):=⟨ha.hk,Jh hc.pt ha.pe hb.pe,λσ H e d Q re q k=>by
 unfold Ua at q
 obtain⟨c,q1,q2⟩:=aP q
 refine hc.ev σ H e c _ re q1 λH1 s1=>?_
 cases c with
 | true=>rw[if_pos rfl]at q2 ⊢;exact ha.ev σ H1 e d Q (re.same s1) q2 λv H2 s2 n=>k v H2 (s1.trans s2) (n.back s1)
 | false=>rw[if_neg (by decide)]at q2 ⊢;exact hb.ev σ H1 e d Q (re.same s1) q2 λv H2 s2 n=>k v H2 (s1.trans s2) (n.back s1)⟩
theorem Wx(ha:XR K X a ta f):XN K X (.UnaryOp .USub a pos) (HW (rU λi=>.int (-i)) ta) (λe=>(f e).bind λd=>match d with | .int i=>some (.int (-i)) | _=>none):=⟨ha.hk,Zb Vq ha.pe,λσ H e d Q re q k=>by
 obtain⟨c,q1,q2⟩:=aP q
 split at q2
 ·rename_i i
  cases q2
  refine ha.ev σ H H e _ _ (Zn.self K H) re q1 λv H1 Z1 s1 t1 z1 rv=>?_
  unfold Rv at rv
  exact⟨i,rv,k _ H1 s1 (.cY rfl (by unfold Rv;rfl))⟩
 ·cases q2⟩
def fL(φ:List D→Option D)(fs:FA):FE:=λe=>(fs e).bind φ
def mU(K:aA)(r:List V→Hp→VK→Prop)(φ:List D→Option D):Prop:=∀(vs:List V)(H:Hp)(ds:List D)(d:D)(Q:VK),bG K H ds vs→φ ds=some d →
 (∀v H',aH H H'→Ag K H H' d v→Q v H')→r vs H Q
theorem Uc{r:List V→Hp→VK→Prop}{φ:List D→Option D}(o:mU K r φ)(h:Yl K tA fs):Ci K (Vx r tA) (fL φ fs):=λσ H e d Q re q k=>by
 obtain⟨ds,q1,q2⟩:=aP q
 exact h σ H H e ds _ (Zn.self K H) re q1 λvs H1 Z1 s1 t1 z1 rs=>o vs H1 ds d Q (z1.sm.Je _ _ rs) q2 λv H2 s2 n=>k v H2 (s1.trans s2) (n.back s1)
theorem cU{r:List V→Hp→VK→Prop}{φ:List D→Option D}{x:Str}{id:String}{p:Pos}(o:mU K r φ)(hc:eO X (.builtin id) r)(hg:Gl X x)(hm:X.mg x=none)(hv:bootBuiltins x=some (.builtin id))(ha:XA K X (e::es) tA fs)(hn:x ≠ "__name__" := by decide) (hdb:(x==("__debug__" : Str))=false:=by decide)
  (he:starEach (e::es) X.env=(false,eval e X.env)::starEach es X.env:=by rfl) (hpl:(backTo pos (starEach es X.env)).any (·.1)=false:=by rfl):XN K X (.Call (.Name x p) (e::es) [] pos) (Vx r tA) (fL φ fs):=⟨ha.hk,rH hc hg hm hv ha.pa hn hdb he hpl,Uc o ha.ev⟩
theorem vQ{r:List V→Hp→VK→Prop}{φ:List D→Option D}{x:Str}{id:String}{p:Pos}(o:mU K r φ)(hc:eO X (.type id) r)(hg:Gl X x)(hm:X.mg x=none)(hv:bootBuiltins x=some (.type id))(ha:XA K X (e::es) tA fs)(hn:x ≠ "__name__" := by decide) (hdb:(x==("__debug__" : Str))=false:=by decide)
  (he:starEach (e::es) X.env=(false,eval e X.env)::starEach es X.env:=by rfl) (hpl:(backTo pos (starEach es X.env)).any (·.1)=false:=by rfl):XN K X (.Call (.Name x p) (e::es) [] pos) (Vx r tA) (fL φ fs):=⟨ha.hk,Ho hc hg hm hv ha.pa hn hdb he hpl,Uc o ha.ev⟩
theorem jH{H:Hp}{d:D}{vs:List V}(h:bG K H [d] vs):∃v,vs=[v]∧Rv K H d v:=by
 unfold bG at h
 obtain⟨y,ys,rfl,h1,h2⟩:=h
 unfold bG at h2
 subst h2
 exact⟨y,rfl,h1⟩
def eE:List D→Option D
 | [d]=>(lJ d).map λds=>.int ds.length
 | _=>none
def BJ(K:aA):List V→Hp→VK→Prop:=λxs H Q=>∃p ys,xs=[.ref p]∧(iH K H p ys∨lB K H p ys)∧Q (.int ys.length) H
theorem cD:mU K (BJ K) eE:=λvs H ds d Q rs q k=>by
 unfold eE at q
 split at q
 ·rename_i d0
  obtain⟨es,q1,rfl⟩:=iG q
  obtain⟨v,rfl,r⟩:=jH rs
  obtain⟨p,xs,rfl,r2,r3⟩:=xX q1 r
  refine⟨p,xs,rfl,r2,k _ H (aH.refl _) (.cY rfl ?_)⟩
  rw[r3.length];unfold Rv;rfl
 ·cases q
theorem cF(hk:X.K=K):eO X (.builtin "len") (BJ K):=by subst hk;exact wZ
def dList:List D→Option D
 | [d]=>(lJ d).bind λds=>if D.cR ds=true then some (.lst ds)else none
 | _=>none
def Ud(K:aA):List V→Hp→VK→Prop:=λxs H Q=>∃p ys,xs=[.ref p]∧(iH K H p ys∨lB K H p ys)∧∀l,H l=none→Q (.ref l) (upd H l (.lst ys))
theorem Qn:mU K (Ud K) dList:=λvs H ds d Q rs q k=>by
 unfold dList at q
 split at q
 ·rename_i d0
  obtain⟨es,q1,q2⟩:=aP q
  split at q2
  ·rename_i hi
   cases q2
   obtain⟨v,rfl,r⟩:=jH rs
   obtain⟨p,xs,rfl,r2,r3⟩:=xX q1 r
   exact⟨p,xs,rfl,r2,λl hl=>k _ _ (bT hl _) (qX (aH.refl _) (.cR hi r3) hl)⟩
  ·cases q2
 ·cases q
theorem Qo(hk:X.K=K):eO X (.type "list") (Ud K):=by subst hk;exact xG
def pF:List D→Option D
 | [d]=>(lJ d).bind λds=>if D.cR ds=true then some (.tup ds)else none
 | _=>none
def Ld(K:aA):List V→Hp→VK→Prop:=λxs H Q=>∃p ys,xs=[.ref p]∧((iH K H p ys∧∀l,H l=none→Q (.ref l) (upd H l (.tup ys)))∨(lB K H p ys∧Q (.ref p) H))
theorem Ak:mU K (Ld K) pF:=λvs H ds d Q rs q k=>by
 unfold pF at q
 split at q
 ·rename_i d0
  obtain⟨es,q1,q2⟩:=aP q
  split at q2
  ·rename_i hi
   cases q2
   obtain⟨v,rfl,r⟩:=jH rs
   obtain⟨p,xs,rfl,r2,r3⟩:=xX q1 r
   refine⟨p,xs,rfl,?_⟩
   rcases r2 with r2 | r2
   ·exact .inl ⟨r2,λl hl=>k _ _ (bT hl _) (Fg (.cR hi r3) hl)⟩
   ·exact .inr ⟨r2,k _ H (aH.refl _) (.cY (by unfold D.cY;exact hi) (by unfold Rv;exact⟨p,xs,rfl,r2,r3⟩))⟩
  ·cases q2
 ·cases q
theorem Al(hk:X.K=K):eO X (.type "tuple") (Ld K):=by subst hk;exact uJ
theorem nY{H:Hp}:∀{ns:List Int} {xs:List V},bG K H (ns.map D.int) xs↔xs=ns.map V.int
 | [],xs=>by rw[G1,G1];unfold bG;rfl
 | n::ns,xs=>by
  rw[C9,C9]
  unfold bG
  constructor
  ·rintro⟨y,ys,rfl,h1,h2⟩
   unfold Rv at h1
   rw[h1,nY.mp h2]
  ·rintro rfl
   exact⟨_,_,rfl,by unfold Rv;rfl,nY.mpr rfl⟩
theorem jJ:∀ns:List Int,D.cR (ns.map D.int)=true
 | []=>by rw[G1];unfold D.cR;rfl
 | n::ns=>by rw[C9];unfold D.cR D.cY;rw[jJ ns];rfl
def mV:List D→Option (List Bool)
 | []=>some []
 | .bl i::ds=>(mV ds).map (i::·)
 | _=>none
theorem Am{H:Hp}:∀{ds:List D} {bs:List Bool} {xs:List V},mV ds=some bs→bG K H ds xs→xs=bs.map V.bl
 | [],bs,xs,h,r=>by unfold mV at h;cases h;unfold bG at r;exact r
 | d::ds,bs,xs,h,r=>by
  cases d with
  | bl i=>
   unfold mV at h
   obtain⟨cs,h1,rfl⟩:=iG h
   unfold bG at r
   obtain⟨y,ys,rfl,r1,r2⟩:=r
   unfold Rv at r1
   rw[r1,Am h1 r2]
   rfl
  | _=>unfold mV at h;cases h
theorem vR{α:Type}(p:α→Bool):∀l:List α,mV (l.map λx=>D.bl (p x))=some (l.map p)
 | []=>rfl
 | a::l=>by rw[C9];unfold mV;rw[vR p l];rfl
def Df:List D→Option D
 | [.lst ds]=>(mV ds).map λbs=>.bl (bs.all id)
 | _=>none
def BK(K:aA):List V→Hp→VK→Prop:=λxs H Q=>∃(p:Addr)(bs:List Bool),xs=[.ref p]∧iH K H p (bs.map V.bl)∧Q (.bl (bs.all id)) H
theorem Qp{H:Hp}{ds:List D}{bs:List Bool}{v:V}(h:mV ds=some bs)(r:Rv K H (.lst ds) v):∃p,v=.ref p∧iH K H p (bs.map V.bl):=by
 unfold Rv at r
 obtain⟨p,xs,r1,r2,r3⟩:=r
 rw[Am h r3]at r2
 exact⟨p,r1,r2⟩
theorem Dg:mU K (BK K) Df:=λvs H ds d Q rs q k=>by
 unfold Df at q
 split at q
 ·obtain⟨bs,q1,rfl⟩:=iG q
  obtain⟨v,rfl,r⟩:=jH rs
  obtain⟨p,rfl,r2⟩:=Qp q1 r
  exact⟨p,bs,rfl,r2,k _ H (aH.refl _) (.cY rfl (by unfold Rv;rfl))⟩
 ·cases q
theorem Dh(hk:X.K=K)(hc:X.calm=true:=by rfl):eO X (.builtin "all") (BK K):=by subst hk;exact Kh hc
end
end L2


namespace L2
open PySem PySem.Spec PyProof.Rows
section
variable{K:aA}{X:Cx}{e a b c:Expr}{es rest:List Expr}{t ta tb:TE}{f g:FE}{tA:TA}{fs:FA}{pos:Pos}{tc:TT}{fc fd:FT}{td:TT}
abbrev FO:=DE→Option (Option Int)
def QV(K:aA)(t:TO)(f:FO):Prop:=∀(σ:St)(H:Hp)(e:DE)(o:Option Int)(Q:Option Int→Hp→Prop),oW K H e σ→f e=some o→(∀H',aH H H'→Q o H')→t σ H Q
structure XO(K:aA)(X:Cx)(e:Option Expr)(t:TO)(f:FO):Prop where
 po:PO X e t
 ev:QV K t f
def Di:FO:=λ_=>some none
def yC(f:FE):FO:=λe=>(f e).bind λd=>match d with | .int i=>some (some i) | _=>none
theorem Fl:XO K X none Ey Di:=⟨Ph,λσ H e o Q re q k=>by cases q;exact k H (aH.refl _)⟩
theorem Fo(h:XR K X e t f):XO K X (some e) (Tr t) (yC f):=⟨Pj h.pe,λσ H e o Q re q k=>by
 unfold yC at q
 obtain⟨d,q1,q2⟩:=aP q
 split at q2
 ·rename_i i
  cases q2
  refine h.ev σ H H e _ _ (Zn.self K H) re q1 λv H1 Z1 s1 t1 z1 rv=>?_
  unfold Rv at rv
  exact⟨i,rv,k H1 s1⟩
 ·cases q2⟩
def uP{α:Type}(xs:List α)(lo hi:Option Int):List α:=(xs.drop (HT.vH xs.length 0 lo)).take (HT.vH xs.length xs.length hi-HT.vH xs.length 0 lo)
theorem bG.drop{H:Hp}:∀{ds:List D} {xs:List V} (n:Nat),bG K H ds xs→bG K H (ds.drop n) (xs.drop n)
 | ds,xs,0,h=>h
 | [],xs,n+1,h=>by unfold bG at h;subst h;simp;unfold bG;rfl
 | d::ds,xs,n+1,h=>by unfold bG at h;obtain⟨y,ys,rfl,_,h2⟩:=h;simpa using bG.drop n h2
theorem bG.take{H:Hp}:∀{ds:List D} {xs:List V} (n:Nat),bG K H ds xs→bG K H (ds.take n) (xs.take n)
 | ds,xs,0,h=>by simp;unfold bG;rfl
 | [],xs,n+1,h=>by unfold bG at h;subst h;simp;unfold bG;rfl
 | d::ds,xs,n+1,h=>by unfold bG at h;obtain⟨y,ys,rfl,h1,h2⟩:=h;rw[O7,O7];unfold bG;exact⟨y,_,rfl,h1,bG.take n h2⟩
theorem Qq{H:Hp}{ds:List D}{xs:List V}(lo hi:Option Int)(h:bG K H ds xs):bG K H (uP ds lo hi) (Cm xs lo hi):=by
 unfold uP Cm
 rw[h.length]
 exact(h.drop _).take _
def Yn(cY:Bool)(f:FE)(l h:FO):FE:=λe=>(f e).bind λd=>(l e).bind λlo=>(h e).bind λhi=>match d with
 | .lst ds=>if cY=false∨D.cR (uP ds lo hi)=true then some (.lst (uP ds lo hi))else none
 | _=>none
theorem Le{cY:Bool}{f:FE}{l h:FO}{e:DE}{d:D}(q:Yn cY f l h e=some d):∃ds lo hi,f e=some (.lst ds)∧l e=some lo∧h e=some hi∧(cY=false∨D.cR (uP ds lo hi)=true)∧d=.lst (uP ds lo hi):=by
 unfold Yn at q
 obtain⟨d0,q1,q⟩:=aP q
 obtain⟨lo,q2,q⟩:=aP q
 obtain⟨hi,q3,q⟩:=aP q
 split at q
 ·split at q
  ·rename_i c;cases q;exact⟨_,lo,hi,q1,q2,q3,c,rfl⟩
  ·cases q
 ·cases q
theorem Qt(hk:X.K=K):FZ X (Wc K):=by subst hk;exact Pu
variable{lo hi:Option Expr}{tl th:TO}{fl fh:FO}{p2:Pos}
theorem Lf(h:XR K X e t f)(hl:XO K X lo tl fl)(hu:XO K X hi th fh):XR K X (.Subscript e (.Slice lo hi none p2) pos) (IK (Wc K) t tl th) (Yn false f fl fh):=⟨h.hk,zY (Qt h.hk) h.pe hl.po hu.po,λσ H Z e d Q z re q k=>by
 obtain⟨ds,lo,hi,q1,q2,q3,_,rfl⟩:=Le q
 refine h.ev σ H Z e _ _ z re q1 λv H1 Z1 s1 t1 z1 rv=>hl.ev σ H1 e lo _ (re.same (z.sm.trans s1)) q2 λH2 s2=>hu.ev σ H2 e hi _ (re.same (z.sm.trans (s1.trans s2))) q3 λH3 s3=>?_
 have z3:=xR z1 (s2.trans s3)
 have t3:aH Z1 (xQ Z1 H1 H3):=pA z1
 unfold Rv at rv
 obtain⟨p,xs,rfl,r2,r3⟩:=rv
 refine⟨p,xs,rfl,z3.sm.seq (t3.seq r2),λl hl=>?_⟩
 obtain⟨a1,a2⟩:=Ky (o:=.lst (Cm xs lo hi)) z3 hl
 exact k _ _ _ (s1.trans (s2.trans (s3.trans (bT hl _)))) (t1.trans (t3.trans a1)) a2 (by unfold Rv;exact⟨l,_,rfl,iH.of bI,a1.Je _ _ (t3.Je _ _ (Qq lo hi r3))⟩)⟩
def Lg(K:aA):R2:=λx y H Q=>∃l b xs zs,x=.ref l∧y=.ref b∧iH K H l xs∧iH K H b zs∧xs.length+zs.length≤sizeLine∧∀p,H p=none→Q (.ref p) (upd H p (.lst (xs++zs)))
theorem Qu(hk:X.K=K):jC X (binaryOp .Add) (Lg K):=by
 subst hk
 intro pins s σ H x y v u Q I rx ry h
 obtain⟨l,b,xs,zs,rfl,rfl,h1,h2,hz,q⟩:=h
 cases rx
 cases ry
 obtain⟨its,r,pl,_⟩:=I.list h1
 obtain⟨its2,r2,Ae,_⟩:=I.list h2
 obtain⟨⟨cl,dd,da,sl⟩,ho,hc,n,hd⟩:=pl.isList
 obtain⟨⟨cl2,dd2,da2,sl2⟩,ho2,hc2,n2,hd2⟩:=Ae.isList
 dsimp only at hc hd hc2 hd2
 subst hc hd hc2 hd2
 have hlen:its.toArray.size+its2.toArray.size≤sizeLine:=by rw[B3,B3,←r.length,←r2.length];exact hz
 have ea:its.toArray++its2.toArray=(its++its2).toArray:=by simp
 refine concat_meets ⟨_,ho,rfl⟩ ⟨_,ho2,rfl⟩ noFill_list_add seq_list_add PySem.F.slot_list_add PySem.F.entry_list_add (PySem.F.args_list_add_2 _ _)
  (list_addW l b its.toArray its2.toArray n n2 dd dd2 sl sl2 hlen) ⟨ho,ho2,?_⟩
 rw[ea]
 exact⟨.ref _,_,I.Kc (t':=s.toks) (r.append r2) (by rw[D2];exact hz),rfl,q _ I.fresh⟩
def fW(a b:D):Option D:=match a,b with
 | .int i,.int j=>some (.int (i+j))
 | .lst x,.lst y=>if D.cR (x++y)=true∧x.length+y.length≤100000 then some (.lst (x++y))else none
 | _,_=>none
theorem bG.append{H:Hp}:∀{ds es:List D} {xs ys:List V},bG K H ds xs→bG K H es ys→bG K H (ds++es) (xs++ys)
 | [],es,xs,ys,h,h'=>by unfold bG at h;subst h;exact h'
 | d::ds,es,xs,ys,h,h'=>by unfold bG at h;obtain⟨y,yt,rfl,h1,h2⟩:=h;rw[J4,J4];unfold bG;exact⟨y,_,rfl,h1,bG.append h2 h'⟩
theorem Qv:Dc K (λx y H Q=>Jr (λi j=>.int (i+j)) x y H Q∨Lg K x y H Q) fW:=λx y H a b d Q ra rb q k=>by
 unfold fW at q
 split at q
 ·cases q;unfold Rv at ra rb;exact .inl ⟨_,_,ra,rb,k _ H (aH.refl _) (.cY rfl (by unfold Rv;rfl))⟩
 ·split at q
  ·rename_i c
   cases q
   unfold Rv at ra rb
   obtain⟨p,xs,rfl,r2,r3⟩:=ra
   obtain⟨p',xs',rfl,r2',r3'⟩:=rb
   refine .inr ⟨p,p',xs,xs',rfl,rfl,r2,r2',gR (by rw[r3.length,r3'.length];exact c.2),λl hl=>?_⟩
   exact k _ _ (bT hl _) (qX (aH.refl _) (.cR c.1 (r3.append r3')) hl)
  ·cases q
 ·cases q
theorem fK(ha:XR K X a ta f)(hb:XR K X b tb g):XN K X (.BinOp a .Add b pos) (zM (λx y H Q=>Jr (λi j=>.int (i+j)) x y H Q∨Lg K x y H Q) ta tb) (f2 fW f g):=vM (Vl.or (Qu ha.hk)) Qv ha hb
def JD(K:aA)(wi:TI)(fi:FA):Prop:=∀{N:Fp}(σ:St)(H Z:Hp)(e:DE)(ds:List D)(R:It→Hp→Prop),Zn K N Z H→oW K Z e σ→fi e=some ds →
 (∀J H' Z' P vs,aH H H'→aH Z Z'→Zn K N Z' H'→Wf J P vs→(∀H2,aH Z' H2→P H2)→bG K Z' ds vs→R J H')→wi σ H R
structure XI(K:aA)(X:Cx)(tg iter:Expr)(wi:TI)(fi:FA):Prop where
 hk:X.K=K
 pi:PI X tg iter wi
 ev:JD K wi fi
def gP(f:FE):FA:=λe=>(f e).bind lJ
def JF(K:aA)(t:TE):TI:=λσ H R=>Tp K t σ H R∨Yz K t σ H R
theorem eV{tg:Expr}(h:XR K X e t f):XI K X tg e (JF K t) (gP f):=⟨h.hk,by
 have hk:=h.hk
 subst hk
 exact λpins s σ H R I q=>q.elim (Ou h.pe pins s σ H R I) (Vj h.pe pins s σ H R I),λσ H Z e ds R z re q k=>by
 unfold gP at q
 obtain⟨d,q1,q2⟩:=aP q
 cases d with
 | lst es=>
  unfold lJ at q2;cases q2
  refine .inl (h.ev σ H Z e _ _ z re q1 λv H1 Z1 s1 t1 z1 rv=>?_)
  unfold Rv at rv
  obtain⟨p,xs,rfl,r2,r3⟩:=rv
  exact⟨p,rfl,⟨xs,z1.sm.seq r2⟩,k _ H1 Z1 _ xs s1 t1 z1 Kg (λH2 s=>s.seq r2) r3⟩
 | tup es=>
  unfold lJ at q2;cases q2
  refine .inr (h.ev σ H Z e _ _ z re q1 λv H1 Z1 s1 t1 z1 rv=>?_)
  unfold Rv at rv
  obtain⟨p,xs,rfl,r2,r3⟩:=rv
  exact⟨p,rfl,⟨xs,z1.sm.tup r2⟩,k _ H1 Z1 _ xs s1 t1 z1 Qf (λH2 s=>s.tup r2) r3⟩
 | _=>unfold lJ at q2;cases q2⟩
def dC(lo:Int)(n:Nat):List D:=(E9 n).map λi:Nat=>D.int (lo+(i:Int))
theorem vU{H:Hp}(lo:Int)(n:Nat):bG K H (dC lo n) ((E9 n).map λi:Nat=>V.int (lo+(i:Int))):=by
 unfold dC
 refine bG.of (by simp) λi d x h1 h2=>?_
 rw[C3]at h1 h2
 cases q:(E9 n)[i]? with
 | none=>rw[q]at h1;cases h1
 | some j=>rw[q]at h1 h2;cases h1;cases h2;unfold Rv;rfl
def lim(i:Int):Bool:=decide (-100000≤i∧i≤100000)
def iK(fs:FA):FA:=λe=>(fs e).bind λds=>match ds with
 | [.int n]=>if lim n=true then some (dC 0 n.toNat)else none
 | _=>none
theorem Lh{i:Int}(h:lim i=true):-100000≤i∧i≤100000:=of_decide_eq_true h
theorem Ib{tg:Expr}{p:Pos}(hg:Gl X "range") (hm:X.mg "range" = none) (ha:XA K X [a] tA fs) (hs:starEach [a] X.env=[(false,eval a X.env)]:=by rfl):XI K X tg (.Call (.Name "range" p) [a] [] pos) (Jo tA) (iK fs):=⟨ha.hk,uZ hg hm ha.pa hs,λσ H Z e ds R z re q k=>by
 unfold iK at q
 obtain⟨es,q1,q2⟩:=aP q
 split at q2
 ·rename_i n
  split at q2
  ·rename_i hl
   cases q2
   have hl:=Lh hl
   refine ha.ev σ H Z e _ _ z re q1 λvs H1 Z1 s1 t1 z1 rs=>?_
   obtain⟨v,rfl,r⟩:=jH rs
   unfold Rv at r
   subst r
   exact⟨n,rfl,by omega,by omega,k _ H1 Z1 _ _ s1 t1 z1 vJ (λ_ _=>True.intro) (vU 0 n.toNat)⟩
  ·cases q2
 ·cases q2⟩
def kI(e:DE)(fr:List Nat):DE:=fr.map λi=>(e[i]?).getD none
theorem Qw{H:Hp}{e:DE}{σ:St}{fr:List Nat}{d:D}{x:V}(re:oW K H e σ)(r:Rv K H d x):oW K H (some d::kI e fr) (some x::Cq σ fr):=λi d' h=>by
 cases i with
 | zero=>simp at h;subst h;exact⟨x,rfl,r⟩
 | succ i=>
  rw[List.getElem?_cons_succ]at h ⊢
  unfold kI at h
  unfold Cq
  rw[C3]at h ⊢
  cases q:fr[i]? with
  | none=>rw[q]at h;cases h
  | some j=>
   rw[q]at h
   have h:(e[j]?).getD none=some d':=E1 h
   have h2:e[j]?=some (some d'):=by
    cases q2:e[j]? with
    | none=>rw[q2]at h;cases h
    | some o=>rw[q2]at h;rw[show o=some d' from h]
   obtain⟨v,h3,h4⟩:=re j d' h2
   refine⟨v,?_,h4⟩
   show some (σ.getD j none)=_
   rw[F5,h3]
   rfl
def kJ(c:D→Option Bool)(el:D→Option D):List D→Option (List D)
 | []=>some []
 | x::xs=>(c x).bind λb=>if b=true then(el x).bind λy=>(kJ c el xs).map (y::·)else kJ c el xs
def bU(fi:FA)(fr:List Nat)(fc:FT)(fe:FE):FE:=λe=>(fi e).bind λxs=>if xs.length≤100000 then(kJ (λx=>fc (some x::kI e fr)) (λx=>fe (some x::kI e fr)) xs).map D.lst else none
theorem Dj{H:Hp}{p:Addr}{o:HO}(n:nR H p):oZ K H (upd H p o):=λa xs h=>h.upd n
theorem Fq{wi:TI}{fi:FA}{fr:List Nat}{te:TE}{fe:FE}(hi:JD K wi fi)(hc:Ks K tc fc)(he:Ci K te fe):Ci K (Ac wi 1 fr (dR 0) tc te) (bU fi fr fc fe):=by
 intro σ H e d Q re q k
 unfold bU at q
 obtain⟨xs,q1,q⟩:=aP q
 split at q
 ·rename_i hlen
  obtain⟨ds,q2,rfl⟩:=iG q
  refine hi σ H H e xs _ (Zn.self K H) re q1 λJ H1 Z1 P vs s1 t1 z1 hJ hP rvs=>?_
  intro D0 hD
  have hl:=rvs.length
  have QW:H D0=none:=s1.free hD
  generalize hcc:(λx=>fc (some x::kI e fr))=cc at q2
  generalize hel:(λx=>fe (some x::kI e fr))=el at q2
  refine⟨λi m ys H2=>∃Yo GF A,m=vs.length-i∧i≤vs.length∧ds=Yo++GF∧kJ cc el (xs.drop i)=some GF∧aH H1 H2∧H2 D0=some (.lst ys)∧cZ K H2 Yo A ys∧(∀a,A a→H1 a=none∧a≠D0)∧ys.length≤i,
   ⟨vs.length,[],ds,nil,by simp,L4 _,rfl,by simpa using q2,bT hD _,bI,by unfold cZ;exact⟨λ_ z=>z,rfl⟩,λ_ z=>z.elim,B7 _⟩,?_⟩
  rintro i m ys H2 ⟨Yo,GF,A,rfl,hi',hds,hcl,s2,hD2,ow,fr2,hyl⟩
  obtain⟨j1,j2,j3⟩:=hJ i H2 (hP H2 (z1.sm.trans s2))
  refine⟨hD2,?_⟩
  by_cases hlt:i<vs.length
  ·refine .inr ⟨j1 hlt,λx H' y=>?_⟩
   obtain⟨e1,ex⟩:=j2 x H' y
   subst e1
   have hx:=ex hlt
   have hxi:i<xs.length:=by omega
   have hxs:xs.drop i=xs[i]::xs.drop (i+1):=J6 hxi
   obtain⟨x',hx',rx⟩:=rvs.get (B4 hxi)
   rw[hx]at hx'
   cases hx'
   rw[hxs]at hcl
   unfold kJ at hcl
   obtain⟨bb,c1,c2⟩:=aP hcl
   show Kp 1 σ fr (some x::Cq σ fr)∧_
   refine⟨⟨by simp[blk],λj v hv=>?_⟩,?_⟩
   ·cases j with
    | zero=>simp[blk]at hv
    | succ j=>simpa[blk]using hv
   have NQ:oW K H' (some xs[i]::kI e fr) (some x::Cq σ fr):=Qw (re.same (s1.trans s2)) ((z1.sm.trans s2).rv _ _ rx)
   refine hc _ H' _ bb _ NQ (by rw[←hcc]at c1;exact c1) λH3 s3=>?_
   have JG:=s3 _ _ hD2
   cases bb with
   | false=>
    rw[if_neg (by decide)]at c2 ⊢
    exact⟨vs.length-(i+1),by omega,Yo,GF,A,rfl,by omega,hds,c2,s2.trans s3,JG,ow.same s3,fr2,by omega⟩
   | true=>
    rw[if_pos rfl]at c2 ⊢
    obtain⟨dy,c3,c4⟩:=aP c2
    obtain⟨QX,c5,rfl⟩:=iG c4
    refine he _ H3 _ dy _ (NQ.same s3) (by rw[←hel]at c3;exact c3) λyv H4 s4 n4=>?_
    have NT:=s4 _ _ JG
    refine⟨NT,Kw (by omega),vs.length-(i+1),by omega,Yo++[dy],QX,?_⟩
    obtain⟨B,oB,fB⟩:=n4
    have hB:∀a,B a→H1 a=none∧a≠D0:=λa qa=>⟨(s2.trans s3).free (fB a qa),λz=>by have q0:=fB a qa;rw[z,JG]at q0;cases q0⟩
    refine⟨dY A B,rfl,by omega,by rw[hds];simp,c5,λb o eb=>?_,bI,?_,λa qa=>qa.elim (fr2 a) (hB a),by rw[D2];simp;exact hyl⟩
    ·rw[aX (dM eb hD)]
     exact(s2.trans (s3.trans s4)) b o eb
    ·have o4:=(ow.same s3).same s4
     have ap:Apart A B:=λa qa qb=>by
      obtain⟨⟨u,eu⟩,_⟩:=cZ.cells _ _ _ (ow.same s3) a qa
      rw[fB a qb]at eu;cases eu
     have all:cZ K H4 (Yo++[dy]) (dY A B) (ys++[yv]):=dI.mpr ((dI.mp o4).snoc oB ap)
     exact cZ.frame (Dj (mC NT)) _ _ _ all λa qa=>aX (qa.elim (λz=>(fr2 a z).2) λz=>(hB a z).2)
  ·have ei:i=vs.length:=by omega
   subst ei
   have:xs.drop vs.length=[]:=List.drop_eq_nil_of_le (by omega)
   rw[this]at hcl
   unfold kJ at hcl
   cases hcl
   rw[J5]at hds
   subst hds
   refine .inl ⟨j3 (B7 _),k _ H2 (s1.trans s2) ⟨dY (·=D0) A,?_,λa qa=>qa.elim (λz=>by cases z;exact QW) λz=>s1.free (fr2 a z).1⟩⟩
   unfold Ow
   exact⟨D0,ys,A,rfl,hD2,λz=>(fr2 D0 z).2 rfl,λ_=>Iff.rfl,ow⟩
 ·cases q
def cV:FT:=λ_=>some true
structure JH(K:aA)(X:Cx)(ifs:List Expr)(t:TT)(f:FT):Prop where
 NZ:Yk X ifs t
 ev:Ks K t f
theorem dJ:JH K X [] Zt cV:=⟨Pz,λσ H e b Q re q k=>by cases q;exact k H (aH.refl _)⟩
theorem gW{tg elt iter:Expr}{ifs:List Expr}{scope:Scope}{wi:TI}{fi:FA}{te:TE}{fe:FE}(N:List Str)(fr:List Nat)(hcalm:X.calm=true)(B:cQ X.env.scope scope X.N N 1 fr)(hi:XI K X tg iter wi fi)
  (hg:∀cl fp s H C,PG (cL X scope N cl fp s H C) tg (dR 0)) (hc:∀cl fp s H C,JH K (cL X scope N cl fp s H C) ifs tc fc) (he:∀cl fp s H C,XN K (cL X scope N cl fp s H C) elt te fe)
  (hs:∀x,foldedSetIterable iter X.env x=pure x:=by intro _;rfl):XN K X (.ListComp elt [⟨tg,iter,ifs,0⟩] scope pos) (Ac wi 1 fr (dR 0) tc te) (bU fi fr fc fe):=
 ⟨hi.hk,Qd N 1 fr hcalm B hi.pi hg (λcl fp s H C=>(hc cl fp s H C).NZ) (λcl fp s H C=>(he cl fp s H C).pe) hs,
  Fq hi.ev (hc [] [] X.s₀ X.H₀ 0).ev (he [] [] X.s₀ X.H₀ 0).ev⟩
def kO(K:aA)(n:Nat)(F:List D→Option D):Sp:=λvs H Q _=>∃ds d,ds.length=n∧bG K H ds vs∧F ds=some d∧∀v H',aH H H'→Ag K H H' d v→Q v H'
def bJ(n:Nat)(F:List D→Option D)(fs:FA):FE:=λe=>(fs e).bind λds=>if ds.length=n then F ds else none
theorem bF{x:Str}{k n:Nat}{F:List D→Option D}{p:Pos}(C:jF X.prog X.w X.K X.mg X.base x k n (kO K n F))(hr:gF k X.A)(hg:Gl X x)(ha:XA K X (e::es) tA fs)(hdb:(x==("__debug__" : Str))=false:=by decide)
  (he:starEach (e::es) X.env=(false,eval e X.env)::starEach es X.env:=by rfl) (hpl:(backTo pos (starEach es X.env)).any (·.1)=false:=by rfl):XN K X (.Call (.Name x p) (e::es) [] pos) (zW (kO K n F) [] E0 tA) (bJ n F fs):=
 ⟨ha.hk,Wk C hr hg ha.pa hdb he hpl,λσ H e d Q re q k=>by
  unfold bJ at q
  obtain⟨ds,q1,q2⟩:=aP q
  split at q2
  ·rename_i hl
   refine call_of (ha.ev σ H H e ds _ (Zn.self K H) re q1 λvs H1 Z1 s1 t1 z1 rs=>?_)
   exact⟨ds,d,hl,z1.sm.Je _ _ rs,q2,λv H2 s2 n=>k v H2 (s1.trans s2) (n.back s1)⟩
  ·cases q2⟩
end
end L2


namespace L2
open PySem PySem.Spec PyProof.Rows
inductive SD where
  | no | fro (d:D) | own (d:D) | inn (v:V) (d:D)
def SD.z:SD→Option D
 | .fro d=>some d
 | .own d=>if d.cY=true then some d else none
 | .inn _ d=>if d.cY=true then some d else none
 | .no=>none
def SD.r:SD→Option D
 | .fro d=>some d
 | .own d=>some d
 | .inn _ d=>some d
 | .no=>none
abbrev EN:=List SD
def zE(env:EN):DE:=env.map SD.z
def rE(env:EN):DE:=env.map SD.r
def fX(K:aA)(H Z:Hp):SD→Fp→Option V→Prop
 | .no,A,_=>None A
 | .fro d,A,y=>None A∧∃v,y=some v∧Rv K Z d v
 | .own d,A,y=>∃v,y=some v∧Ow K H d A v
 | .inn v d,A,y=>y=some v∧Ow K H d A v
def Rel(K:aA)(B:Hp)(env:EN)(σ:St)(H:Hp):Prop:=∃A,cN (fX K H (out H A)) env A σ∧aH B (out H A)
section
variable{K:aA}{B B' H H' Z Z':Hp}{env:EN}{σ:St}{A:Fp}
theorem cN.all{α β:Type}{R:α→Fp→β→Prop}{Pr:Addr→Prop}:∀{ds:List α} {A:Fp} {ys:List β},cN R ds A ys→(∀d B y,R d B y→∀a,B a→Pr a)→∀a,A a→Pr a
 | [],A,ys,h,_,a,q=>absurd q (h.1 a)
 | d::ds,A,ys,⟨y,yt,A1,A2,h1,h2,h3,h4,h5⟩,m,a,q=>((h3 a).mp q).elim (m _ _ _ h4 a) (cN.all h5 m a)
theorem fX.cells{s:SD}{y:Option V}(h:fX K H Z s A y):∀a,A a→mZ H a:=by
 cases s with
 | no=>exact λa q=>absurd q (h a)
 | fro d=>exact λa q=>absurd q (h.1 a)
 | own d=>obtain⟨v,_,o⟩:=h;exact Ow.cells d A v o
 | inn v d=>exact Ow.cells d A v h.2
theorem eX(h:cN (fX K H Z) env A σ):∀a,A a→mZ H a:=cN.all h λ_ _ _ q=>q.cells
theorem Rel.mono(h:Rel K B' env σ H)(s:aH B B'):Rel K B env σ H:=let ⟨A,a,b⟩:=h;⟨A,a,s.trans b⟩
theorem gJ{A A':Fp}(s:aH H H')(h:∀a,A' a→A a∨H a=none):aH (out H A) (out H' A'):=λb o e=>by
 obtain⟨e1,e2⟩:=aZ.mp e
 refine aZ.mpr ⟨λq=>?_,s b o e2⟩
 rcases h b q with q | q
 ·exact e1 q
 ·rw[q]at e2;cases e2
theorem fX.same{s:SD}{y:Option V}(h:fX K H Z s A y)(e:aH H H')(z:aH Z Z'):fX K H' Z' s A y:=by
 cases s with
 | no=>exact h
 | fro d=>obtain⟨h1,v,h2,h3⟩:=h;exact⟨h1,v,h2,z.rv _ _ h3⟩
 | own d=>obtain⟨v,h1,h2⟩:=h;exact⟨v,h1,h2.same e⟩
 | inn v d=>exact⟨h.1,h.2.same e⟩
theorem Rel.same(h:Rel K B env σ H)(s:aH H H'):Rel K B env σ H':=by
 obtain⟨A,a,b⟩:=h
 have g:aH (out H A) (out H' A):=gJ s λa q=>.inl q
 exact⟨A,a.mono λe C z _ q=>q.same s g,b.trans g⟩
theorem Dk(h:cN (fX K H (out H A)) env A σ):Zn K A (out H A) H:=⟨gH H A,Kr λa q=>(eX h a q).2,λa q=>⟨by
 unfold out;rw[if_pos q],λz=>by obtain⟨⟨o,e⟩,_⟩:=eX h a q;rw[z]at e;cases e⟩⟩
theorem Rel.r(h:Rel K B env σ H):oW K H (rE env) σ:=λi d q=>by
 obtain⟨A,a,b⟩:=h
 unfold rE at q
 rw[C3]at q
 cases e:env[i]? with
 | none=>rw[e]at q;cases q
 | some s=>
  rw[e]at q
  obtain⟨y,A1,C,h1,h2,h3,h4,_⟩:=a.focus e
  cases s with
  | no=>cases q
  | fro d0=>cases q;obtain⟨_,v,rfl,h5⟩:=h4;exact⟨v,h1,(gH H A).rv _ _ h5⟩
  | own d0=>cases q;obtain⟨v,rfl,h5⟩:=h4;exact⟨v,h1,Ow.rv _ _ _ h5⟩
  | inn v d0=>cases q;obtain⟨rfl,h5⟩:=h4;exact⟨v,h1,Ow.rv _ _ _ h5⟩
theorem BL(a:cN (fX K H (out H A)) env A σ):oW K (out H A) (zE env) σ:=λi d q=>by
 unfold zE at q
 rw[C3]at q
 cases e:env[i]? with
 | none=>rw[e]at q;cases q
 | some s=>
  rw[e]at q
  obtain⟨y,A1,C,h1,h2,h3,h4,_⟩:=a.focus e
  cases s with
  | no=>cases q
  | fro d0=>cases q;obtain⟨_,v,rfl,h5⟩:=h4;exact⟨v,h1,h5⟩
  | own d0=>
   obtain⟨v,rfl,h5⟩:=h4
   have q:(if d0.cY=true then some d0 else none)=some d:=E1 q
   split at q
   ·rename_i im
    cases q
    exact⟨v,h1,(rP _ v im (Ow.rv _ _ _ h5)).out (λ_ z=>z.elim) λx hx=>(eX a x hx).2⟩
   ·cases q
  | inn v d0=>
   obtain⟨rfl,h5⟩:=h4
   have q:(if d0.cY=true then some d0 else none)=some d:=E1 q
   split at q
   ·rename_i im
    cases q
    exact⟨v,h1,(rP _ v im (Ow.rv _ _ _ h5)).out (λ_ z=>z.elim) λx hx=>(eX a x hx).2⟩
   ·cases q
theorem Rel.own{i:Nat}{d:D}{v:V}(h:Rel K B env σ H)(hi:i<env.length)(s:aH H H')(n:Ag K H H' d v):Rel K B (env.set i (.own d)) (σ.set i (some v)) H':=by
 obtain⟨A,a,b⟩:=h
 obtain⟨N,o,f⟩:=n
 have cl:=eX a
 obtain⟨y,A1,C,h1,h2,h3,h4,k⟩:=a.focus (B4 hi)
 have g:aH (out H A) (out H' (dY N C)):=gJ s λx q=>q.elim (λq=>.inr (f x q)) λq=>.inl ((h3 x).mpr (.inr q))
 refine⟨dY N C,k (fX K H' (out H' (dY N C))) (λe D z _ q=>q.same s g) (.own d) (some v) N (λx q c=>?_) ⟨v,rfl,o⟩,b.trans g⟩
 obtain⟨⟨u,e⟩,_⟩:=cl x ((h3 x).mpr (.inr c))
 rw[f x q]at e;cases e
theorem Ft{i:Nat}{d:D}{v:V}(a:cN (fX K H (out H A)) env A σ)(b:aH B (out H A))(hi:i<env.length)(s:aH H H')(t:aH (out H A) Z')(z:Zn K A Z' H')(r:Rv K Z' d v):Rel K B (env.set i (.fro d)) (σ.set i (some v)) H':=by
 obtain⟨y,A1,C,h1,h2,h3,h4,k⟩:=a.focus (B4 hi)
 have hC:∀x,dY nil C x→A x:=λx q=>q.elim False.elim λq=>(h3 x).mpr (.inr q)
 have g:aH (out H A) (out H' (dY nil C)):=gJ s λx q=>.inl (hC x q)
 have g2:aH Z' (out H' (dY nil C)):=λx o e=>aZ.mpr ⟨λq=>(by rw[(z.no x (hC x q)).1]at e;cases e),z.sm x o e⟩
 exact⟨dY nil C,k (fX K H' (out H' (dY nil C))) (λe D z _ q=>q.same s g) (.fro d) (some v) nil (λx q c=>q) ⟨λ_ z=>z,v,rfl,g2.rv _ _ r⟩,b.trans g⟩
def Li(env:EN)(j:Nat):EN:=match env[j]? with
 | some (.own d)=>env.set j (.fro d)
 | _=>env
def oX(js:List Nat)(env:EN):EN:=js.foldl Li env
theorem set_same{α:Type}{l:List α}{i:Nat}{x:α}(h:l[i]?=some x):l.set i x=l:=by
 apply List.ext_getElem?
 intro j
 rw[List.getElem?_set]
 by_cases c:i=j
 ·subst c
  rw[if_pos rfl,h]
  split
  ·rfl
  ·rename_i q;rw[List.getElem?_eq_none (by omega)]at h;cases h
 ·rw[if_neg c]
theorem Rel.Li{j:Nat}(h:Rel K B env σ H):Rel K B (Li env j) σ H:=by
 unfold L2.Li
 cases e:env[j]? with
 | none=>exact h
 | some s=>
  cases s with
  | no=>exact h
  | fro d=>exact h
  | inn v d=>exact h
  | own d=>
   obtain⟨A,a,b⟩:=h
   have cl:=eX a
   obtain⟨y,A1,C,h1,h2,h3,h4,k⟩:=a.focus e
   obtain⟨v,rfl,o⟩:=h4
   have g:aH (out H A) (out H (dY nil C)):=gJ (aH.refl _) λx q=>q.elim False.elim λq=>.inl ((h3 x).mpr (.inr q))
   have:=k (fX K H (out H (dY nil C))) (λe D z _ q=>q.same (aH.refl _) g) (.fro d) (some v) nil (λx q c=>q)
    ⟨λ_ z=>z,v,rfl,o.out (λx q c=>h2 x q (c.elim False.elim id)) λx q=>(cl x ((h3 x).mpr (.inr (q.elim False.elim id)))).2⟩
   rw[set_same h1]at this
   exact⟨dY nil C,this,b.trans g⟩
theorem Rel.oX{js:List Nat}(h:Rel K B env σ H):Rel K B (oX js env) σ H:=by
 unfold L2.oX
 induction js generalizing env with
 | nil=>exact h
 | cons j js ih=>exact ih h.Li
end
inductive SR where
  | next (env:EN) | ret (d:D) | brk (env:EN) | cont (env:EN) | bad | rete (d:D) (env:EN)
def Dl(K:aA)(B:Hp)(E:Ends):SR→Prop
 | .next env=>∀σ H,Rel K B env σ H→E.nx σ H
 | .ret d=>∀v H A,aH B (out H A)→Ow K H d A v→E.rt v H
 | .brk env=>∀σ H,Rel K B env σ H→E.bk σ H
 | .cont env=>∀σ H,Rel K B env σ H→E.ct σ H
 | .bad=>False
 | .rete d env=>∀v σ H,Rel K B (env++[.own d]) (σ++[some v]) H→E.rt v H
theorem Dl.mono{K:aA}{B B':Hp}{E:Ends}{r:SR}(h:Dl K B E r)(s:aH B B'):Dl K B' E r:=by
 cases r with
 | next env=>exact λσ H q=>h σ H (q.mono s)
 | ret d=>exact λv H A q=>h v H A (s.trans q)
 | brk env=>exact λσ H q=>h σ H (q.mono s)
 | cont env=>exact λσ H q=>h σ H (q.mono s)
 | bad=>exact h
 | rete d env=>exact λv σ H q=>h v σ H (q.mono s)
abbrev GS:=EN→SR
def DS(K:aA)(t:TS)(g:GS):Prop:=∀(B:Hp)(E:Ends)(σ:St)(H:Hp)(env:EN),Rel K B env σ H→Dl K B E (g env)→t E σ H
def BP(K:aA)(B:Hp)(E:Ends)(σ:St):SR→Prop
 | .next env=>∀H,Rel K B env σ H→E.nx σ H
 | r=>Dl K B E r
def BR(K:aA)(t:TS)(g:GS):Prop:=∀(B:Hp)(E:Ends)(σ:St)(H:Hp)(env:EN),Rel K B env σ H→BP K B E σ (g env)→t E σ H
theorem BR.ds{K:aA}{t:TS}{g:GS}(h:BR K t g):DS K t g:=λB E σ H env r p=>h B E σ H env r (by
 cases q:g env with
 | next e=>rw[q]at p;exact λH' r'=>p σ H' r'
 | ret d=>rw[q]at p;exact p
 | brk e=>rw[q]at p;exact p
 | cont e=>rw[q]at p;exact p
 | bad=>rw[q]at p;exact p
 | rete d e=>rw[q]at p;exact p)
structure YS(K:aA)(X:Cx)(st:Stmt)(t:TS)(g:GS):Prop where
 ps:PS X st t
 ev:DS K t g
structure YB(K:aA)(X:Cx)(st:List Stmt)(t:TS)(g:GS):Prop where
 ps:Es X st t
 ev:DS K t g
section
variable{K:aA}{X:Cx}{st:Stmt}{sts:List Stmt}{t u:TS}{g g1 g2:GS}{e a b c:Expr}{te ta tb:TE}{f fa fb:FE}{tc:TT}{fc:FT}{pos:Pos}
def aR(g1 g2:GS):GS:=λenv=>match g1 env with
 | .next env'=>g2 env'
 | r=>r
theorem Wy(h1:DS K t g1)(h2:DS K u g2):DS K (Vh t u) (aR g1 g2):=λB E σ H env r p=>by
 unfold aR at p
 refine h1 B {E with nx:=u E} σ H env r ?_
 cases q:g1 env with
 | next env'=>rw[q]at p;exact λσ' H' r'=>h2 B E σ' H' env' r' p
 | ret d=>rw[q]at p;exact p
 | brk d=>rw[q]at p;exact p
 | cont d=>rw[q]at p;exact p
 | bad=>rw[q]at p;exact p
 | rete d e=>rw[q]at p;exact p
def bV:GS:=λenv=>.next env
theorem cG:YB K X [] Tn bV:=⟨Oo,λB E σ H env r p=>p σ H r⟩
theorem aQ(h:YS K X st t g):YB K X [st] t g:=⟨Oq h.ps,h.ev⟩
theorem aK(h:YS K X st t g1)(h2:YB K X sts u g2):YB K X (st::sts) (Vh t u) (aR g1 g2):=⟨Ji h.ps h2.ps,Wy h.ev h2.ev⟩
def cX(i:Nat)(f:FE):GS:=λenv=>match f (rE env)with
 | some d=>if i<env.length then .next (env.set i (.own d))else .bad
 | none=>.bad
theorem Lj{i:Nat}(h:Ci K te f):DS K (Gy te (dR i)) (cX i f):=λB E σ H env r p=>by
 unfold cX at p
 split at p
 ·rename_i d q
  split at p
  ·rename_i hi
   exact h σ H (rE env) d _ r.r q λv H' s n=>p _ _ (r.own hi s n)
  ·exact p.elim
 ·exact p.elim
theorem bQ{i:Nat}{x:Str}{pos':Pos}(h:XN K X e te f)(hp:PE X e te→PS X (.Assign [.Name x pos'] e pos) (Gy te (dR i))):YS K X (.Assign [.Name x pos'] e pos) (Gy te (dR i)) (cX i f):=⟨hp h.pe,Lj h.ev⟩
def cA(f:FE):GS:=λenv=>match f (rE env)with
 | some d=>.ret d
 | none=>.bad
theorem bC(h:XN K X e te f):YS K X (.Return (some e) pos) (Vi te) (cA f):=⟨Jj h.pe,λB E σ H env r p=>by
 unfold cA at p
 split at p
 ·rename_i d q
  refine h.ev σ H (rE env) d _ r.r q λv H' s ⟨N,o,fr⟩=>p v H' N (λx u ex=>?_) o
  obtain⟨A,a,b⟩:=r
  have h1:=(aZ.mp (b x u ex)).2
  exact aZ.mpr ⟨λz=>(by rw[fr x z]at h1;cases h1),s x u h1⟩
 ·exact p.elim⟩
def mW(i:Nat):GS:=λenv=>match env[i]? with
 | some (.own d)=>.ret d
 | some (.fro d)=>if d.cY=true then .ret d else .bad
 | _=>.bad
theorem yD{i:Nat}(h:PE X e (jA i)):YS K X (.Return (some e) pos) (Vi (jA i)) (mW i):=⟨Jj h,λB E σ H env r p=>by
 unfold mW at p
 obtain⟨A,a,b⟩:=r
 split at p
 ·rename_i d q
  obtain⟨y,A1,C,h1,h2,h3,h4,_⟩:=a.focus q
  obtain⟨v,rfl,o⟩:=h4
  exact⟨v,h1,p v H A1 (b.trans (gJ (aH.refl _) λx z=>.inl ((h3 x).mpr (.inl z)))) o⟩
 ·rename_i d q
  split at p
  ·rename_i im
   obtain⟨y,A1,C,h1,h2,h3,h4,_⟩:=a.focus q
   obtain⟨_,v,rfl,rv⟩:=h4
   exact⟨v,h1,p v H nil (b.trans (gJ (aH.refl _) λx z=>z.elim)) (rP d v im ((gH H A).rv _ _ rv))⟩
  ·exact p.elim
 ·exact p.elim⟩
def kZ(f:FT)(g1 g2:GS):GS:=λenv=>match f (rE env)with
 | some true=>g1 env
 | some false=>g2 env
 | none=>.bad
theorem eG{s1 s2:List Stmt}(hc:XT K X c tc fc)(h1:YB K X s1 t g1)(h2:YB K X s2 u g2):YS K X (.If c s1 s2 pos) (Yw tc t u) (kZ fc g1 g2):=⟨Yx hc.pt h1.ps h2.ps,λB E σ H env r p=>by
 unfold kZ at p
 split at p
 ·rename_i q
  refine hc.ev σ H (rE env) true _ r.r q λH' s=>?_
  rw[if_pos rfl]
  exact h1.ev B E σ H' env (r.same s) p
 ·rename_i q
  refine hc.ev σ H (rE env) false _ r.r q λH' s=>?_
  rw[if_neg (by decide)]
  exact h2.ev B E σ H' env (r.same s) p
 ·exact p.elim⟩
def pG(i:Nat)(g:GS):List D→EN→SR
 | [],env=>.next env
 | x::xs,env=>if i<env.length then match g (env.set i (.fro x))with
   | .next env'=>pG i g xs env'
   | .cont env'=>pG i g xs env'
   | .brk env'=>.next env'
   | r=>r
  else .bad
def yE(js:List Nat)(i:Nat)(fi:FA)(g:GS):GS:=λenv=>match fi (zE (oX js env))with
 | some xs=>pG i g xs (oX js env)
 | none=>.bad
theorem Wz{js:List Nat}{i:Nat}{wi:TI}{fi:FA}{tb:TS}(hi:JD K wi fi)(h:DS K tb g):DS K (Jp wi (dR i) tb) (yE js i fi g):=λB E σ H env r p=>by
 unfold yE at p
 have r':Rel K B (oX js env) σ H:=r.oX
 generalize oX js env=pH at r' p
 split at p
 ·rename_i xs q
  obtain⟨A,a,b⟩:=r'
  refine hi σ H (out H A) (zE pH) xs _ (Dk a) (BL a) q λJ H1 Z1 P vs s t z hJ hP rvs=>?_
  have hl:=rvs.length
  have g0:aH Z1 (out H1 A):=λx o e=>aZ.mpr ⟨λqa=>(by rw[(z.no x qa).1]at e;cases e),z.sm x o e⟩
  have JK:Rel K Z1 pH σ H1:=⟨A,a.mono λe D y _ qq=>qq.same s (gJ s λx q=>.inl q),g0⟩
  have bz:aH B Z1:=b.trans t
  have p':=p.mono bz
  refine Fb hJ (λk σ2 H2=>∃mO,Rel K Z1 mO σ2 H2∧Dl K Z1 E (pG i g (xs.drop k) mO)) ⟨pH,JK,by simpa using p'⟩ (λk σ2 H2 _ ⟨mO,⟨A2,a2,b2⟩,_⟩=>hP H2 (b2.trans (gH H2 A2))) ?_ ?_
  ·rintro k x σ2 H2 hx ⟨mO,r2,p2⟩
   have hk:k<xs.length:=by
    have:=B8.mp hx
    obtain⟨h1,_⟩:=this
    omega
   rw[J6 hk]at p2
   unfold pG at p2
   obtain⟨x',hx',rx⟩:=rvs.get (B4 hk)
   rw[hx]at hx'
   cases hx'
   split at p2
   ·rename_i hlen
    obtain⟨A2,a2,b2⟩:=r2
    have r3:Rel K Z1 (mO.set i (.fro xs[k])) (σ2.set i (some x)) H2:=Ft a2 b2 hlen (aH.refl _) (aH.refl _) (Dk a2) (b2.rv _ _ rx)
    refine h Z1 _ _ H2 _ r3 ?_
    split at p2
    ·rename_i env' q2;rw[q2];exact λσ' H' r'=>⟨env',r',p2⟩
    ·rename_i env' q2;rw[q2];exact λσ' H' r'=>⟨env',r',p2⟩
    ·rename_i env' q2;rw[q2];exact p2
    ·rename_i n1 n2 n3
     cases q2:g (mO.set i (.fro xs[k]))with
     | next e=>exact absurd q2 (n1 e)
     | cont e=>exact absurd q2 (n2 e)
     | brk e=>exact absurd q2 (n3 e)
     | ret d=>rw[q2]at p2;exact p2
     | bad=>rw[q2]at p2;exact p2
     | rete d e=>rw[q2]at p2;exact p2
   ·exact p2.elim
  ·rintro σ2 H2 ⟨mO,r2,p2⟩
   rw[hl,Q6]at p2
   exact p2 σ2 H2 r2
 ·exact p.elim
theorem Dm{tg iter:Expr}{body:List Stmt}{wi:TI}{fi:FA}{tb:TS}{i:Nat}(js:List Nat)(hp:PassesOwn (model X.prog X.w) X.A X.env X.xe)(Xa:X.calm=true)(hi:XI K X tg iter wi fi)(hg:PG X tg (dR i))(hb:YB K X body tb g)
  (hs:∀x,foldedSetIterable iter X.env x=pure x:=by intro _;rfl):YS K X (.For tg iter body [] pos) (Jp wi (dR i) tb) (yE js i fi g):=⟨Jq hp Xa hi.pi hg hb.ps hs,Wz hi.ev hb.ev⟩
end
end L2


namespace L2
open PySem PySem.Spec PyProof.Rows
inductive Step where
  | ix (k:Nat) | key (k:Key) | fld (C:Addr) (f:Str)
def kids:D→List D
 | .lst ds=>ds
 | .dk _ ds=>ds
 | .ins _ _ ds=>ds
 | _=>[]
def sJ:D→List D→D
 | .lst _,ds=>.lst ds
 | .dk ks _,ds=>.dk ks ds
 | .ins C nm _,ds=>.ins C nm ds
 | d,_=>d
def uQ:Step→D→Option Nat
 | .ix k,.lst ds=>some k
 | .key k,.dk ks _=>posK ks k
 | .fld C f,.ins C' nm _=>if C'=C then posK nm f else none
 | _,_=>none
def pI:List Step→D→Option D
 | [],d=>some d
 | s::p,d=>(uQ s d).bind λj=>((kids d)[j]?).bind (pI p)
def pJ:List Step→D→D→D
 | [],_,d'=>d'
 | s::p,d,d'=>match uQ s d with
  | some j=>(match (kids d)[j]? with
   | some c=>sJ d ((kids d).set j (pJ p c d'))
   | none=>d)
  | none=>d
def stepV(H:Hp)(s:Step)(v:V):Option V:=match v with
 | .ref a=>(match s,H a with
  | .ix k,some (.lst xs)=>xs[k]?
  | .key k,some (.dK kvs)=>Hr kvs k
  | .fld C f,some (.ins C' _ fs)=>if C'=C then fs.lookup f else none
  | _,_=>none)
 | _=>none
def Fv(H:Hp):List Step→V→Option V
 | [],v=>some v
 | s::p,v=>(stepV H s v).bind (Fv H p)
theorem Dn{nm:List Str}{xs:List V}{f:Str}(h:nm.length=xs.length):(nm.zip xs).lookup f=(posK nm f).bind λj=>xs[j]?:=by
 induction nm generalizing xs with
 | nil=>unfold posK;rfl
 | cons a nm ih=>
  cases xs with
  | nil=>simp at h
  | cons x xs=>
   have ih:=ih (xs:=xs) (by simpa using h)
   unfold posK
   rw[P4,K3]
   by_cases c:a=f
   ·subst c;simp
   ·have c2:(f==a)=false:=by
     rw[beq_eq_false_iff_ne];exact λz=>c z.symm
    rw[c2,if_neg c,ih]
    cases posK nm f<;>rfl
theorem Ow.kids{K:aA}{H:Hp}{d:D}{A:Fp}{v:V}{s:Step}{j:Nat}(h:Ow K H d A v)(q:uQ s d=some j):∃xs T Bt,(∀x,xs[j]?=some x→stepV H s v=some x)∧cZ K H (kids d) Bt xs∧Is A (dY T Bt)∧Apart T Bt ∧
  ∀H' ds' B',ds'.length=(kids d).length→cZ K H' ds' B' xs→(∀a,T a→H' a=H a)→Apart T B'→Ow K H' (sJ d ds') (dY T B') v:=by
 cases d with
 | lst ds=>
  unfold Ow at h
  obtain⟨a,xs,B,rfl,h2,h3,h4,h5⟩:=h
  cases s with
  | ix k=>
   unfold uQ at q
   cases q
   refine⟨xs,(·=a),B,λx hx=>?_,h5,h4,λx qx qb=>h3 (qx▸qb),λH' ds' B' hl o f ap=>?_⟩
   ·unfold stepV;dsimp only;rw[h2];exact hx
   ·show Ow K H' (.lst ds') _ _
    unfold Ow
    exact⟨a,xs,B',rfl,(f a rfl).trans h2,ap a rfl,λ_=>Iff.rfl,o⟩
  | _=>unfold uQ at q;cases q
 | dk ks ds=>
  unfold Ow at h
  obtain⟨a,xs,B,rfl,h2,h2',h3,h4,h5⟩:=h
  cases s with
  | key k=>
   have q:posK ks k=some j:=q
   refine⟨xs,(·=a),B,λx hx=>?_,h5,h4,λx qx qb=>h3 (qx▸qb),λH' ds' B' hl o f ap=>?_⟩
   ·unfold stepV;dsimp only;rw[h2];show Hr (ks.zip xs) k=_;rw[Ai h2',q];exact hx
   ·show Ow K H' (.dk ks ds') _ _
    unfold Ow
    exact⟨a,xs,B',rfl,(f a rfl).trans h2,h2',ap a rfl,λ_=>Iff.rfl,o⟩
  | _=>unfold uQ at q;cases q
 | ins C nm ds=>
  unfold Ow at h
  obtain⟨a,dx,xs,B,rfl,h2,h2',h3,h3',h3'',h4,h5⟩:=h
  cases s with
  | fld C0 k=>
   have q:(if C=C0 then posK nm k else none)=some j:=q
   by_cases hc:C=C0
   rotate_left
   ·rw[if_neg hc]at q;cases q
   rw[if_pos hc]at q
   refine⟨xs,(λx=>x=a∨x=dx),B,λx hx=>?_,h5,h4,λx qx qb=>qx.elim (λz=>h3' (z▸qb)) λz=>h3'' (z▸qb),λH' ds' B' hl o f ap=>?_⟩
   ·unfold stepV;dsimp only;rw[h2];show (if C=C0 then(nm.zip xs).lookup k else none)=_;rw[if_pos hc,Dn h3,q];exact hx
   ·show Ow K H' (.ins C nm ds') _ _
    unfold Ow
    exact⟨a,dx,xs,B',rfl,(f a (.inl rfl)).trans h2,(f dx (.inr rfl)).trans h2',h3,ap a (.inl rfl),ap dx (.inr rfl),λ_=>Iff.rfl,o⟩
  | _=>unfold uQ at q;cases q
 | _=>cases s<;>(unfold uQ at q;cases q)
theorem Ow.at{K:aA}{H:Hp}:∀{p:List Step} {d d1:D} {A:Fp} {v:V},Ow K H d A v→pI p d=some d1→∃w A1 C,Fv H p v=some w∧Apart A1 C∧Is A (dY A1 C)∧Ow K H d1 A1 w ∧
    ∀H' d' A',Apart A' C→(∀a,C a→H' a=H a)→oZ K H H'→Ow K H' d' A' w→Ow K H' (pJ p d d') (dY A' C) v
  | [],d,d1,A,v,h,q=>by
    unfold pI at q
    cases q
    exact⟨v,A,nil,rfl,λ_ _ z=>z,λx=>⟨.inl,λz=>z.elim id False.elim⟩,h,λH' d' A' _ _ _ o=>o.congr λx=>⟨.inl,λz=>z.elim id False.elim⟩⟩
  | s::p,d,d1,A,v,h,q=>by
    unfold pI at q
    obtain⟨j,q1,q2⟩:=aP q
    obtain⟨c,q3,q4⟩:=aP q2
    obtain⟨xs,T,Bt,k1,k2,k3,k4,k5⟩:=h.kids q1
    obtain⟨y,B1,C1,f1,f2,f3,f4,f5⟩:=(dI.mp k2).focus q3
    obtain⟨w,A1,C2,g1,g2,g3,g4,g5⟩:=Ow.at f4 q4
    refine⟨w,A1,dY T (dY C1 C2),?_,?_,?_,g4,λH' d' A' ap fr tk o=>?_⟩
    · unfold Fv
      rw[k1 y f1]
      exact g1
    · intro x qx qc
      have b1:B1 x:=(g3 x).mpr (.inl qx)
      rcases qc with qc | qc | qc
      · exact k4 x qc ((f3 x).mpr (.inl b1))
      · exact f2 x b1 qc
      · exact g2 x qx qc
    · intro x
      rw[k3 x]
      constructor
      · rintro(z | z)
        · exact .inr (.inl z)
        · rcases(f3 x).mp z with z | z
          · rcases(g3 x).mp z with z | z
            · exact .inl z
            · exact .inr (.inr (.inr z))
          · exact .inr (.inr (.inl z))
      · rintro(z | z | z | z)
        · exact .inr ((f3 x).mpr (.inl ((g3 x).mpr (.inl z))))
        · exact .inl z
        · exact .inr ((f3 x).mpr (.inr z))
        · exact .inr ((f3 x).mpr (.inl ((g3 x).mpr (.inr z))))
    · have o1:Ow K H' (pJ p c d') (dY A' C2) y:=g5 H' d' A' (λx a b=>ap x a (.inr (.inr b))) (λa z=>fr a (.inr (.inr z))) tk o
      have QZ:Apart (dY A' C2) C1:=λx a b=>a.elim (λz=>ap x z (.inr (.inl b))) λz=>f2 x ((g3 x).mpr (.inr z)) b
      have o2:=f5 (Ow K H') (λe B z hb qq=>Ow.frame tk e B z qq λa za=>fr a (.inr (.inl (hb a za)))) (pJ p c d') y (dY A' C2) QZ o1
      rw[set_same f1]at o2
      have o3:=k5 H' ((L2.kids d).set j (pJ p c d')) _ (by rw[List.length_set]) (dI.mpr o2) (λa z=>fr a (.inl z)) (λx a b=>by
        rcases b with (b | b) | b
        · exact ap x b (.inl a)
        · exact k4 x a ((f3 x).mpr (.inl ((g3 x).mpr (.inr b))))
        · exact k4 x a ((f3 x).mpr (.inr b)))
      have e:pJ (s::p) d d'=sJ d ((L2.kids d).set j (pJ p c d')):=by
        show (match uQ s d with | some j=>_ | none=>_)=_
        rw[q1]
        show (match (L2.kids d)[j]? with | some c=>_ | none=>_)=_
        rw[q3]
      rw[e]
      refine o3.congr λx=>?_
      show (T x∨(A' x∨C2 x)∨C1 x)↔(A' x∨T x∨C1 x∨C2 x)
      constructor
      · rintro(z | (z | z) | z)
        · exact .inr (.inl z)
        · exact .inl z
        · exact .inr (.inr (.inr z))
        · exact .inr (.inr (.inl z))
      · rintro(z | z | z | z)
        · exact .inr (.inl (.inl z))
        · exact .inl z
        · exact .inr (.inr z)
        · exact .inr (.inl (.inr z))
section
variable{K:aA}{B H:Hp}{env:EN}{σ:St}
theorem Rel.at{i:Nat}{p:List Step}{d0 d:D}(h:Rel K B env σ H)(e:env[i]?=some (.own d0))(q:pI p d0=some d):∃v0 w A1 C,σ[i]?=some (some v0)∧Fv H p v0=some w∧Ow K H d A1 w∧Apart A1 C∧(∀a,C a→mZ H a) ∧
    ∀H' d' A',Apart A' C→(∀a,C a→H' a=H a)→oZ K H H'→Ow K H' d' A' w→aH (out H (dY A1 C)) (out H' (dY A' C))→Rel K B (env.set i (.own (pJ p d0 d'))) σ H':=by
  obtain⟨A,a,b⟩:=h
  have cl:=eX a
  obtain⟨y,A1,C,h1,h2,h3,h4,k⟩:=a.focus e
  obtain⟨v0,rfl,o⟩:=h4
  obtain⟨w,B1,C1,g1,g2,g3,g4,g5⟩:=o.at q
  refine⟨v0,w,B1,dY C1 C,h1,g1,g4,λx z1 z2=>?_,λx z=>?_,λH' d' A' ap fr tk o' sm=>?_⟩
  · exact z2.elim (g2 x z1) (h2 x ((g3 x).mpr (.inl z1)))
  · exact cl x ((h3 x).mpr (z.elim (λz=>.inl ((g3 x).mpr (.inr z))) .inr))
  · have o2:=g5 H' d' A' (λx z1 z2=>ap x z1 (.inl z2)) (λx z=>fr x (.inl z)) tk o'
    have RB:Apart (dY A' C1) C:=λx z1 z2=>z1.elim (λz=>ap x z (.inr z2)) λz=>h2 x ((g3 x).mpr (.inr z)) z2
    have hA:Is A (dY B1 (dY C1 C)):=λx=>by
      rw[h3 x]
      constructor
      · rintro(z | z)
        · exact((g3 x).mp z).elim .inl λz=>.inr (.inl z)
        · exact .inr (.inr z)
      · rintro(z | z | z)
        · exact .inl ((g3 x).mpr (.inl z))
        · exact .inl ((g3 x).mpr (.inr z))
        · exact .inr z
    have g:aH (out H A) (out H' (dY (dY A' C1) C)):=λx u ex=>by
      obtain⟨e1,e2⟩:=aZ.mp ex
      have:=sm x u (aZ.mpr ⟨λz=>e1 ((hA x).mpr z),e2⟩)
      obtain⟨e3,e4⟩:=aZ.mp this
      exact aZ.mpr ⟨λz=>e3 (z.elim (λz=>z.elim .inl λz=>.inr (.inl z)) λz=>.inr (.inr z)),e4⟩
    have s:=k (fX K H' (out H' (dY (dY A' C1) C))) (λs D z hb qq=>by
      cases s with
      | no=>exact qq
      | fro d=>obtain⟨q1,v,q2,q3⟩:=qq;exact⟨q1,v,q2,g.rv _ _ q3⟩
      | inn v d=>exact⟨qq.1,Ow.frame tk _ _ _ qq.2 λx zx=>fr x (.inr (hb x zx))⟩
      | own d=>obtain⟨v,q1,q2⟩:=qq;exact⟨v,q1,Ow.frame tk _ _ _ q2 λx zx=>fr x (.inr (hb x zx))⟩) (.own (pJ p d0 d')) (some v0) (dY A' C1) RB ⟨v0,rfl,o2⟩
    rw[set_same h1]at s
    exact⟨_,s,b.trans g⟩
theorem Rel.Xb{i:Nat}{p:List Step}{d0:D}{ds:List D}(h:Rel K B env σ H)(e:env[i]?=some (.own d0))(q:pI p d0=some (.lst ds)):∃v0 a xs Bs,σ[i]?=some (some v0)∧Fv H p v0=some (.ref a)∧H a=some (.lst xs)∧¬Bs a∧cZ K H ds Bs xs ∧
    ∀H2 ds' xs' Bn,aH H H2→cZ K H2 ds' Bn xs'→(∀b,Bn b→Bs b∨H b=none)→Rel K B (env.set i (.own (pJ p d0 (.lst ds')))) σ (upd H2 a (.lst xs')):=by
  obtain⟨v0,w,A1,C,h1,h2,h3,h4,h5,h6⟩:=h.at e q
  unfold Ow at h3
  obtain⟨a,xs,Bs,rfl,o2,o3,o4,o5⟩:=h3
  refine⟨v0,a,xs,Bs,h1,h2,o2,o3,o5,λH2 ds' xs' Bn s o hb=>?_⟩
  have OD:¬Bn a:=λz=>(hb a z).elim o3 λz=>by rw[o2]at z;cases z
  have hC:∀x,C x→¬x=a:=λx z y=>h4 x ((o4 x).mpr (.inl y)) z
  have BV:H2 a=some (.lst xs):=s a _ o2
  refine h6 _ (.lst ds') (dY (·=a) Bn) (λx z1 z2=>?_) (λx z=>?_) (s.tk.trans (Dj (mC BV))) ?_ (λx u ex=>?_)
  · rcases z1 with z1 | z1
    · exact hC x z2 z1
    · rcases hb x z1 with z | z
      · exact h4 x ((o4 x).mpr (.inr z)) z2
      · obtain⟨⟨u,eu⟩,_⟩:=h5 x z2
        rw[z]at eu;cases eu
  · obtain⟨⟨u,eu⟩,_⟩:=h5 x z
    rw[aX (hC x z),eu,s x u eu]
  · unfold Ow
    refine⟨a,xs',Bn,rfl,bI,OD,λ_=>Iff.rfl,cZ.frame (Dj (mC BV)) _ _ _ o λx zx=>aX λy=>OD (y▸zx)⟩
  · obtain⟨e1,e2⟩:=aZ.mp ex
    have na:x≠a:=λy=>e1 (.inl ((o4 x).mpr (.inl y)))
    refine aZ.mpr ⟨λz=>?_,by rw[aX na];exact s x u e2⟩
    rcases z with (z | z) | z
    · exact na z
    · rcases hb x z with z | z
      · exact e1 (.inl ((o4 x).mpr (.inr z)))
      · rw[z]at e2;cases e2
    · exact e1 (.inr z)
end
end L2


namespace L2
open PySem PySem.Spec PyProof.Rows
abbrev FP:=DE→Option (List Step)
def JL(K:aA)(t:TE)(i:Nat)(π:FP):Prop:=∀(σ:St)(H:Hp)(e:DE)(v0:V)(p:List Step)(v:V)(Q:VK),oW K H e σ→σ[i]?=some (some v0)→π e=some p→Fv H p v0=some v→(∀H',aH H H'→Q v H')→t σ H Q
structure XP(K:aA)(X:Cx)(e:Expr)(t:TE)(i:Nat)(π:FP):Prop where
 hk:X.K=K
 pe:PE X e t
 ev:JL K t i π
theorem An{H:Hp}{s:Step}:∀{p:List Step} {v0 v:V},Fv H (p++[s]) v0=some v→∃w,Fv H p v0=some w∧stepV H s w=some v
 | [],v0,v,h=>by
  rw[R4]at h
  unfold Fv at h
  obtain⟨w,h1,h2⟩:=aP h
  unfold Fv at h2
  cases h2
  exact⟨v0,rfl,h1⟩
 | s'::p,v0,v,h=>by
  rw[J4]at h
  unfold Fv at h
  obtain⟨u,h1,h2⟩:=aP h
  obtain⟨w,h3,h4⟩:=An h2
  refine⟨w,?_,h4⟩
  unfold Fv
  rw[h1]
  exact h3
theorem Lk{H:Hp}{k:Nat}{w v:V}(h:stepV H (.ix k) w=some v):∃a xs,w=.ref a∧H a=some (.lst xs)∧xs[k]?=some v:=by
 cases w with
 | ref a=>
  unfold stepV at h
  dsimp only at h
  cases q:H a with
  | none=>rw[q]at h;cases h
  | some o=>
   rw[q]at h
   cases o with
   | lst xs=>exact⟨a,xs,rfl,q,h⟩
   | _=>cases h
 | _=>unfold stepV at h;cases h
def qQ:FP:=λ_=>some []
def BW(π:FP)(g:FE):FP:=λe=>(π e).bind λp=>(g e).bind λd=>match d with
 | .int k=>if 0≤k then some (p++[.ix k.toNat])else none
 | _=>none
section
variable{K:aA}{X:Cx}{e a b c:Expr}{es:List Expr}{t ta tb te:TE}{f g:FE}{tA:TA}{fs:FA}{pos:Pos}{i j:Nat}{π:FP}{st:Stmt}
theorem Ln(h:PE X e (jA i))(hk:X.K=K:=by rfl):XP K X e (jA i) i qQ:=⟨hk,h,λσ H e v0 p v Q re h1 h2 h3 k=>by
 cases h2
 unfold Fv at h3
 cases h3
 exact⟨v0,h1,k H (aH.refl _)⟩⟩
theorem BX(h:XP K X a ta i π)(hb:XR K X b tb g)(hs:qW b):XP K X (.Subscript a b pos) (zM (GC K) ta tb) i (BW π g):=⟨h.hk,Jy (Tz h.hk) h.pe hb.pe hs,λσ H e v0 p v Q re h1 h2 h3 k=>by
 unfold BW at h2
 obtain⟨p0,q1,q2⟩:=aP h2
 obtain⟨d,q3,q4⟩:=aP q2
 split at q4
 ·rename_i n
  split at q4
  ·rename_i hn
   cases q4
   obtain⟨w,w1,w2⟩:=An h3
   obtain⟨ad,xs,rfl,w3,w4⟩:=Lk w2
   refine h.ev σ H e v0 p0 _ _ re h1 q1 w1 λH1 s1=>hb.ev σ H1 H1 e _ _ (Zn.self K H1) (re.same s1) q3 λy H2 Z2 s2 t2 z2 ry=>?_
   unfold Rv at ry
   exact .inl ⟨ad,xs,n,v,rfl,ry,iH.of (s2 _ _ (s1 _ _ w3)),JB hn w4,k H2 (s1.trans s2)⟩
  ·cases q4
 ·cases q4⟩
def sO(i:Nat)(π:FP)(f:FE):GS:=λenv=>match env[i]?,π (rE env),f (rE env)with
 | some (.own d0),some p,some d=>(match pI p d0 with
  | some (.lst ds)=>if ds.length<100000 then .next (env.set i (.own (pJ p d0 (.lst (ds++[d])))))else .bad
  | _=>.bad)
 | _,_,_=>.bad
theorem Lp{H H1:Hp}{A:Fp}{ds:List D}{xs:List V}{N:Fp}(o:cZ K H ds A xs)(fr:∀a,N a→H a=none):Apart A N:=λx q1 q2=>by
 obtain⟨⟨u,eu⟩,_⟩:=cZ.cells _ _ _ o x q1
 rw[fr x q2]at eu;cases eu
theorem Xc(h:JL K ta i π)(he:Ci K te f):BR K (mQ (Hq K "list" jE ta (dD te jD))) (sO i π f):=λB E σ H env r p=>by
 unfold sO at p
 split at p
 ·rename_i d0 pp d q1 q2 q3
  split at p
  ·rename_i ds q4
   split at p
   ·rename_i hl
    obtain⟨v0,a,xs,Bs,k1,k2,k3,k4,k5,k6⟩:=r.Xb q1 q4
    refine h σ H (rE env) v0 pp _ _ r.r k1 q2 k2 λH1 s1=>⟨.inl ⟨rfl,xs,iH.of (s1 _ _ k3)⟩,?_⟩
    refine he σ H1 (rE env) d _ (r.r.same s1) q3 λy H2 s2 n=>?_
    obtain⟨N,o,fr⟩:=n.back s1
    have s12:=s1.trans s2
    refine⟨a,xs,y,rfl,rfl,s12 _ _ k3,Kw (by rw[(cZ.rv _ _ _ k5).length];omega),p _ ?_⟩
    exact k6 H2 (ds++[d]) (xs++[y]) (dY Bs N) s12 (dI.mpr ((dI.mp (k5.same s12)).snoc o (Lp (H1:=H) k5 fr))) λb z=>z.imp id (fr b)
   ·exact p.elim
  ·exact p.elim
 ·exact p.elim
theorem yF{m:Str}{apos cpos:Pos}(h:XP K X a ta i π)(he:XN K X e te f)(hp:PE X a ta→PE X e te→PS X (.Expr (.Call (.Attribute a m apos) [e] [] cpos) pos) (mQ (Hq K "list" jE ta (dD te jD)))):YS K X (.Expr (.Call (.Attribute a m apos) [e] [] cpos) pos) (mQ (Hq K "list" jE ta (dD te jD))) (sO i π f):=⟨hp h.pe he.pe,(Xc h.ev he.ev).ds⟩
def pK(i:Nat)(π:FP):GS:=λenv=>match env[i]?,π (rE env)with
 | some (.own d0),some p=>(match pI p d0 with
  | some (.lst ds)=>.next (env.set i (.own (pJ p d0 (.lst []))))
  | _=>.bad)
 | _,_=>.bad
theorem Lq(h:JL K ta i π):BR K (mQ (Px K "list" xH ta)) (pK i π):=λB E σ H env r p=>by
 unfold pK at p
 split at p
 ·rename_i d0 pp q1 q2
  split at p
  ·rename_i ds q4
   obtain⟨v0,a,xs,Bs,k1,k2,k3,k4,k5,k6⟩:=r.Xb q1 q4
   refine h σ H (rE env) v0 pp _ _ r.r k1 q2 k2 λH1 s1=>⟨.inl ⟨rfl,xs,iH.of (s1 _ _ k3)⟩,a,xs,rfl,rfl,s1 _ _ k3,p _ ?_⟩
   exact k6 H1 [] [] nil s1 (by unfold cZ;exact⟨λ_ z=>z,rfl⟩) λb z=>z.elim
  ·exact p.elim
 ·exact p.elim
theorem Lr{m:Str}{apos cpos:Pos}(h:XP K X a ta i π)(hp:PE X a ta→PS X (.Expr (.Call (.Attribute a m apos) [] [] cpos) pos) (mQ (Px K "list" xH ta))):YS K X (.Expr (.Call (.Attribute a m apos) [] [] cpos) pos) (mQ (Px K "list" xH ta)) (pK i π):=⟨hp h.pe,(Lq h.ev).ds⟩
end
end L2


namespace L2
open PySem PySem.Spec PyProof.Rows
def RC(K:aA)(B:Hp)(R:Fp)(env:EN)(σ:St)(H:Hp):Prop:=∃A,cN (fX K H (out H (dY A R))) env A σ∧Apart A R∧aH B (out H (dY A R))
section
variable{K:aA}{B H H':Hp}{env:EN}{σ:St}{R R' A1:Fp}
end
section
variable{K:aA}{X:Cx}{e a b c:Expr}{es:List Expr}{t ta tb te:TE}{f g:FE}{tA:TA}{fs:FA}{pos:Pos}{i j:Nat}{π:FP}{st:Stmt}
inductive Xd(K:aA)(H:Hp):V→Value→Prop where
 | bl (x:Bool):Xd K H (.bl x) (.type "bool")
 | int (i:Int):Xd K H (.int i) (.type "int")
 | lst {a:Addr} {xs:List V} (e:iH K H a xs):Xd K H (.ref a) (.type "list")
 | tup {a:Addr} {xs:List V} (e:lB K H a xs):Xd K H (.ref a) (.type "tuple")
theorem yG:eO X (.builtin "isinstance") (λxs H Q=>∃x T t b,xs=[x,.ty T]∧Xd X.K H x t∧C8 X.K t (.type T)=some b∧Q (.bl b) H):=by
 intro pins s σ H xs us Q I r h
 obtain⟨x,T,t,b,rfl,ty,hk,q⟩:=h
 obtain⟨u,w',rfl,rx,rt⟩:=vals2 r
 cases rt
 cases ty with
 | bl y=>exact oY I rx (.bl y) hk λtk=>⟨.bl b,H,I.tok _,rfl,q⟩
 | int i=>exact oY I rx (.int i) hk λtk=>⟨.bl b,H,I.tok _,rfl,q⟩
 | @lst a xs e=>
  cases(show u=Value.ref a from rx)
  obtain⟨its,_,pl,_⟩:=I.list e
  obtain⟨o,n,h1,h2,_⟩:=pl
  exact D6 M0 I.wO ⟨o,h1,h2⟩ hk (λz=>nomatch z) λtk=>⟨.bl b,H,I.tok _,rfl,q⟩
 | @tup a xs e=>
  cases(show u=Value.ref a from rx)
  obtain⟨its,_,pl,_⟩:=I.tuple e
  obtain⟨o,h1,h2,_⟩:=pl
  exact D6 P2 I.wO ⟨o,h1,h2⟩ hk (λz=>nomatch z) λtk=>⟨.bl b,H,I.tok _,rfl,q⟩
def Ao(T:String)(d:D):Option D:=match d with
 | .int _=>if T = "int" then some (.bl true)else if T = "bool" then some (.bl false)else none
 | .bl _=>if T = "bool" then some (.bl true)else none
 | .lst _=>if T = "list" then some (.bl true)else none
 | .tup _=>if T = "tuple" then some (.bl true)else none
 | _=>none
def qR(T:String)(f:FE):FE:=λe=>(f e).bind (Ao T)
def BZ(K:aA):List V→Hp→VK→Prop:=λxs H Q=>∃x T t b,xs=[x,.ty T]∧Xd K H x t∧C8 K t (.type T)=some b∧Q (.bl b) H
theorem Xe{H:Hp}{T:String}{d r:D}{v:V}(h:Ao T d=some r)(rv:Rv K H d v):∃t b,Xd K H v t∧C8 K t (.type T)=some b∧r=.bl b:=by
 cases d with
 | int i=>
  unfold Ao at h
  dsimp only at h
  unfold Rv at rv
  subst rv
  split at h
  ·rename_i c;cases h;subst c;exact⟨_,_,.int i,Af,rfl⟩
  ·split at h
   ·rename_i c;cases h;subst c;exact⟨_,_,.int i,xM,rfl⟩
   ·cases h
 | bl b=>
  unfold Ao at h
  dsimp only at h
  unfold Rv at rv
  subst rv
  split at h
  ·rename_i c;cases h;subst c;exact⟨_,_,.bl b,uL,rfl⟩
  ·cases h
 | lst ds=>
  unfold Ao at h
  dsimp only at h
  unfold Rv at rv
  obtain⟨a,xs,rfl,r2,_⟩:=rv
  split at h
  ·rename_i c;cases h;subst c;exact⟨_,_,.lst r2,uM,rfl⟩
  ·cases h
 | tup ds=>
  unfold Ao at h
  dsimp only at h
  unfold Rv at rv
  obtain⟨a,xs,rfl,r2,_⟩:=rv
  split at h
  ·rename_i c;cases h;subst c;exact⟨_,_,.tup r2,qP,rfl⟩
  ·cases h
 | _=>unfold Ao at h;cases h
theorem Xf(hk:X.K=K):eO X (.builtin "isinstance") (BZ K):=by subst hk;exact yG
theorem nC{T:String}{p:Pos}{eT:Expr}(h:XR K X e t f)(hT:PE X eT (tC (.ty T)))(hg:Gl X "isinstance") (hm:X.mg "isinstance" = none) (hst:starEach (e::[eT]) X.env=(false,eval e X.env)::starEach [eT] X.env:=by rfl) (hst2:starEach [eT] X.env=(false,eval eT X.env)::starEach [] X.env:=by rfl)
  (hpl:(backTo pos (starEach [eT] X.env)).any (·.1)=false:=by rfl):XN K X (.Call (.Name "isinstance" p) [e,eT] [] pos) (Vx (BZ K) (dD t (dD (tC (.ty T)) jD))) (qR T f):=
 ⟨h.hk,rH (Xf h.hk) hg hm L3 (bD h.pe (bD hT cB hst2) hst) (by decide) (by decide) hst hpl,λσ H e d Q re q k=>by
  unfold qR at q
  obtain⟨d0,q1,q2⟩:=aP q
  refine h.ev σ H H e d0 _ (Zn.self K H) re q1 λv H1 Z1 s1 t1 z1 rv=>?_
  obtain⟨ty,b,b1,b2,rfl⟩:=Xe q2 (z1.sm.rv _ _ rv)
  exact⟨v,T,ty,b,rfl,b1,b2,k _ H1 s1 (.cY rfl (by unfold Rv;rfl))⟩⟩
structure Fw(mg:Str→Option Value)(x:Str)(i:Int):Prop where
 ex:∃t,mg x=some (.int i t)
structure vV(K:aA)(mg:Str→Option Value)(x:Str)(ns:List Int):Prop where
 ex:∃a,mg x=some (.ref a)∧∀H:Hp,lB K H a (ns.map V.int)
theorem CG{x:Str}{i:Int}(G:Fw X.mg x i)(hg:Gl X x)(hd:(x==("__debug__" : Str))=false:=by decide) (hk:X.K=K:=by rfl):XN K X (.Name x pos) (tC (.int i)) (fC (.int i)):=by
 obtain⟨t,h⟩:=G.ex
 exact⟨hk,wU hg h ⟨t,rfl⟩ hd,Ku i⟩
def RD(K:aA)(ns:List Int):TE:=λ_ H Q=>∀a,lB K H a (ns.map V.int)→Q (.ref a) H
def dTup(ns:List Int):D:=.tup (ns.map D.int)
theorem Ue{x:Str}{ns:List Int}(G:vV K X.mg x ns)(hg:Gl X x)(hd:(x==("__debug__" : Str))=false:=by decide) (hk:X.K=K:=by rfl):XN K X (.Name x pos) (RD K ns) (fC (dTup ns)):=by
 obtain⟨a,h,hq⟩:=G.ex
 refine⟨hk,λpins s σ H Q I w=>?_,λσ H e d Q re q k=>?_⟩
 ·exact wU (v:=.ref a) hg h rfl hd pins s σ H Q I (w a (hq H))
 ·cases q
  intro a' ha
  refine k _ H (aH.refl _) (.cY ?_ ?_)
  ·unfold dTup D.cY;exact jJ ns
  ·unfold dTup Rv;exact⟨a',_,rfl,ha,nY.mpr rfl⟩
end
def fV(n m:Nat)(g:GS):List D→Option D:=λds=>if ds.length=m then(match g (ds.map SD.fro++D7 (n-m) SD.no)with
  | .ret d=>some d
  | .next _=>some .non
  | _=>none)else none
theorem Aq{K:aA}{H Z:Hp}{k:Nat}:∀{ds:List D} {vs:List V},bG K Z ds vs→cN (fX K H Z) (ds.map SD.fro++D7 k SD.no) nil (vs.map some++D7 k none)
 | [],vs,h=>by
  unfold bG at h
  subst h
  simp only[G1,R4]
  induction k with
  | zero=>exact⟨λ_ z=>z,rfl⟩
  | succ k ih=>
   rw[O8,O8]
   exact⟨none,_,nil,nil,rfl,λ_ z=>z.elim,λx=>⟨.inl,λz=>z.elim id id⟩,λ_ z=>z,ih⟩
 | d::ds,vs,h=>by
  unfold bG at h
  obtain⟨y,ys,rfl,h1,h2⟩:=h
  rw[C9,C9,J4,J4]
  exact⟨some y,_,nil,nil,rfl,λ_ z=>z.elim,λx=>⟨.inl,λz=>z.elim id id⟩,⟨λ_ z=>z,y,rfl,h1⟩,Aq h2⟩
theorem vW{K:aA}{H:Hp}{k:Nat}{ds:List D}{vs:List V}(h:bG K H ds vs):Rel K H (ds.map SD.fro++D7 k SD.no) (vs.map some++D7 k none) H:=by
 have g:aH H (out H nil):=λx u e=>aZ.mpr ⟨λz=>z,e⟩
 exact⟨nil,Aq (g.Je _ _ h),g⟩
theorem Raw.lK{P:Program}{w:World}{K:aA}{mg:Str→Option Value}{base:Heap}{x:Str}{st:Stmt}{N ps:List Str}{k:Nat}{g:GS}(R:Raw K mg x st)(S:bA N ps (aF st))
  (hb:∀(kV doc pm:Value)(an:Option Addr)(cdv ct:Value)(us:List Value),us.length=ps.length→bindArgs (E2 x x (cW st) (bN st) (aF st) .none kV doc pm an cdv ct) ⟨us,[]⟩=pure (ps.zip us))
  (hbody:∀(f:Addr)(cdv:Value)(A:Around)(outer:List Env)(s:Shared)(H:Hp)(E:XK),gF k (A.deeper (envOfC x (aF st) s.heap.objs.size f cdv)) →
   ∃t,YB K (wW Jd P w K mg base N x (aF st) f cdv A outer s H E).Vg (bN st) t g):jF P w K mg base x (k+1) ps.length (kO K ps.length (fV N.length ps.length g)):=by
 refine R.cal S (λvs H Q E h=>?_) hb (λf cdv A outer s H vs Q E hr h=>?_)
 ·obtain⟨ds,d,h1,h2,_⟩:=h
  rw[h2.length];exact h1
 obtain⟨ds,d,h1,h2,h3,kk⟩:=h
 obtain⟨t,yb⟩:=hbody f cdv A outer s H E hr
 refine⟨t,yb.ps,yb.ev H _ _ H (ds.map SD.fro++D7 (N.length-ps.length) SD.no) ?_ ?_⟩
 ·have hl:vs.length=ps.length:=by rw[h2.length];exact h1
  have:=vW (k:=N.length-ps.length) h2
  unfold start
  rw[hl]
  exact this
 ·unfold fV at h3
  rw[if_pos h1]at h3
  cases q:g (ds.map SD.fro++D7 (N.length-ps.length) SD.no)with
  | ret d'=>
   rw[q]at h3
   cases h3
   refine λv H' A' s' o=>kk v H' (s'.trans (gH _ _)) ⟨A',o,λa qa=>?_⟩
   cases e:H a with
   | none=>rfl
   | some u=>exact absurd qa (aZ.mp (s' a u e)).1
  | next env'=>
   rw[q]at h3
   cases h3
   refine λσ' H' ⟨A',_,s'⟩=>kk .non H' (s'.trans (gH _ _)) (.cY rfl (by unfold Rv;rfl))
  | brk env'=>rw[q]at h3;cases h3
  | cont env'=>rw[q]at h3;cases h3
  | bad=>rw[q]at h3;cases h3
  | rete d e=>rw[q]at h3;cases h3
end L2


namespace L2
open PySem PySem.Spec PyProof.Rows
section
variable{K:aA}{X:Cx}{e a b c:Expr}{es:List Expr}{t ta tb te:TE}{f g:FE}{tA:TA}{fs:FA}{pos:Pos}{i j:Nat}{π:FP}{st:Stmt}{gb:GS}{tc:TT}{fc:FT}
def Av(f:FE):FE:=λe=>(f e).bind λd=>match d with | .int i=>some (.int (-i)) | _=>none
theorem yH(ha:XR K X a ta f):XN K X (.UnaryOp .USub a pos) (HW (rU λi=>.int (-i)) ta) (Av f):=Wx ha
theorem qY{tg elt iter:Expr}{ifs:List Expr}{scope:Scope}{spos py:Pos}{y:Str}{wi:TI}{fi:FA}{fe:FE}(N:List Str)(fr:List Nat)(hcalm:X.calm=true)(B:cQ X.env.scope scope X.N N 1 fr)(hN:X.N.Nodup)(hy:X.N[i]?=some y)(hx:Loc X.env.scope y)(hi:XI K X tg iter wi fi)
  (hg:∀cl fp s H C,PG (cL X scope N cl fp s H C) tg (dR 0)) (hc:∀cl fp s H C,JH K (cL X scope N cl fp s H C) ifs tc fc) (he:∀cl fp s H C,XN K (cL X scope N cl fp s H C) elt te fe)
  (hsw:swapsWith (.ListComp elt [⟨tg,iter,ifs,0⟩] scope pos) (some (.Name y py)) spos.line X.env=pure true:=by rfl)
  (hs:∀x,foldedSetIterable iter X.env x=pure x:=by intro _;rfl) (hf:X.fn y=true∨X.env.scope.names.lookup y=some .local:=by first | exact .inl rfl | exact .inr rfl | assumption) :
  YS K X (.Assign [.Name y py] (.ListComp elt [⟨tg,iter,ifs,0⟩] scope pos) spos) (Gy (Ac wi 1 fr (dR 0) tc te) (dR i)) (cX i (bU fi fr fc fe)):=
 ⟨Qe N 1 fr hcalm B hN hy hx hi.pi hg (λcl fp s H C=>(hc cl fp s H C).NZ) (λcl fp s H C=>(he cl fp s H C).pe) hsw hs hf,Lj (Fq hi.ev (hc [] [] X.s₀ X.H₀ 0).ev (he [] [] X.s₀ X.H₀ 0).ev)⟩
def OJ(K:aA)(wi:TI)(fi:FA):Prop:=∀(σ:St)(H:Hp)(e:DE)(ds:List D)(R:It→Hp→Prop),oW K H e σ→fi e=some ds →
 (∀J H' P vs,aH H H'→Wf J P vs→(∀H2,P H2)→(∀Z,bG K Z ds vs)→R J H')→wi σ H R
structure XJ(K:aA)(X:Cx)(tg iter:Expr)(wi:TI)(fi:FA):Prop where
 pi:PI X tg iter wi
 ev:OJ K wi fi
theorem mD{tg:Expr}{p:Pos}(hg:Gl X "range") (hm:X.mg "range" = none) (ha:XA K X [a] tA fs) (hs:starEach [a] X.env=[(false,eval a X.env)]:=by rfl):XJ K X tg (.Call (.Name "range" p) [a] [] pos) (Jo tA) (iK fs):=⟨uZ hg hm ha.pa hs,λσ H e ds R re q k=>by
 unfold iK at q
 obtain⟨es,q1,q2⟩:=aP q
 split at q2
 ·rename_i n
  split at q2
  ·rename_i hl
   cases q2
   have hl:=Lh hl
   refine ha.ev σ H H e _ _ (Zn.self K H) re q1 λvs H1 Z1 s1 t1 z1 rs=>?_
   obtain⟨v,rfl,r⟩:=jH rs
   unfold Rv at r
   subst r
   exact⟨n,rfl,by omega,by omega,k _ H1 _ _ s1 vJ (λ_=>True.intro) λZ=>vU 0 n.toNat⟩
  ·cases q2
 ·cases q2⟩
def kW(i:Nat)(fi:FA)(g:GS):GS:=λenv=>match fi (rE env)with
 | some xs=>pG i g xs env
 | none=>.bad
theorem Qx{wi:TI}{fi:FA}{tb:TS}(hi:OJ K wi fi)(h:DS K tb gb):DS K (Jp wi (dR i) tb) (kW i fi gb):=λB E σ H env r p=>by
 unfold kW at p
 split at p
 ·rename_i xs q
  refine hi σ H (rE env) xs _ r.r q λJ H1 P vs s hJ hP rvs=>?_
  have hl:=(rvs H).length
  refine Fb hJ (λk σ2 H2=>∃mO,Rel K B mO σ2 H2∧Dl K B E (pG i gb (xs.drop k) mO)) ⟨env,r.same s,by simpa using p⟩ (λk σ2 H2 _ _=>hP H2) ?_ ?_
  ·rintro k x σ2 H2 hx ⟨mO,r2,p2⟩
   have hk:k<xs.length:=by
    obtain⟨h1,_⟩:=B8.mp hx
    omega
   rw[J6 hk]at p2
   unfold pG at p2
   split at p2
   ·rename_i hlen
    obtain⟨A2,a2,b2⟩:=r2
    obtain⟨x',hx',rx⟩:=(rvs (out H2 A2)).get (B4 hk)
    rw[hx]at hx'
    cases hx'
    have r3:Rel K B (mO.set i (.fro xs[k])) (σ2.set i (some x)) H2:=Ft a2 b2 hlen (aH.refl _) (aH.refl _) (Dk a2) rx
    refine h B _ _ H2 _ r3 ?_
    split at p2
    ·rename_i env' q2;rw[q2];exact λσ' H' r'=>⟨env',r',p2⟩
    ·rename_i env' q2;rw[q2];exact λσ' H' r'=>⟨env',r',p2⟩
    ·rename_i env' q2;rw[q2];exact p2
    ·rename_i n1 n2 n3
     cases q2:gb (mO.set i (.fro xs[k]))with
     | next e=>exact absurd q2 (n1 e)
     | cont e=>exact absurd q2 (n2 e)
     | brk e=>exact absurd q2 (n3 e)
     | ret d=>rw[q2]at p2;exact p2
     | bad=>rw[q2]at p2;exact p2
     | rete d e=>rw[q2]at p2;exact p2
   ·exact p2.elim
  ·rintro σ2 H2 ⟨mO,r2,p2⟩
   rw[hl,Q6]at p2
   exact p2 σ2 H2 r2
 ·exact p.elim
theorem qZ{tg iter:Expr}{body:List Stmt}{wi:TI}{fi:FA}{tb:TS}(hp:PassesOwn (model X.prog X.w) X.A X.env X.xe)(Xa:X.calm=true)(hi:XJ K X tg iter wi fi)(hg:PG X tg (dR i))(hb:YB K X body tb gb)
  (hs:∀x,foldedSetIterable iter X.env x=pure x:=by intro _;rfl):YS K X (.For tg iter body [] pos) (Jp wi (dR i) tb) (kW i fi gb):=⟨Jq hp Xa hi.pi hg hb.ps hs,Qx hi.ev hb.ev⟩
end
def JM(K:aA):Sp:=λvs H Q _=>∃(a:Addr)(ns:List Int),vs=[.ref a]∧iH K H a (ns.map V.int)∧ns.length≤63∧∀H',Q (.bl true) H'
theorem Oh.RG{P:Program}{w:World}{K:aA}{mg:Str→Option Value}{base:Heap}{x:Str}{st:Stmt}{N:List Str}{k:Nat}{g:GS}{f:Addr}{fd:FuncData}(F:Oh K x x st f fd)(S:bA N ["script"] (aF st))
  (hbody:∀(cdv:Value)(A:Around)(outer:List Env)(s:Shared)(H:Hp)(E:XK),gF k (A.deeper (envOfC x (aF st) s.heap.objs.size f cdv)) →
   ∃t,YB K (wW Jd P w K mg base N x (aF st) f cdv A outer s H E).Vg (bN st) t g)
  (Xg:∀ns:List Int,ns.length≤63→fV N.length 1 g [.lst (ns.map D.int)]=some (.bl true)):rG P w K mg base Jd (k+1) f fd ["script"] (JM K):=by
 refine F.ok S (λvs H Q E h=>?_) (λcdv A outer s H vs Q E hr h=>?_)
 ·obtain⟨a,ns,rfl,_⟩:=h
  rfl
 obtain⟨a,ns,rfl,hS,hl,q⟩:=h
 obtain⟨t,yb⟩:=hbody cdv A outer s H E hr
 have h3:=Xg ns hl
 have rv:bG K H [.lst (ns.map D.int)] [.ref a]:=by
  unfold bG
  exact⟨_,_,rfl,by unfold Rv;exact⟨a,_,rfl,hS,nY.mpr rfl⟩,by unfold bG;rfl⟩
 refine⟨t,yb.ps,yb.ev H _ _ H ([D.lst (ns.map D.int)].map SD.fro++D7 (N.length-1) SD.no) (vW rv) ?_⟩
 unfold fV at h3
 rw[if_pos (show [D.lst (ns.map D.int)].length=1 from rfl)]at h3
 cases qq:g ([D.lst (ns.map D.int)].map SD.fro++D7 (N.length-1) SD.no)with
 | ret d'=>
  rw[qq]at h3
  cases h3
  refine λv H' A' s' o=>?_
  have:=Ow.rv _ _ _ o
  unfold Rv at this
  subst this
  exact q H'
 | next env'=>rw[qq]at h3;cases h3
 | brk env'=>rw[qq]at h3;cases h3
 | cont env'=>rw[qq]at h3;cases h3
 | bad=>rw[qq]at h3;cases h3
 | rete d e=>rw[qq]at h3;cases h3
theorem Dp{K:aA}{st:Stmt}{f:Addr}{fd:FuncData}(F:Oh K "law" "law" st f fd) (hb:∀(kV doc pm:Value)(an:Option Addr)(cdv ct:Value)(u:Value),bindArgs (E2 "law" "law" (cW st) (bN st) (aF st) .none kV doc pm an cdv ct) ⟨[u],[]⟩=pure [(("script" : Str),u)]):∀(s:Shared)(u:Value),BindsTo s fd ⟨[u],[]⟩ [("script", u)]:=by
 obtain⟨oc,od,kV,doc,pm,an,cdv,ct,osl,rfl,lk,hcd⟩:=F.ex
 exact λs u=>.of_eq (hb kV doc pm an cdv ct u)
theorem Ls{K:aA}{h:Heap}{mg:Str→Option Value}{x:Str}{i:Int}{t:Tok}(X:K.In h)(G:h.Ns mainGlobals mg)(a:K9 K mainGlobals x=some (some (.int i t))):Fw mg x i:=⟨t,L7 X G a⟩
theorem Aw{K:aA}{h:Heap}{mg:Str→Option Value}{x:Str}{ns:List Int}{p:Addr}{od:Option Addr}{its:Array Value}{n:Nat}{osl:Array (Option Value)}(X:K.In h)(G:h.Ns mainGlobals mg)(a:K9 K mainGlobals x=some (some (.ref p)))
  (l:K.lookup p=some ⟨.type "tuple", od,.seq its n,osl⟩) (v:Vals (ns.map V.int) its.toList) (hs:ns.length≤100):vV K mg x ns:=
 ⟨p,L7 X G a,λH=>.inr ⟨_,its,n,l,rfl,rfl,by
  have h1:(ns.map V.int).length=its.toList.length:=v.length
  have h2:its.toList.length=its.size:=G8
  rw[B6]at h1
  exact gR (by omega),v⟩⟩
end L2


namespace L2
open PySem PySem.Spec PyProof.Rows
section
variable{K:aA}{X:Cx}{e a b c:Expr}{es:List Expr}{t ta tb te:TE}{f g:FE}{tA:TA}{fs:FA}{pos:Pos}{i j:Nat}{π:FP}{st:Stmt}
variable{lo hi:Option Expr}{tl th:TO}{fl fh:FO}{p2:Pos}
end
end L2


namespace L2
open PySem PySem.Spec PyProof.Rows
def Led(b:Bool)(t:SetTable):Prop:=t.led=b∧(t.plain=true→t.place.toList.Pairwise (·<·)∧t.dummies=#[])
end L2


namespace L2
open PySem PySem.Spec PyProof.Rows
section
variable{prog:Program}{w:World}{A:Around}{E:Value→Shared→Prop}{s:Shared}{b:Bool}
def RJ(prog:Program)(w:World)(b:Bool)(h:Heap)(a:Addr)(S:Int→Bool)(n:Nat):Prop:=
 ∃o es ep t,h.get? a=some o∧o.ExactSet∧o.data=.set es ep t∧ElemsOf (intKind prog w) es.toList∧(∀k,S k=true↔∃e∈es.toList,(intKind prog w).is k e.2=true)∧es.size<scanBound∧t.fits es.size=true∧es.size=n∧Led b t
end
section
variable{prog:Program}{w:World}{A:Around}{R:Result→Shared→Prop}{I:Addr}{fp wr:List Addr}{G:Array GenState→Array GenState→Prop}{n:Nat}{P:Nat→Value→Prop}{St:Nat→Shared→Prop}{b:Bool}
end
end L2


namespace L2
open PySem PySem.Spec PyProof.Rows
section
variable{prog:Program}{w:World}{A:Around}{E:Value→Shared→Prop}{s:Shared}
end
end L2


namespace L2
open PySem PySem.Spec PyProof.Rows
def TQ(h:Heap)(I:Addr)(f:Value)(i:Nat)(a:Addr)(n ep:Nat):Prop:=∃o,h.get? I=some o∧o.cls=.type "set_iterator" ∧ o.data=.fields #[f,.int (i:Int) 0,.ref a,.int (n:Int) 0,.int (ep:Int) 0]
def TV(h:Heap)(a:Addr)(es:Array (Int×Value))(ep:Nat)(t:SetTable):Prop:=∃o,h.get? a=some o∧o.cls=.type "set" ∧ o.data=.set es ep t∧t.fits es.size=true
section
variable{prog:Program}{w:World}{A:Around}{E:Value→Shared→Prop}{s:Shared}{I a T:Addr}{f:Value}{i n ep:Nat}{es:Array (Int×Value)}{t:SetTable}
end
end L2


namespace L2
open PySem PySem.Spec PyProof.Rows
section
variable{prog:Program}{w:World}{A:Around}{E:Value→Shared→Prop}{s:Shared}{I a T:Addr}{f:Value}{i n ep:Nat}{es:Array (Int×Value)}{t:SetTable}
end
end L2


namespace L2
open PySem PySem.Spec PySem.Calls PyProof.Rows PyProof.V
section
variable{prog:Program}{w:World}{A:Around}{E:Value→Shared→Prop}{s:Shared}{I a T:Addr}{n:Nat}{S:Int→Bool}
end
end L2


namespace L2
open PySem PySem.Spec PySem.Calls PyProof.Rows PyProof.V
section
variable{X:Cx}{e:Expr}{t:TE}{x y:Str}{p p2 pos pos2:Pos}
end
end L2


namespace L2
open PySem PySem.Spec PySem.Calls PyProof.Rows PyProof.V
section
variable{prog:Program}{w:World}{A:Around}{E:Value→Shared→Prop}{s:Shared}{I l:Addr}
end
section
variable{K:aA}{X:Cx}{e:Expr}{t:TE}{f:FE}{x y:Str}{p p2 pos pos2:Pos}
end
end L2


namespace L2
open PySem PySem.Spec PySem.Calls PyProof.Rows PyProof.V PySem.W Att
section
variable{K:aA}{X:Cx}{e a b c:Expr}{es:List Expr}{t ta tb te:TE}{f g:FE}{pos:Pos}
def Ug(i j:Int):Prop:=Builtin.Int.intBits i≤4000000∧Builtin.Int.intBits j≤4000000
instance (i j:Int):Decidable (Ug i j):=by unfold Ug;exact inferInstance
variable{lo hi:Option Expr}{tl th:TO}{fl fh:FO}{p2:Pos}
end
end L2


namespace L2
open PySem PySem.Spec PySem.Calls PyProof.Rows PyProof.V
section
variable{K:aA}{X:Cx}
end
end L2


namespace L2
open PySem PySem.Spec PySem.Calls PyProof.Rows PyProof.V
section
variable{X:Cx}{pins:List (Addr×Obj)}{σ:St}{H:Hp}{s:Shared}{h':Heap}
end
section
variable{K:aA}{X:Cx}{e a b c:Expr}{es:List Expr}{t ta tb te:TE}{f g fe:FE}{tc:TT}{fc:FT}{pos p p2:Pos}{x:Str}
end
end L2


namespace L2
open PySem PySem.Spec PySem.Calls PyProof.Rows PyProof.V
section
variable{K:aA}{B H:Hp}{env:EN}{σ:St}{i:Nat}{v:V}{d:D}
end
section
variable{K:aA}{X:Cx}{st:Stmt}{sts:List Stmt}{t u tb:TS}{g g1 g2:GS}{e a b c:Expr}{es:List Expr}{te ta t0:TE}{f f0 fa fb:FE}{gk:FE}{tA:TA}{fs:FA}{tc:TT}{fc:FT}{pos:Pos}{i:Nat}{π:FP}
end
end L2


namespace L2
open PySem PySem.Spec PySem.Calls PyProof.Rows PyProof.V
section
variable{α β:Type}{R:α→Fp→β→Prop}
theorem cN.Lw:∀{ds:List α} {A:Fp} {ys:List β} {d:α} {y:β},cN R (ds++[d]) A (ys++[y])→∃A0 A1,cN R ds A0 ys∧R d A1 y∧Apart A0 A1∧Is A (dY A0 A1)
  | [],A,ys,d,y,h=>by
    obtain⟨y0,yt,A1,A2,h1,h2,h3,h4,h5,h6⟩:=h
    subst h6
    cases ys with
    | nil=>
      cases h1
      exact⟨nil,A1,⟨λ_ z=>z,rfl⟩,h4,λ_ z=>z.elim,λx=>⟨λq=>((h3 x).mp q).elim .inr λz=>absurd z (h5 x),λq=>q.elim False.elim λz=>(h3 x).mpr (.inl z)⟩⟩
    | cons z zs=>
      injection h1 with _ h1
      cases zs<;>cases h1
  | d0::ds,A,ys,d,y,h=>by
    obtain⟨y0,yt,A1,A2,h1,h2,h3,h4,h5⟩:=h
    have hl:=h5.len
    cases ys with
    | nil=>
      injection h1 with _ h1
      subst h1
      have hl:0=(ds++[d]).length:=hl
      rw[D2]at hl
      simp at hl
    | cons z zs=>
      injection h1 with e1 e2
      subst e1 e2
      obtain⟨B0,B1,k1,k2,k3,k4⟩:=cN.Lw h5
      refine⟨dY A1 B0,B1,⟨z,zs,A1,B0,rfl,λx q q'=>h2 x q ((k4 x).mpr (.inl q')),λx=>Iff.rfl,h4,k1⟩,k2,λx q q'=>?_,λx=>?_⟩
      · rcases q with q | q
        · exact h2 x q ((k4 x).mpr (.inr q'))
        · exact k3 x q q'
      · rw[h3 x]
        constructor
        · rintro(q | q)
          · exact .inl (.inl q)
          · exact((k4 x).mp q).elim (λz=>.inl (.inr z)) .inr
        · rintro((q | q) | q)
          · exact .inl q
          · exact .inr ((k4 x).mpr (.inl q))
          · exact .inr ((k4 x).mpr (.inr q))
end
section
variable{K:aA}{B H H':Hp}{env:EN}{σ:St}{i:Nat}{v:V}{d:D}
theorem Rel.give(h:Rel K B env σ H)(e:env[i]?=some (.own d)):∃v,σ[i]?=some (some v)∧Rel K B (env.set i .no++[.own d]) (σ++[some v]) H:=by
 obtain⟨A,a,b⟩:=h
 obtain⟨y,A1,C,h1,h2,h3,h4,k⟩:=a.focus e
 obtain⟨v,rfl,o⟩:=h4
 have eA:A=dY A1 C:=funext λx=>propext (h3 x)
 subst eA
 have s:=k _ (λ_ _ _ _ q=>q) .no (some v) nil (λ_ z=>z.elim) (λ_ z=>z)
 rw[set_same h1]at s
 have s2:=cN.snoc (d:=SD.own d) (y:=some v) (A1:=A1) s ⟨v,rfl,o⟩ (λx q q'=>q.elim False.elim (h2 x q'))
 have RK:(dY (dY nil C) A1)=dY A1 C:=funext λx=>propext ⟨λq=>q.elim (λq=>q.elim False.elim .inr) .inl,λq=>q.elim .inr λq=>.inl (.inr q)⟩
 rw[RK]at s2
 exact⟨v,h1,_,s2,b⟩
end
def Lx:GS:=λ_=>.bad
theorem yI{K:aA}{X:Cx}{st:Stmt}:YS K X st Jk Lx:=⟨Jl,λ_ _ _ _ _ _ p=>p.elim⟩
section
variable{K:aA}{X:Cx}{st:Stmt}{sts:List Stmt}{t u tb:TS}{g g1 g2:GS}{e a b c o:Expr}{es:List Expr}{te ta t0 tv:TE}{f f0 fa fb:FE}{gk:FE}{tA:TA}{fs:FA}{tc:TT}{fc:FT}{pos apos:Pos}{i:Nat}{π:FP}
structure RL(K:aA)(C:Addr)(nm:List Str):Prop where
 cl:FW K C
 no:∀f∈nm,Vs K C f
end
section
variable{K:aA}{B H:Hp}{env:EN}{σ:St}
end
section
variable{K:aA}{X:Cx}{st:Stmt}{sts:List Stmt}{t u tb:TS}{g g1 g2:GS}{e a b c o:Expr}{es:List Expr}{te ta t0 tv:TE}{f f0 fa fb:FE}{gk:FE}{tA:TA}{fs:FA}{tc:TT}{fc:FT}{pos apos:Pos}{i:Nat}{π:FP}
end
end L2


namespace L2
open PySem PySem.Spec PySem.Calls PyProof.Rows PyProof.V
section
variable{K:aA}{B H H':Hp}{env:EN}{σ:St}{i:Nat}{p:List Step}{d0 d:D}
end
abbrev GM:=EN→Option (D×EN)
def RM(K:aA)(t:TE)(g:GM):Prop:=∀(B:Hp)(σ:St)(H:Hp)(env:EN)(d:D)(env':EN)(Q:VK),Rel K B env σ H→g env=some (d,env')→(∀v H',Rel K B (env'++[.own d]) (σ++[some v]) H'→Q v H')→t σ H Q
structure XM(K:aA)(X:Cx)(e:Expr)(t:TE)(g:GM):Prop where
 hk:X.K=K
 pe:PE X e t
 ev:RM K t g
abbrev GB:=EN→Option (Bool×EN)
def CJ(K:aA)(t:TT)(g:GB):Prop:=∀(B:Hp)(σ:St)(H:Hp)(env:EN)(b:Bool)(env':EN)(Q:Bool→Hp→Prop),Rel K B env σ H→g env=some (b,env')→(∀H',Rel K B env' σ H'→Q b H')→t σ H Q
structure TX(K:aA)(X:Cx)(e:Expr)(t:TT)(g:GB):Prop where
 hk:X.K=K
 pt:PT X e t
 ev:CJ K t g
structure TY(K:aA)(X:Cx)(e:Expr)(t:TT)(g:GB):Prop where
 hk:X.K=K
 pw:PW X e t
 ev:CJ K t g
abbrev FA2:=DE→DE→Option (List D)
def JN(K:aA)(t:TA)(fs:FA2):Prop:=∀(A1:Fp)(σ:St)(H:Hp)(eF eZ:DE)(ds:List D)(Q:List V→Hp→Prop),(∀x,A1 x→mZ H x)→oW K H eF σ→oW K (out H A1) eZ σ→fs eF eZ=some ds →
 (∀vs H',aH H H'→bG K (out H' A1) ds vs→Q vs H')→t σ H Q
structure UG(K:aA)(X:Cx)(es:List Expr)(t:TA)(fs:FA2):Prop where
 hk:X.K=K
 pa:PA X es t
 ev:JN K t fs
section
variable{K:aA}{X:Cx}{st:Stmt}{sts:List Stmt}{t u tb:TS}{g:GM}{g1 g2:GS}{e a b c o:Expr}{es rest:List Expr}{te ta t0 tv:TE}{f f0 fa fb:FE}{tA:TA}{fs:FA2}{tc td:TT}{fc:FT}{gb gc:GB}{pos apos:Pos}{i:Nat}{π:FP}
structure RN(P:Program)(w:World)(K:aA)(mg:Str→Option Value)(base:Heap)(C:Addr)(m:Str)(k n:Nat)(df:Bool)(sp:Sp):Prop where
 ex:∃f fd ps,ps.length=n∧rG P w K mg base Jd k f fd ps sp∧Binds K fd ps []∧(df=true→Binds K fd ps [Value.none])∧Meth K C m f
structure RP(P:Program)(w:World)(K:aA)(mg:Str→Option Value)(base:Heap)(x:Str)(C:Addr)(k n:Nat)(sp:Sp):Prop where
 ex:∃f fd ps,ps.length=n∧rG P w K mg base Jd k f fd ps sp∧Binds K fd ps []∧Mk K C f∧mg x=some (.ref C)
end
end L2


namespace L2
open PySem PySem.Spec PySem.Calls PyProof.Rows PyProof.V
def JP(K:aA)(dN:Bool)(dV:Value):Prop:=match dN with
 | false=>dV=.none
 | true=>∃T o n,dV=.ref T∧K.lookup T=some o∧o.data=.seq #[.none] n
structure CK(K:aA)(f:Addr)(m q:Str)(st:Stmt)(dN:Bool):Prop where
 ex:∃(oc:Value)(od:Option Addr)(dV kV doc pm:Value)(an:Option Addr)(cdv ct:Value)(osl:Array (Option Value)),
  K.lookup f=some ⟨oc,od,.func (E2 m q (cW st) (bN st) (aF st) dV kV doc pm an cdv ct),osl⟩∧J1 K cdv q=true∧JP K dN dV
structure RQ(K:aA)(C:Addr)(m q:Str)(st:Stmt)(dN:Bool):Prop where
 ex:∃f,CK K f m q st dN∧Meth K C m f
structure RT(K:aA)(mg:Str→Option Value)(x:Str)(C:Addr)(q:Str)(st:Stmt):Prop where
 ex:∃f,CK K f "__init__" q st false∧Mk K C f∧mg x=some (.ref C)
def HB(x q:Str)(st:Stmt)(ps:List Str):Prop:=∀(kV doc pm:Value)(an:Option Addr)(cdv ct:Value)(us:List Value),us.length=ps.length→bindArgs (E2 x q (cW st) (bN st) (aF st) .none kV doc pm an cdv ct) ⟨us,[]⟩=pure (ps.zip us)
def RV(x q:Str)(st:Stmt)(ps:List Str):Prop:=∀(T:Addr)(kV doc pm:Value)(an:Option Addr)(cdv ct:Value)(us:List Value),(us.length=ps.length→∃k,bindArgs (E2 x q (cW st) (bN st) (aF st) (.ref T) kV doc pm an cdv ct) ⟨us,[]⟩=seqItems? (Value.ref T) >>= k∧k (some #[Value.none])=pure (ps.zip us)) ∧
 (us.length+1=ps.length→∃k,bindArgs (E2 x q (cW st) (bN st) (aF st) (.ref T) kV doc pm an cdv ct) ⟨us,[]⟩=seqItems? (Value.ref T) >>= k∧k (some #[Value.none])=pure (ps.zip (us++[Value.none])))
def UJ(dN:Bool)(x q:Str)(st:Stmt)(ps:List Str):Prop:=match dN with
 | false=>HB x q st ps
 | true=>RV x q st ps
section
variable{P:Program}{w:World}{K:aA}{mg:Str→Option Value}{base:Heap}
end
section
variable{K:aA}{X:Cx}{st:Stmt}{g g1 g2 gb:GS}{e a b c o:Expr}{es rest:List Expr}{te ta tb tc t0 tv:TE}{f f0 fa fb fc:FE}{tA:TA}{fs:FA}{pos apos:Pos}{i j:Nat}{π:FP}{PB:TS}
def Dq(φ φ':D→D→Option D)(f g h:FE):FT:=λe=>(f e).bind λa=>(g e).bind λb=>(φ a b).bind λr=>match r with
  | .bl true=>(h e).bind λc=>(φ' b c).bind λr2=>match r2 with | .bl k=>some k | _=>none
  | .bl false=>some false
  | _=>none
theorem Ax{op op':CmpOp}{r r':R2}{φ φ':D→D→Option D}(ho:jC X (compareOp op) r)(ho':jC X (compareOp op') r')(hd:Dc K r φ)(hd':Dc K r' φ')(ha:XR K X a ta fa)(hb:XR K X b tb fb)(hc:XR K X c tc fc)(hm:lastMarks [op,op'] [b,c]=false:=by with_unfolding_all rfl):XT K X (.Compare a [op,op'] [b,c] pos) (zV (wV r r' ta tb tc)) (Dq φ φ' fa fb fc):=⟨ha.hk,Ju ho ho' ha.pe hb.pe hc.pe hm,λσ H e k Q re q kk=>by
 obtain⟨d1,q1,q⟩:=aP q
 obtain⟨d2,q2,q⟩:=aP q
 obtain⟨d3,q3,q⟩:=aP q
 refine ha.ev σ H H e d1 _ (Zn.self K H) re q1 λx H1 Z1 s1 t1 z1 rx=>hb.ev σ H1 H1 e d2 _ (Zn.self K H1) (re.same s1) q2 λy H2 Z2 s2 t2 z2 ry=>?_
 refine hd x y H2 d1 d2 d3 _ (s2.rv _ _ (z1.sm.rv _ _ rx)) (z2.sm.rv _ _ ry) q3 λz H3 s3 n=>?_
 have rz:=n.rv
 split at q
 ·obtain⟨d4,q4,q⟩:=aP q
  obtain⟨d5,q5,q⟩:=aP q
  unfold Rv at rz
  refine⟨true,rz,?_⟩
  rw[if_pos rfl]
  refine hc.ev σ H3 H3 e d4 _ (Zn.self K H3) (re.same (s1.trans (s2.trans s3))) q4 λw H4 Z4 s4 t4 z4 Vz=>?_
  refine hd' y w H4 d2 d4 d5 _ ((s3.trans s4).rv _ _ (z2.sm.rv _ _ ry)) (z4.sm.rv _ _ Vz) q5 λv H5 s5 n5=>?_
  have r5:=n5.rv
  split at q
  ·cases q
   unfold Rv at r5
   exact⟨_,r5,kk H5 (s1.trans (s2.trans (s3.trans (s4.trans s5))))⟩
  ·cases q
 ·cases q
  unfold Rv at rz
  refine⟨false,rz,?_⟩
  rw[if_neg (by decide)]
  exact⟨_,rfl,kk H3 (s1.trans (s2.trans s3))⟩
 ·cases q⟩
end
end L2


namespace L2
open PySem PySem.Spec PySem.Calls PyProof.Rows PyProof.V
section
variable{K:aA}{B H:Hp}{env:EN}{σ:St}
end
abbrev FK:=DE→Option (List Key)
def RW(K:aA)(t:TE)(fk:FK):Prop:=∀(σ:St)(H:Hp)(e:DE)(k:List Key)(Q:VK),oW K H e σ→fk e=some k→(∀b H',aH H H'→H' b=some (.tup (k.map kV))→Q (.ref b) H')→t σ H Q
structure UL(K:aA)(X:Cx)(e:Expr)(t:TE)(fk:FK):Prop where
 hk:X.K=K
 pe:PE X e t
 ev:RW K t fk
section
variable{K:aA}{X:Cx}{st:Stmt}{e a b c o:Expr}{es rest:List Expr}{te ta tb tc t0 tv:TE}{f fa fb:FE}{g:FK}{gd:FE}{tA:TA}{fs:FA}{pos apos:Pos}{i j:Nat}{π:FP}{PB:TS}
def JQ(K:aA)(t:TA)(fs:FA)(i:Nat):Prop:=∀(σ:St)(H:Hp)(e:DE)(ds:List D)(v:V)(Q:List V→Hp→Prop),oW K H e σ→fs e=some ds→σ[i]?=some (some v)→(∀vs H',aH H H'→xP K H H' ds vs→Q (vs++[v]) H')→t σ H Q
structure UT(K:aA)(X:Cx)(es:List Expr)(t:TA)(fs:FA)(i:Nat):Prop where
 hk:X.K=K
 pa:PA X es t
 ev:JQ K t fs i
end
end L2


namespace L2
open PySem PySem.Spec PySem.Calls PyProof.Rows PyProof.V
section
variable{K:aA}{X:Cx}{st:Stmt}{e a b c o:Expr}{es rest:List Expr}{te ta tb tc t0 tv:TE}{f fa fb g:FE}{gk:FK}{gd:FE}{tA:TA}{fs:FA}{pos apos:Pos}{i j:Nat}{π:FP}{PB:TS}{gm:GM}
end
end L2
namespace L2
open PySem PySem.Spec PySem.Calls PyProof.Rows PyProof.V
end L2


namespace L2
open PySem PySem.Spec PySem.Calls PyProof.Rows PyProof.V
section
variable{K:aA}{X:Cx}{e stx:Expr}{te ts:TE}{f g:FE}{pos p2:Pos}
end
end L2


namespace L2
open PySem PySem.Spec PySem.Calls PyProof.Rows PyProof.V
abbrev FE2:=DE→DE→Option D
def RX(K:aA)(t:TE)(f:FE2):Prop:=∀{N:Fp}(σ:St)(H Z:Hp)(eF eZ:DE)(d:D)(Q:VK),Zn K N Z H→oW K H eF σ→oW K Z eZ σ→f eF eZ=some d →
 (∀v H' Z',aH H H'→aH Z Z'→Zn K N Z' H'→Rv K Z' d v→Q v H')→t σ H Q
def JR(K:aA)(t:TA)(f:FA2):Prop:=∀{N:Fp}(σ:St)(H Z:Hp)(eF eZ:DE)(ds:List D)(Q:List V→Hp→Prop),Zn K N Z H→oW K H eF σ→oW K Z eZ σ→f eF eZ=some ds →
 (∀vs H' Z',aH H H'→aH Z Z'→Zn K N Z' H'→bG K Z' ds vs→Q vs H')→t σ H Q
structure XZ(K:aA)(X:Cx)(e:Expr)(t:TE)(f:FE2):Prop where
 hk:X.K=K
 pe:PE X e t
 ev:RX K t f
structure UW(K:aA)(X:Cx)(es:List Expr)(t:TA)(f:FA2):Prop where
 hk:X.K=K
 pa:PA X es t
 ev:JR K t f
section
variable{K:aA}{X:Cx}{e a b:Expr}{es:List Expr}{te ta tb:TE}{f:FE}{g h:FE2}{tA:TA}{fs:FA2}{pos:Pos}{i:Nat}
end
end L2


namespace L2
open PySem PySem.Spec PySem.Calls PyProof.Rows PyProof.V
inductive Ar where
  | ch (i:Nat) | rd (f:FE) | nw (f:FE)
def GJ:List Ar→List Nat
 | []=>[]
 | .ch i::as=>i::GJ as
 | .rd _::as=>GJ as
 | .nw _::as=>GJ as
def GK:List Ar→DE→DE→Option (List D)
 | [],_,_=>some []
 | .ch _::as,eF,eZ=>GK as eF eZ
 | .rd f::as,eF,eZ=>(f eZ).bind λd=>(GK as eF eZ).map λr=>d::r
 | .nw f::as,eF,eZ=>(f eF).bind λd=>(GK as eF eZ).map λr=>d::r
def Fx(K:aA)(Z:Hp)(σ:St):List Ar→List D→List V→Prop
 | [],ds,vs=>ds=[]∧vs=[]
 | .ch i::as,ds,vs=>∃v r,vs=v::r∧σ[i]?=some (some v)∧Fx K Z σ as ds r
 | .rd _::as,ds,vs=>∃d dr v r,ds=d::dr∧vs=v::r∧Rv K Z d v∧Fx K Z σ as dr r
 | .nw _::as,ds,vs=>∃d dr v r,ds=d::dr∧vs=v::r∧Rv K Z d v∧Fx K Z σ as dr r
def PJ(σ:St):List Nat→List V→Prop
 | [],vs=>vs=[]
 | j::js,vs=>∃v r,vs=v::r∧σ[j]?=some (some v)∧PJ σ js r
section
variable{K:aA}{X:Cx}{e:Expr}{es:List Expr}{te:TE}{f:FE}{tA:TA}{as:List Ar}{pos:Pos}{i:Nat}
def JS(K:aA)(t:TA)(as:List Ar):Prop:=∀(A1:Fp)(σ:St)(H:Hp)(eF eZ:DE)(ds:List D)(cv:List V)(Q:List V→Hp→Prop),(∀x,A1 x→mZ H x)→oW K H eF σ→oW K (out H A1) eZ σ→PJ σ (GJ as) cv→GK as eF eZ=some ds →
 (∀vs H',aH H H'→Fx K (out H' A1) σ as ds vs→Q vs H')→t σ H Q
structure VB(K:aA)(X:Cx)(es:List Expr)(t:TA)(as:List Ar):Prop where
 hk:X.K=K
 pa:PA X es t
 ev:JS K t as
end
section
variable{K:aA}{H H' Z Z' B:Hp}{σ:St}
end
section
variable{K:aA}{X:Cx}{e:Expr}{es:List Expr}{tA:TA}{as:List Ar}{pos pf:Pos}
end
section
variable{P:Program}{w:World}{K:aA}{mg:Str→Option Value}{base:Heap}
end
section
variable{K:aA}{X:Cx}{a b:Expr}{rest:List Expr}{ta tb:TE}{g h:GM}{f:FE}{pos:Pos}
end
end L2


namespace L2
open PySem PySem.Spec PySem.Calls PyProof.Rows PyProof.V
section
variable{prog:Program}{w:World}{A:Around}{R:Result→Shared→Prop}{I:Addr}{fp wr:List Addr}{n:Nat}{P:Nat→Value→Prop}{St:Nat→Heap→Prop}{kw:List (Str×Value)}
end
section
variable{prog:Program}{w:World}{A:Around}{E:Value→Shared→Prop}{s:Shared}
end
section
variable{K:aA}{X:Cx}{e e2:Expr}{te t2:TE}{f g:FE}{x:Str}{p pos kp:Pos}
end
end L2


namespace L2
open PySem PySem.Spec PySem.Calls PyProof.Rows PyProof.V
section
variable{X:Cx}
end
section
variable{K:aA}{X:Cx}{a b e:Expr}{ta tb te:TE}{f g:FE}{i:Nat}{π:FP}{pos apos cpos:Pos}{m:Str}
end
end L2


namespace L2
open PySem PySem.Spec PySem.Calls PyProof.Rows PyProof.V
def Xh(ks:List Key)(vs:List V):List (V×V):=(ks.zip vs).map λkv=>(kV kv.1,kv.2)
def JT(K:aA)(t:List (TE×TE))(ks:List Key)(is:List Nat)(fs:FA):Prop:=∀(σ:St)(H:Hp)(e:DE)(ds:List D)(xs:List V)(Q:List (V×V)→Hp→Prop),oW K H e σ→fs e=some ds→xs.length=is.length →
 (∀(k i:Nat),is[k]?=some i→∃x,xs[k]?=some x∧σ[i]?=some (some x))→(∀vs H',aH H H'→xP K H H' ds vs→Q (Xh ks (xs++vs)) H')→Cp t σ H Q
structure VD(K:aA)(X:Cx)(p:Pos)(keys:List (Option Expr))(vals:List Expr)(t:List (TE×TE))(ks:List Key)(is:List Nat)(fs:FA):Prop where
 hk:X.K=K
 VF:QF X p keys vals t
 ev:JT K t ks is fs
section
variable{K:aA}{X:Cx}{st:Stmt}{e:Expr}{vals:List Expr}{keys:List (Option Expr)}{te:TE}{f:FE}{fs:FA}{pos p p1:Pos}{i j:Nat}{t:List (TE×TE)}{ks:List Key}{is:List Nat}{x:Str}
end
section
variable{X:Cx}{K:aA}{x y:Str}{p p2 pos pos2:Pos}{a b:Expr}{t:TA}{fs:FA}
end
end L2


namespace L2
open PySem PySem.Spec PySem.Calls PyProof.Rows PyProof.V
section
variable{K:aA}{X:Cx}{a e:Expr}{ta te:TE}{f:FE}{π:FP}{i:Nat}{m:Str}{apos cpos pos:Pos}
end
end L2


namespace L2
open PySem PySem.Spec PySem.Calls PyProof.Rows PyProof.V
section
variable{K:aA}{X:Cx}{a b e:Expr}{es:List Expr}{ta tb te t:TE}{f g:FE}{tA:TA}{fs:FA}{pos apos cpos p2:Pos}{m:Str}
def PK(a b:D):Option D:=match a,b with
 | .str x,.str y=>if x.length+y.length≤100000 then some (.str (x++y))else none
 | _,_=>none
def Ly(x y:Str):Bool:=!(Builtin.Str.occurrences x y 0 x.length 1).isEmpty
def Lz(a b:D):Option D:=match a,b with
 | .str y,.str x=>some (.bl (Ly x y))
 | _,_=>none
def CN:R2:=λx y H Q=>∃i j,x=.str i∧y=.str j∧Q (.bl (!(Builtin.Str.occurrences j i 0 j.length 1).isEmpty)) H
theorem Xi:Dc K CN Lz:=λx y H a b d Q ra rb q k=>by
 unfold Lz at q
 split at q
 ·cases q
  unfold Rv at ra rb
  exact⟨_,_,ra,rb,k _ H (aH.refl _) (.cY rfl (by unfold Rv Ly;rfl))⟩
 ·cases q
theorem Xj:jC X (compareOp .In) CN:=Hi
def Ie(a b:D):Option D:=match a,b with
 | .str x,.int i=>if x.length≤100000 then(Aa x.cps.toList i).map λc=>.str ⟨#[c]⟩else none
 | _,_=>none
theorem Xk(ha:XR K X a ta f)(hb:XR K X b tb g)(hs:qW b):XN K X (.Subscript a b pos) (zM Vy ta tb) (f2 Ie f g):=
 ⟨ha.hk,Jy Jz ha.pe hb.pe hs,Ff (λx y H a b d Q ra rb q k=>by
  unfold Ie at q
  split at q
  ·split at q
   ·rename_i c
    obtain⟨u,q1,rfl⟩:=iG q
    unfold Rv at ra rb
    exact⟨_,_,u,ra,rb,gR c,q1,k _ H (aH.refl _) (.cY rfl (by unfold Rv;rfl))⟩
   ·cases q
  ·cases q) ha.ev hb.ev⟩
def vX:List D→Option D
 | [.str x]=>if x.length≤100000 then some (.int x.length)else none
 | _=>none
theorem Qy:mU K (λxs H Q=>∃z,xs=[.str z]∧z.length≤sizeLine∧Q (.int z.length) H) vX:=λvs H ds d Q rs q k=>by
 unfold vX at q
 split at q
 ·split at q
  ·rename_i c
   cases q
   obtain⟨v,rfl,r⟩:=jH rs
   unfold Rv at r
   subst r
   exact⟨_,rfl,gR c,k _ H (aH.refl _) (.cY rfl (by unfold Rv;rfl))⟩
  ·cases q
 ·cases q
def yJ(i:Int):Str:=J8 (toString i)
def vY:List D→Option D
 | [.int i]=>if i.natAbs.log2<1920 then some (.str (yJ i))else none
 | _=>none
theorem Fy:mU K (λxs H Q=>∃i,xs=[.int i]∧i.natAbs.log2<1920∧Q (.str (toString i)) H) vY:=λvs H ds d Q rs q k=>by
 unfold vY at q
 split at q
 ·split at q
  ·rename_i c
   cases q
   obtain⟨v,rfl,r⟩:=jH rs
   unfold Rv at r
   subst r
   exact⟨_,rfl,c,k _ H (aH.refl _) (.cY rfl (by unfold Rv yJ;rfl))⟩
  ·cases q
 ·cases q
noncomputable def Ma:List D→Option D
 | [.str x]=>if x.length≤640 then(J2 x).map .int else none
 | _=>none
def Uh:List V→Hp→VK→Prop:=λxs H Q=>∃x n,xs=[.str x]∧J2 x=some n∧x.length≤640∧Q (.int n) H
theorem Qz:eO X (.type "int") Uh:=by
 intro pins s σ H xs us Q I r h
 obtain⟨x,n,rfl,hn,hl,q⟩:=h
 obtain⟨u,rfl,t,rfl⟩:=vals1 r
 exact PySem.W.KIN.call_text hn hl ⟨.int n,H,I.tok _,⟨_,rfl⟩,q⟩
theorem Ra:mU K Uh Ma:=λvs H ds d Q rs q k=>by
 unfold Ma at q
 split at q
 ·split at q
  ·rename_i c
   obtain⟨n,q1,rfl⟩:=iG q
   obtain⟨v,rfl,r⟩:=jH rs
   unfold Rv at r
   subst r
   exact⟨_,n,rfl,q1,c,k _ H (aH.refl _) (.cY rfl (by unfold Rv;rfl))⟩
  ·cases q
 ·cases q
theorem Ay:C8 K (.type "str") (.type "str")=some true:=by with_unfolding_all rfl
def Dr(f:FE):FE:=λe=>(f e).bind λd=>match d with | .str _=>some (.bl true) | _=>none
def CP(K:aA):List V→Hp→VK→Prop:=λxs H Q=>∃x,xs=[.str x,.ty "str"]∧Q (.bl true) H
theorem Xl:eO X (.builtin "isinstance") (CP K):=by
 intro pins s σ H xs us Q I r h
 obtain⟨x,rfl,q⟩:=h
 obtain⟨u,w',rfl,rx,rt⟩:=vals2 r
 cases rt
 exact oY I rx (.str x) Ay λtk=>⟨.bl true,H,I.tok _,rfl,q⟩
theorem Ds{p:Pos}{eT:Expr}(h:XR K X e t f)(hT:PE X eT (tC (.ty "str"))) (hg:Gl X "isinstance") (hm:X.mg "isinstance" = none) (hst:starEach (e::[eT]) X.env=(false,eval e X.env)::starEach [eT] X.env:=by rfl) (hst2:starEach [eT] X.env=(false,eval eT X.env)::starEach [] X.env:=by rfl)
  (hpl:(backTo pos (starEach [eT] X.env)).any (·.1)=false:=by rfl):XN K X (.Call (.Name "isinstance" p) [e,eT] [] pos) (Vx (CP K) (dD t (dD (tC (.ty "str")) jD))) (Dr f):=
 ⟨h.hk,rH Xl hg hm L3 (bD h.pe (bD hT cB hst2) hst) (by decide) (by decide) hst hpl,λσ H e d Q re q k=>by
  unfold Dr at q
  obtain⟨d0,q1,q2⟩:=aP q
  split at q2
  ·cases q2
   refine h.ev σ H H e _ _ (Zn.self K H) re q1 λv H1 Z1 s1 t1 z1 rv=>?_
   unfold Rv at rv
   subst rv
   exact⟨_,rfl,k _ H1 s1 (.cY rfl (by unfold Rv;rfl))⟩
  ·cases q2⟩
structure fO(mg:Str→Option Value)(x:Str)(i:Str):Prop where
 ex:∃t,mg x=some (.str i t)
theorem iM{K:aA}{h:Heap}{mg:Str→Option Value}{x:Str}{i:Str}{t:Tok}(X:K.In h)(G:h.Ns mainGlobals mg)(a:K9 K mainGlobals x=some (some (.str i t))):fO mg x i:=⟨t,L7 X G a⟩
theorem mX{x:Str}{i:Str}(G:fO X.mg x i)(hg:Gl X x)(hd:(x==("__debug__" : Str))=false:=by decide) (hk:X.K=K:=by rfl):XN K X (.Name x pos) (tC (.str i)) (fC (.str i)):=by
 obtain⟨t,h⟩:=G.ex
 exact⟨hk,wU hg h ⟨t,rfl⟩ hd,Kv i⟩
def Dt:V→List V→Hp→VK→Prop:=λx vs H Q=>∃z y,x=.str z∧vs=[.str y]∧Q (.bl (Txt.startswith z y)) H
theorem Mf:Zj X "str.startswith" Dt:=by
 intro pins s σ H x vs v us Q I rx rv h
 obtain⟨z,y,rfl,rfl,q⟩:=h
 obtain⟨t,rfl⟩:=rx
 obtain⟨u,rfl,ru⟩:=rv.one
 obtain⟨t',rfl⟩:=ru
 exact PySem.SC.startswith ⟨.bl _,H,I,rfl,q⟩
def yK(a b:D):Option D:=match a,b with
 | .str x,.str y=>some (.bl (Txt.startswith x y))
 | _,_=>none
theorem Mg(ha:XR K X a ta f)(hb:XR K X b tb g)(hp:PE X a ta→PE X b tb→PE X (.Call (.Attribute a m apos) [b] [] cpos) (Hq X.K "str" Dt ta (dD tb jD))):XN K X (.Call (.Attribute a m apos) [b] [] cpos) (Hq X.K "str" Dt ta (dD tb jD)) (f2 yK f g):=
 ⟨ha.hk,hp ha.pe hb.pe,λσ H e d Q re q k=>by
  obtain⟨x,y,q1,q2,q3⟩:=nU q
  unfold yK at q3
  split at q3
  ·cases q3
   refine ha.ev σ H H e _ _ (Zn.self K H) re q1 λv H1 Z1 s1 t1 z1 rx=>?_
   unfold Rv at rx
   subst rx
   refine⟨rfl,hb.ev σ H1 H1 e _ _ (Zn.self K H1) (re.same s1) q2 λv' H2 Z2 s2 t2 z2 ry=>?_⟩
   unfold Rv at ry
   subst ry
   exact⟨_,_,rfl,rfl,k _ H2 (s1.trans s2) (.cY rfl (by unfold Rv;rfl))⟩
  ·cases q3⟩
def CQ:V→Option Int→Option Int→Hp→VK→Prop:=λx lo hi H Q=>∃z,x=.str z∧lo=some 1∧hi=none∧1≤z.length∧z.length≤sizeLine∧Q (.str ⟨(z.cps.toList.drop 1).toArray⟩) H
theorem Xm(n:Nat):Builtin.Str.strSliceIndices (some 1) none 1 n=Builtin.Str.strSliceIndices (some ((1:Nat):Int)) (some (n:Int)) 1 n:=by
 have h2:¬((n:Int)<0):=by omega
 have e2:max (0:Int) (min (n:Int) (n:Int))=n:=by omega
 simp only[Builtin.Str.strSliceIndices,h2,if_false,e2,show ((1:Int) > 0)=True from by simp,if_true]
 rfl
theorem Xn:FZ X CQ:=by
 intro pins s σ H x v vl vu lo hi sl Q I rx hs pl pu h
 obtain⟨z,rfl,rfl,rfl,h1,hz,q⟩:=h
 obtain⟨t,rfl⟩:=rx
 cases pl with
 | int i t'=>
  cases pu
  have Ui:slicePicked z (some (1,t')) none none=(E9 (z.length-1)).map (λk=>1+k):=by
   unfold slicePicked
   show Builtin.Str.strSliceIndices (some 1) none 1 z.length=_
   rw[Xm,StrLaws.strSliceIndices_plain h1 (B7 _)]
  have hm:sliceMade z t (some (1,t')) none none=.str ⟨(z.cps.toList.drop 1).toArray⟩:=by
   unfold sliceMade
   rw[if_neg]
   ·congr 1
    have e:slicePicked z (some (1,t')) none none=Builtin.Str.strSliceIndices (some ((1:Nat):Int)) (some (z.length:Int)) 1 z.length:=by
     rw[Ui,StrLaws.strSliceIndices_plain h1 (B7 _)]
    rw[e,StrLaws.sliced_plain z h1 (B7 _),List.take_of_length_le]
    rw[M8]
    exact B7 _
   ·rw[Ui]
    simp
    omega
  refine⟨"str", _,F.slot_str_getitem.lookup,typeIs_str _ _ _,wpAny_getItem_str_slice (l:=some (1,t')) (u:=none) (st:=none) hs rfl ?_⟩
  rw[hm]
  refine⟨?_,.str _,H,I.tok _,⟨_,rfl⟩,q⟩
  show (z.cps.toList.drop 1).toArray.size≤sizeLine
  rw[B3,M8]
  have:z.cps.toList.length=z.length:=G8
  omega
def Rb(d:D)(lo hi:Option Int):Option D:=match d with
 | .str z=>if lo=some 1∧hi=none∧1≤z.length∧z.length≤100000 then some (.str ⟨(z.cps.toList.drop 1).toArray⟩)else none
 | _=>none
def Rc(f:FE)(fl fh:FO):FE:=λe=>(f e).bind λd=>(fl e).bind λlo=>(fh e).bind λhi=>Rb d lo hi
theorem Xo{lo hi:Option Expr}{tl th:TO}{fl fh:FO}(h:XR K X e t f)(hl:XO K X lo tl fl)(hu:XO K X hi th fh):XN K X (.Subscript e (.Slice lo hi none p2) pos) (IK CQ t tl th) (Rc f fl fh):=⟨h.hk,zY Xn h.pe hl.po hu.po,λσ H e d Q re q k=>by
 unfold Rc at q
 obtain⟨d0,q1,qa⟩:=aP q
 obtain⟨lo,q2,qb⟩:=aP qa
 obtain⟨hi,q3,qc⟩:=aP qb
 clear q qa qb
 unfold Rb at qc
 split at qc
 ·split at qc
  ·rename_i c
   cases qc
   refine h.ev σ H H e _ _ (Zn.self K H) re q1 λv H1 Z1 s1 t1 z1 rv=>hl.ev σ H1 e lo _ (re.same s1) q2 λH2 s2=>hu.ev σ H2 e hi _ (re.same (s1.trans s2)) q3 λH3 s3=>?_
   unfold Rv at rv
   subst rv
   exact⟨_,rfl,c.1,c.2.1,c.2.2.1,gR c.2.2.2,k _ H3 (s1.trans (s2.trans s3)) (.cY rfl (by unfold Rv;rfl))⟩
  ·cases qc
 ·cases qc⟩
def Uj(i j:Int):Prop:=0<j∧j.natAbs.log2<9000
instance:∀i j,Decidable (Uj i j):=λi j=>by unfold Uj;exact inferInstance
end
def JV(x:Str):It:=⟨λi _=>i<x.cps.size,λi H v H'=>H'=H∧∃c,x.cps[i]?=some c∧v=.str ⟨#[c]⟩,λi _=>x.cps.size≤i⟩
section
variable{P:Program}{w:World}{K:aA}{tg:Expr}
theorem Az{it:Addr}{ty:String}{x:Str}{t:Tok}(W:∀A:Around,A.handled=none→Walks P w A it [it] [it] x.cps.size (SignAt x) (λi h=>h.IsStrIter it ty x t i))
  (hn:["enumerate", "zip", "dict_itemiterator", "dict_reverseitemiterator", "odict_iterator", "itertools.zip_longest", "itertools.pairwise"].contains ty=false)
  (hd:∀(A:Around)(s:Shared)(i:Nat)(Q:Option Value→Shared→Prop)(E:Value→Shared→Prop),A.handled=none→s.heap.IsStrIter it ty x t i→x.cps[i]?=none→(∀h',Heap.ExtBut it s.heap h'→Q none {s with heap:=h'})→wpAny (model P w) A (pyNext (.ref it)) Q E s)
  (hs:∀(A:Around)(i:Nat)(s:Shared)(Q:Value→Shared→Prop)(E:Value→Shared→Prop),s.heap.IsStrIter it ty x t i→Q (.ref it) s→wpAny (model P w) A (pyIter (.ref it)) Q E s):Turn P w K tg (JV x) [it] it (λi h=>h.IsStrIter it ty x t i) where
 mem:=by simp
 obj:=λi h st b hb=>by
  have e:b=it:=by simpa using hb
  subst e
  obtain⟨o,e,c,d⟩:=st
  exact⟨o,e,λv z=>by rw[d]at z;cases z⟩
 keep:=λi h h' st k=>let ⟨o,ho,r⟩:=st;⟨o,k it (by simp) o ho,r⟩
 item:=by
  intro X hP hw hK hc i pins s σ H E I hf st hg
  subst hP hw hK
  obtain⟨f0,f1,f2,f3,f4,f5⟩:=hf it (by simp)
  refine(W X.A (I.ok.hd hc)).item i s _ _ hg st λv h' tk hv st' kk=>?_
  obtain⟨c,u,hx,rfl⟩:=hv
  have I1:Inv X pins σ H {s with heap:=h',toks:=tk}:=I.turned (λb o hb e=>kk b o (by simpa using hb) e) f0 f1 f3 f4 f5
  obtain⟨o,e,c',d⟩:=id st'
  exact⟨_,rfl,Eu (s:={s with heap:=h',toks:=tk}) e c' d hn ⟨.str ⟨#[c]⟩,H,I1,⟨u,rfl⟩,⟨rfl,c,hx,rfl⟩,st',λb hb=>(hf b hb).1⟩⟩
 done:=by
  intro X hP hw hK hc i pins s σ H E I hf st hg
  subst hP hw hK
  obtain⟨f0,f1,f2,f3,f4,f5⟩:=hf it (by simp)
  have hg:x.cps.size≤i:=hg
  exact hd X.A s i _ _ (I.ok.hd hc) st (by simp;omega) λh' eb=>⟨rfl,I.turned (t':=s.toks) (λb o hb e=>eb b o hb e) f0 f1 f3 f4 f5⟩
 self:=λA i s Q E st h=>hs A i s Q E st h
end
section
variable{K:aA}{X:Cx}{tg e l:Expr}{t tl:TE}{f:FE}
def CT(tl:TE):TI:=λσ H R=>tl σ H λx H1=>∃z,x=.str z∧R (JV z) H1
theorem Xp(hl:PE X l tl):PI X tg l (CT tl):=by
 intro pins s σ H R I h
 refine dW (hl pins s σ H _ I h) λv s1 ⟨x,H1,I1,r1,q1⟩=>?_
 obtain⟨z,e,q⟩:=q1
 subst e
 obtain⟨t,rfl⟩:=r1
 have fin:∀b,b∈[s1.heap.objs.size]→uG X pins H1 b:=λb hb=>by
  have e:b=s1.heap.objs.size:=by simpa using hb
  subst e
  exact I1.Ot (B7 _) (I1.hok.fresh (B7 _))
 cases ha:z.cps.all (·<128)
 ·exact wpAny_pyIter_wide ha ⟨s1.heap.objs.size,[s1.heap.objs.size],_,_,H1,rfl,I1.kept (t':=s1.toks) λb o e=>Heap.get?_push_of_some _ e,Az (t:=t) (λA hA=>Walks.strWide hA _ z t) (by decide) (λA s i Q E hh st hx hQ=>wpAny_pyNext_wide_end hh st hx hQ) (λA i s Q E st h=>wpAny_pyIter_striter_wide st h),⟨_,Heap.get?_push_size _ rfl,rfl,rfl⟩,fin,q⟩
 ·exact wpAny_pyIter_ascii ha ⟨s1.heap.objs.size,[s1.heap.objs.size],_,_,H1,rfl,I1.kept (t':=s1.toks) λb o e=>Heap.get?_push_of_some _ e,Az (t:=t) (λA hA=>Walks.strAscii hA _ z t) (by decide) (λA s i Q E hh st hx hQ=>wpAny_pyNext_ascii_end hh st hx hQ) (λA i s Q E st h=>wpAny_pyIter_striter_ascii st h),⟨_,Heap.get?_push_size _ rfl,rfl,rfl⟩,fin,q⟩
def Xq(x:Str):List V:=x.cps.toList.map λc=>V.str ⟨#[c]⟩
def JW(x:Str):List D:=x.cps.toList.map λc=>D.str ⟨#[c]⟩
theorem Rf{x:Str}:Wf (JV x) (λ_=>True) (Xq x):=λi H _=>by
 have hl:(Xq x).length=x.cps.size:=by unfold Xq;rw[B6,G8]
 refine⟨λh=>show i<x.cps.size by omega,λv H' ⟨e,c,hc,hv⟩=>⟨e,λh=>?_⟩,λh=>show x.cps.size≤i by omega⟩
 subst hv
 unfold Xq
 rw[C3,Array.getElem?_toList,hc]
 rfl
theorem Xr{H:Hp}(x:Str):bG K H (JW x) (Xq x):=by
 unfold JW Xq
 refine bG.of (by simp) λi d v h1 h2=>?_
 rw[C3]at h1 h2
 cases q:x.cps.toList[i]? with
 | none=>rw[q]at h1;cases h1
 | some j=>rw[q]at h1 h2;cases h1;cases h2;unfold Rv;rfl
def Mh(f:FE):FA:=λe=>(f e).bind λd=>match d with | .str z=>some (JW z) | _=>none
theorem Xu(h:XR K X e t f):XI K X tg e (CT t) (Mh f):=⟨h.hk,Xp h.pe,λσ H Z e ds R z re q k=>by
 unfold Mh at q
 obtain⟨d,q1,q2⟩:=aP q
 split at q2
 ·rename_i x
  cases q2
  refine h.ev σ H Z e _ _ z re q1 λv H1 Z1 s1 t1 z1 rv=>?_
  unfold Rv at rv
  subst rv
  exact⟨x,rfl,k _ H1 Z1 _ (Xq x) s1 t1 z1 Rf (λ_ _=>trivial) (Xr x)⟩
 ·cases q2⟩
end
end L2


namespace L2
open PySem PySem.Spec PySem.Calls PyProof.Rows PyProof.V
section
variable{K:aA}{X:Cx}{a b c e:Expr}{ta tb tc te t:TE}{f g fa fb fc:FE}{pos apos cpos:Pos}{m:Str}
def Rg(φ φ':D→D→Option D)(f g h:FE):FE:=λe=>(Dq φ φ' f g h e).map .bl
theorem Mi{op op':CmpOp}{r r':R2}{φ φ':D→D→Option D}(ho:jC X (compareOp op) r)(ho':jC X (compareOp op') r')(hd:Dc K r φ)(hd':Dc K r' φ')(ha:XR K X a ta fa)(hb:XR K X b tb fb)(hc:XR K X c tc fc)(hm:lastMarks [op,op'] [b,c]=false:=by with_unfolding_all rfl):XN K X (.Compare a [op,op'] [b,c] pos) (wV r r' ta tb tc) (Rg φ φ' fa fb fc):=⟨ha.hk,Jt ho ho' ha.pe hb.pe hc.pe hm,λσ H e k Q re q kk=>by
 obtain⟨k,q0,rfl⟩:=iG q
 clear q
 obtain⟨d1,q1,q⟩:=aP q0
 clear q0
 obtain⟨d2,q2,q⟩:=aP q
 obtain⟨d3,q3,q⟩:=aP q
 refine ha.ev σ H H e d1 _ (Zn.self K H) re q1 λx H1 Z1 s1 t1 z1 rx=>hb.ev σ H1 H1 e d2 _ (Zn.self K H1) (re.same s1) q2 λy H2 Z2 s2 t2 z2 ry=>?_
 refine hd x y H2 d1 d2 d3 _ (s2.rv _ _ (z1.sm.rv _ _ rx)) (z2.sm.rv _ _ ry) q3 λz H3 s3 n=>?_
 have rz:=n.rv
 split at q
 ·obtain⟨d4,q4,q⟩:=aP q
  obtain⟨d5,q5,q⟩:=aP q
  unfold Rv at rz
  refine⟨true,rz,?_⟩
  rw[if_pos rfl]
  refine hc.ev σ H3 H3 e d4 _ (Zn.self K H3) (re.same (s1.trans (s2.trans s3))) q4 λw H4 Z4 s4 t4 z4 Vz=>?_
  refine hd' y w H4 d2 d4 d5 _ ((s3.trans s4).rv _ _ (z2.sm.rv _ _ ry)) (z4.sm.rv _ _ Vz) q5 λv H5 s5 n5=>?_
  have r5:=n5.rv
  split at q
  ·cases q
   exact kk v H5 (s1.trans (s2.trans (s3.trans (s4.trans s5)))) (.cY rfl r5)
  ·cases q
 ·cases q
  unfold Rv at rz
  refine⟨false,rz,?_⟩
  rw[if_neg (by decide)]
  exact kk _ H3 (s1.trans (s2.trans s3)) (.cY rfl (by unfold Rv;rfl))
 ·cases q⟩
theorem Ba:∀{xs:List Str} {us:List Value},Vals (xs.map V.str) us→∃l:List (Str×Tok),strValues l=us∧l.map (·.1)=xs
 | [],_,.nil=>⟨[],rfl,rfl⟩
 | x::xs,u::us,.cons r rs=>by
  obtain⟨t,rfl⟩:=r
  obtain⟨l,h1,h2⟩:=Ba rs
  exact⟨(x,t)::l,by rw[←h1];rfl,by rw[←h2];rfl⟩
def rJoin(K:aA):V→List V→Hp→VK→Prop:=λx vs H Q=>∃z p xs,x=.str z∧vs=[.ref p]∧iH K H p (xs.map V.str)∧JoinOk z xs=true∧Q (.str (Txt.join z xs)) H
theorem mF:Zj X "str.join" (rJoin X.K):=by
 intro pins s σ H x vs v us Q I rx rv h
 obtain⟨z,p,xs,rfl,rfl,hq,hok,q⟩:=h
 obtain⟨t,rfl⟩:=rx
 obtain⟨u,rfl,ru⟩:=rv.one
 cases ru
 obtain⟨its,r,pl,hz⟩:=I.list hq
 obtain⟨l,h1,h2⟩:=Ba r
 subst h1
 exact PySem.SC.join pl.isList h2 hok λt' k=>⟨.str _,H,I.tok _,⟨_,rfl⟩,q⟩
def strsOf:List D→Option (List Str)
 | []=>some []
 | .str x::ds=>(strsOf ds).map λr=>x::r
 | _::_=>none
theorem sU:∀xs:List Str,strsOf (xs.map D.str)=some xs
 | []=>rfl
 | x::xs=>by rw[C9];unfold strsOf;rw[sU xs];rfl
theorem vZ{H:Hp}:∀{ds:List D} {xs:List Str} {vs:List V},strsOf ds=some xs→bG K H ds vs→vs=xs.map V.str
 | [],xs,vs,h,r=>by unfold strsOf at h;cases h;unfold bG at r;exact r
 | d::ds,xs,vs,h,r=>by
  unfold bG at r
  obtain⟨y,ys,rfl,r1,r2⟩:=r
  unfold strsOf at h
  split at h
  ·rename_i hh;cases hh
  ·rename_i x ds' hh
   cases hh
   obtain⟨l,h1,rfl⟩:=iG h
   unfold Rv at r1
   rw[r1,vZ h1 r2]
   rfl
  ·cases h
def nZ(a b:D):Option D:=match a,b with
 | .str z,.lst ds=>(strsOf ds).bind λxs=>if JoinOk z xs=true then some (.str (Txt.join z xs))else none
 | _,_=>none
theorem mG(ha:XR K X a ta f)(hb:XR K X b tb g)(hp:PE X a ta→PE X b tb→PE X (.Call (.Attribute a m apos) [b] [] cpos) (Hq X.K "str" (rJoin X.K) ta (dD tb jD))):XN K X (.Call (.Attribute a m apos) [b] [] cpos) (Hq X.K "str" (rJoin X.K) ta (dD tb jD)) (f2 nZ f g):=
 ⟨ha.hk,hp ha.pe hb.pe,λσ H e d Q re q k=>by
  have hk:=ha.hk
  obtain⟨x,y,q1,q2,q3⟩:=nU q
  unfold nZ at q3
  split at q3
  ·obtain⟨xs,q4,q5⟩:=aP q3
   split at q5
   ·rename_i hok
    cases q5
    refine ha.ev σ H H e _ _ (Zn.self K H) re q1 λv H1 Z1 s1 t1 z1 rx=>?_
    unfold Rv at rx
    subst rx
    refine⟨rfl,hb.ev σ H1 H1 e _ _ (Zn.self K H1) (re.same s1) q2 λv' H2 Z2 s2 t2 z2 ry=>?_⟩
    have ry:=z2.sm.rv _ _ ry
    unfold Rv at ry
    obtain⟨p,vs,rfl,r2,r3⟩:=ry
    rw[vZ q4 r3]at r2
    subst hk
    exact⟨_,p,xs,rfl,rfl,r2,hok,k _ H2 (s1.trans s2) (.cY rfl (by unfold Rv;rfl))⟩
   ·cases q5
  ·cases q3⟩
theorem Rh(xs:List Str):∀tk:Nat,Vals (xs.map V.str) (strsFrom tk xs):=by
 induction xs with
 | nil=>intro tk;exact .nil
 | cons x xs ih=>intro tk;exact .cons ⟨tk,rfl⟩ (ih (tk+1))
def Du:V→List V→Hp→VK→Prop:=λx vs H Q=>∃z y,x=.str z∧vs=[.str y]∧(y.length==0)=false∧z.length≤90000∧∀l,H l=none→Q (.ref l) (upd H l (.lst ((Txt.split z y).map V.str)))
theorem sV:Zj X "str.split" Du:=by
 intro pins s σ H x vs v us Q I rx rv h
 obtain⟨z,y,rfl,rfl,hy,hz,q⟩:=h
 obtain⟨t,rfl⟩:=rx
 obtain⟨u,rfl,ru⟩:=rv.one
 obtain⟨t',rfl⟩:=ru
 have hle:=PyProof.Rows.split_le z y
 have q:=q _ I.fresh
 cases h1:(decide (z.length<y.length)||decide (Builtin.Str.strKind z<Builtin.Str.strKind y))
 ·cases hf:(Builtin.Str.occurrences z y 0 z.length (z.length+1)).isEmpty
  ·have e:Txt.split z y=Builtin.Str.partsBetween z (Builtin.Str.occurrences z y 0 z.length (z.length+1)) y.length:=by
    unfold Txt.split
    rw[if_neg (ne_true_of_eq_false h1),if_neg (ne_true_of_eq_false hf)]
   rw[e]at q hle
   refine call_meets F.slot_str_split (typeIs_str _ _ _) F.entry_str_split (F.args_str_split_2 _ _) (meets_str_split_sep z y t t' h1 hy hf (gR (by omega)) (gR (by omega))) ?_
   exact⟨.ref _,_,I.Kc (Rh _ _) (by rw[B6];exact gR (by omega)),rfl,q⟩
  ·have e:Txt.split z y=[z]:=by
    unfold Txt.split
    rw[if_neg (ne_true_of_eq_false h1),if_pos hf]
   rw[e]at q
   refine call_meets F.slot_str_split (typeIs_str _ _ _) F.entry_str_split (F.args_str_split_2 _ _) (meets_str_split_not_found z y t t' h1 hy hf) ?_
   exact⟨.ref _,_,I.Kc (t':=s.toks) (ys:=[.str z]) (its:=[.str z t]) (.cons ⟨t,rfl⟩ .nil) (gR (n:=1) (by decide)),rfl,q⟩
 ·have e:Txt.split z y=[z]:=by
   unfold Txt.split
   rw[if_pos h1]
  rw[e]at q
  refine call_meets F.slot_str_split (typeIs_str _ _ _) F.entry_str_split (F.args_str_split_2 _ _) (meets_str_split_cannot_occur z y t t' h1) ?_
  exact⟨.ref _,_,I.Kc (t':=s.toks) (ys:=[.str z]) (its:=[.str z t]) (.cons ⟨t,rfl⟩ .nil) (gR (n:=1) (by decide)),rfl,q⟩
def jK(a b:D):Option D:=match a,b with
 | .str z,.str y=>if(y.length==0)=false∧z.length≤90000 then some (.lst ((Txt.split z y).map D.str))else none
 | _,_=>none
theorem Bb{H:Hp}:∀xs:List Str,bG K H (xs.map D.str) (xs.map V.str)
 | []=>by unfold bG;rfl
 | x::xs=>by
  rw[C9,C9]
  unfold bG
  exact⟨_,_,rfl,by unfold Rv;rfl,Bb xs⟩
theorem wA:∀xs:List Str,D.cR (xs.map D.str)=true
 | []=>by rw[G1,D.cR]
 | x::xs=>by rw[C9,D.cR,wA xs,Bool.and_true];unfold D.cY;rfl
theorem sW(ha:XR K X a ta f)(hb:XR K X b tb g)(hp:PE X a ta→PE X b tb→PE X (.Call (.Attribute a m apos) [b] [] cpos) (Hq X.K "str" Du ta (dD tb jD))):XN K X (.Call (.Attribute a m apos) [b] [] cpos) (Hq X.K "str" Du ta (dD tb jD)) (f2 jK f g):=
 ⟨ha.hk,hp ha.pe hb.pe,λσ H e d Q re q k=>by
  obtain⟨x,y,q1,q2,q3⟩:=nU q
  unfold jK at q3
  split at q3
  ·split at q3
   ·rename_i hc
    cases q3
    refine ha.ev σ H H e _ _ (Zn.self K H) re q1 λv H1 Z1 s1 t1 z1 rx=>?_
    unfold Rv at rx
    subst rx
    refine⟨rfl,hb.ev σ H1 H1 e _ _ (Zn.self K H1) (re.same s1) q2 λv' H2 Z2 s2 t2 z2 ry=>?_⟩
    unfold Rv at ry
    subst ry
    refine⟨_,_,rfl,rfl,hc.1,hc.2,λl hl=>?_⟩
    exact k _ _ ((s1.trans s2).trans (bT hl _)) (qX (s1.trans s2) (.cR (wA _) (Bb _)) hl)
   ·cases q3
  ·cases q3⟩
end
end L2


namespace L2
open PySem PySem.Spec PySem.Calls PyProof.Rows PyProof.V
section
variable{K:aA}{B H H':Hp}{env:EN}{σ:St}{i j:Nat}{v:V}{d:D}
theorem Rel.Xv(h:Rel K B (env++[.own d]) (σ++[some v]) H):∃H0,Rel K B env σ H0∧aH H0 H∧Ag K H0 H d v:=by
 obtain⟨A,a,b⟩:=h
 obtain⟨A0,A1,k1,⟨v',e,o⟩,k3,k4⟩:=a.Lw
 cases e
 have cl:=Ow.cells _ _ _ o
 have tk:oZ K H (out H A1):=λp xs q=>by
  have np:(∃u,H p=some (.tup xs)∨H p=some (.oX u (.tup xs)))→¬A1 p:=λz z2=>by
   obtain⟨u,z⟩:=z
   rcases z with z | z
   ·exact(cl p z2).2.1 _ z
   ·exact(cl p z2).2.2 _ _ z
  rcases q with (q | ⟨u,q⟩) | q
  ·exact .inl (.inl (by rw[xO (np ⟨default,.inl q⟩)];exact q))
  ·exact .inl (.inr ⟨u,by rw[xO (np ⟨u,.inr q⟩)];exact q⟩)
  ·exact .inr q
 have g:aH (out H A) (out (out H A1) A0):=λx u ex=>by
  obtain⟨e1,e2⟩:=aZ.mp ex
  exact aZ.mpr ⟨λz=>e1 ((k4 x).mpr (.inl z)),aZ.mpr ⟨λz=>e1 ((k4 x).mpr (.inr z)),e2⟩⟩
 refine⟨out H A1,⟨A0,k1.mono λs D z hb qq=>?_,b.trans g⟩,gH _ _,A1,o,λx z=>?_⟩
 ·have fr:∀x,D x→out H A1 x=H x:=λx zx=>xO λz=>k3 x (hb x zx) z
  cases s with
  | no=>exact qq
  | fro d=>obtain⟨q1,v,q2,q3⟩:=qq;exact⟨q1,v,q2,g.rv _ _ q3⟩
  | inn v d=>exact⟨qq.1,Ow.frame tk _ _ _ qq.2 fr⟩
  | own d=>obtain⟨v,q1,q2⟩:=qq;exact⟨v,q1,Ow.frame tk _ _ _ q2 fr⟩
 ·unfold out
  rw[if_pos z]
def wB(i j:Nat):GS:=λenv=>match env[i]?,env[j]? with
 | some (.own (.lst ds)),some (.own d)=>if i≠j∧ds.length<100000 then .next ((env.set j .no).set i (.own (.lst (ds++[d]))))else .bad
 | _,_=>.bad
theorem Ri:BR K (mQ (Hq K "list" jE (jA i) (dD (jA j) jD))) (wB i j):=λB E σ H env r p=>by
 unfold wB at p
 split at p
 ·rename_i ds d q1 q2
  split at p
  ·rename_i hc
   obtain⟨v,hv,r2⟩:=r.give q2
   obtain⟨H0,r0,s0,N,o,fr⟩:=r2.Xv
   have RZ:(env.set j .no)[i]?=some (.own (.lst ds)):=by rw[K7 (Ne.symm hc.1)];exact q1
   obtain⟨v0,a,xs,Bs,k1,k2,k3,k4,k5,k6⟩:=r0.Xb (p:=[]) RZ rfl
   unfold Fv at k2
   cases k2
   refine⟨_,k1,.inl ⟨rfl,xs,iH.of (s0 _ _ k3)⟩,v,hv,?_⟩
   refine⟨a,xs,v,rfl,rfl,s0 _ _ k3,Kw (by rw[(cZ.rv _ _ _ k5).length];omega),p _ ?_⟩
   exact k6 H (ds++[d]) (xs++[v]) (dY Bs N) s0 (dI.mpr ((dI.mp (k5.same s0)).snoc o (Lp (H1:=H0) k5 fr))) λb z=>z.imp id (fr b)
  ·exact p.elim
 ·exact p.elim
theorem Rj{X:Cx}{a e:Expr}{m:Str}{pos apos cpos:Pos}(h:PE X a (jA i))(he:PE X e (jA j))(hp:PE X a (jA i)→PE X e (jA j)→PS X (.Expr (.Call (.Attribute a m apos) [e] [] cpos) pos) (mQ (Hq K "list" jE (jA i) (dD (jA j) jD)))):YS K X (.Expr (.Call (.Attribute a m apos) [e] [] cpos) pos) (mQ (Hq K "list" jE (jA i) (dD (jA j) jD))) (wB i j):=⟨hp h he,Ri.ds⟩
end
end L2


namespace L2
open PySem PySem.Spec PyProof.Rows
abbrev cI(ns:List Int):D:=.lst (ns.map D.int)
theorem pL{i:Nat}{g:GS}(I:Nat→EN→Prop):∀(xs:List D)(env:EN)(n:Nat),I n env→(∀k x env,xs[k]?=some x→I (n+k) env→i<env.length∧∃env',g (env.set i (.fro x))=.next env'∧I (n+k+1) env')→∃env',pG i g xs env=.next env'∧I (n+xs.length) env'
 | [],env,n,h,_=>⟨env,by unfold pG;rfl,h⟩
 | x::xs,env,n,h,st=>by
  obtain⟨h1,env',h2,h3⟩:=st 0 x env rfl h
  obtain⟨mO,a1,a2⟩:=pL I xs env' (n+1) h3 λk y e hk hi=>by
   have:=st (k+1) y e (by simpa using hk) (by rw[show n+(k+1)=n+1+k by omega];exact hi)
   rw[show n+(k+1)+1=n+1+k+1 by omega]at this
   exact this
  refine⟨mO,?_,?_⟩
  ·unfold pG
   rw[if_pos h1,h2]
   exact a1
  ·rw[E3,show n+(xs.length+1)=n+1+xs.length by omega]
   exact a2
theorem gB{g1 g2:GS}{env env':EN}(h:g1 env=.next env'):aR g1 g2 env=g2 env':=by unfold aR;rw[h]
theorem Bc{g1 g2:GS}{env:EN}{d:D}(h:g1 env=.ret d):aR g1 g2 env=.ret d:=by unfold aR;rw[h]
theorem sX{f:FT}{g1 g2:GS}{env:EN}(h:f (rE env)=some true):kZ f g1 g2 env=g1 env:=by unfold kZ;rw[h]
theorem pM{f:FT}{g1 g2:GS}{env:EN}(h:f (rE env)=some false):kZ f g1 g2 env=g2 env:=by unfold kZ;rw[h]
theorem Fz{i:Nat}{f:FE}{env:EN}{d:D}(h:f (rE env)=some d)(hi:i<env.length):cX i f env=.next (env.set i (.own d)):=by unfold cX;rw[h];dsimp only;rw[if_pos hi]
theorem fM{f:FE}{env:EN}{d:D}(h:f (rE env)=some d):cA f env=.ret d:=by unfold cA;rw[h]
theorem Mj{i:Nat}{fi:FA}{g:GS}{env:EN}{xs:List D}(h:fi (rE env)=some xs):kW i fi g env=pG i g xs env:=by unfold kW;rw[h]
theorem Rk{js:List Nat}{i:Nat}{fi:FA}{g:GS}{env pH:EN}{xs:List D}(h0:oX js env=pH)(h:fi (zE pH)=some xs):yE js i fi g env=pG i g xs pH:=by unfold yE;rw[h0,h]
theorem fP{n m:Nat}{g:GS}{ds:List D}{d:D}(hl:ds.length=m)(h:g (ds.map SD.fro++D7 (n-m) SD.no)=.ret d):fV n m g ds=some d:=by unfold fV;rw[if_pos hl,h]
theorem aU{φ:D→D→Option D}{f g:FE}{e:DE}{a b d:D}(h1:f e=some a)(h2:g e=some b)(h:φ a b=some d):f2 φ f g e=some d:=by unfold f2;rw[h1,h2];exact h
theorem dF{φ:List D→Option D}{fs:FA}{e:DE}{ds:List D}{d:D}(h1:fs e=some ds)(h:φ ds=some d):fL φ fs e=some d:=by unfold fL;rw[h1];exact h
theorem aB{f:FE}{fs:FA}{e:DE}{a:D}{r:List D}(h1:f e=some a)(h2:fs e=some r):aC f fs e=some (a::r):=by unfold aC;rw[h1,h2];rfl
theorem aW{n:Nat}{F:List D→Option D}{fs:FA}{e:DE}{ds:List D}{d:D}(h1:fs e=some ds)(hl:ds.length=n)(h:F ds=some d):bJ n F fs e=some d:=by unfold bJ;rw[h1];dsimp only[C5];rw[if_pos hl];exact h
theorem bW{f:FE}{e:DE}{b:Bool}(h:f e=some (.bl b)):fB f e=some b:=by unfold fB;rw[h];rfl
theorem bR{f:FT}{e:DE}{b:Bool}(h:f e=some b):fY f e=some (!b):=by unfold fY;rw[h];rfl
theorem Ga{f g:FT}{e:DE}(h:f e=some false):Fj f g e=g e:=by unfold Fj;rw[h];rfl
theorem Gb{f:FE}{e:DE}{d:D}(h:f e=some d)(i:d.cY=true):Hw f e=some d:=vL.mpr ⟨h,i⟩
theorem gC(i j:Int):fW (.int i) (.int j)=some (.int (i+j)):=rfl
theorem sY(i j:Int):De (.int i) (.int j)=some (.int (i-j)):=by unfold De uN;exact if_pos True.intro
theorem sZ{i j:Int}(h:uH i j):rW (.int i) (.int j)=some (.int (i*j)):=by unfold rW uN;exact if_pos h
theorem tD{i j:Int}(h:0<j)(h2:j<1073741824):uO (.int i) (.int j)=some (.int (i/j)):=by unfold uO uN;exact if_pos (show Hg i j from⟨h,h2⟩)
theorem eH{i j:Int}(h:0<j):gO (.int i) (.int j)=some (.int (i%j)):=by unfold gO uN;exact if_pos h
theorem lM{i j:Int}(h:Hh i j):Ah (.int i) (.int j)=some (.int (i ^ j.toNat)):=by unfold Ah uN;exact if_pos h
theorem yL(i j:Int):JC (.int i) (.int j)=some (.bl (decide (j<i))):=by unfold JC uN;exact if_pos True.intro
theorem yM(i j:Int):Fi (.int i) (.int j)=some (.bl (decide (i≤j))):=by unfold Fi uN;exact if_pos True.intro
theorem Gd(i j:Int):decide (V.int i=V.int j)=decide (i=j):=by
 by_cases c:i=j
 ·subst c;simp
 ·rw[decide_eq_false c,decide_eq_false (λz=>c (by cases z;rfl))]
theorem oE(i j:Int):vN (.int i) (.int j)=some (.bl (decide (i=j))):=by
 unfold vN toV
 dsimp only
 rw[if_pos (by rfl),Gd]
theorem Ge(i j:Int):Hy (.int i) (.int j)=some (.bl (!decide (i=j))):=by
 unfold Hy toV
 dsimp only
 rw[if_pos (by rfl),Gd]
theorem yN{α:Type}{xs:List α}{i:Int}{x:α}(h0:0≤i)(h:xs[i.toNat]?=some x):Aa xs i=some x:=by
 have h1:i.toNat<xs.length:=by
  obtain⟨h1,_⟩:=B8.mp h
  exact h1
 unfold Aa Tt
 rw[if_pos h0,if_pos (by omega)]
 exact h
theorem Rm{α:Type}{xs:List α}{x:α}(h:xs.getLast?=some x):Aa xs (-1)=some x:=by
 have hl:0<xs.length:=by
  cases xs with
  | nil=>simp at h
  | cons=>simp
 unfold Aa Tt
 rw[if_neg (by omega),if_pos (by omega)]
 show xs[((-1:Int)+(xs.length:Int)).toNat]?=some x
 rw[List.getLast?_eq_getElem?]at h
 rw[show ((-1:Int)+(xs.length:Int)).toNat=xs.length-1 by omega]
 exact h
theorem Gf{ds:List D}{i:Int}{d:D}(h0:0≤i)(h:ds[i.toNat]?=some d):sG (.lst ds) (.int i)=some d:=yN h0 h
theorem Rn{ds:List D}{i:Int}{d:D}(h0:0≤i)(h:ds[i.toNat]?=some d):sG (.tup ds) (.int i)=some d:=yN h0 h
theorem Bd{ns:List Int}{i:Int}(h0:0≤i)(h:i<ns.length):sG (cI ns) (.int i)=some (.int (ns.getD i.toNat 0)):=yN h0 (by
 rw[C3,F5,B4 (show i.toNat<ns.length by omega)];rfl)
theorem tE(ds:List D):eE [.lst ds]=some (.int ds.length):=rfl
theorem oF(ds:List D):eE [.tup ds]=some (.int ds.length):=rfl
theorem pN(ns:List Int):eE [cI ns]=some (.int ns.length):=by show some (D.int ((ns.map D.int).length:Nat))=_;rw[B6]
theorem wC{c:D→Option Bool}{el:D→Option D}{φ:D→D}:∀{xs:List D},(∀x∈xs,c x=some true)→(∀x∈xs,el x=some (φ x))→kJ c el xs=some (xs.map φ)
 | [],_,_=>by unfold kJ;rfl
 | x::xs,hc,he=>by
  unfold kJ
  rw[hc x C6,he x C6,wC (xs:=xs) (λy hy=>hc y (B9 _ hy)) λy hy=>he y (B9 _ hy)]
  rfl
theorem Be{fi:FA}{fr:List Nat}{fc:FT}{fe:FE}{e:DE}{xs ys:List D}(h1:fi e=some xs)(hl:xs.length≤100000)(h:kJ (λx=>fc (some x::kI e fr)) (λx=>fe (some x::kI e fr)) xs=some ys):bU fi fr fc fe e=some (.lst ys):=by
 unfold bU
 rw[h1,C5,if_pos hl,h]
 rfl
theorem tG(lo:Int)(n:Nat):(dC lo n).length=n:=by unfold dC;rw[B6,M4]
theorem tH{lo:Int}{n k:Nat}{x:D}(h:(dC lo n)[k]?=some x):k<n∧x=.int (lo+k):=by
 unfold dC at h
 rw[C3]at h
 cases q:(E9 n)[k]? with
 | none=>rw[q]at h;cases h
 | some j=>
  rw[q]at h
  obtain⟨h1,h2⟩:=B8.mp q
  rw[M4]at h1
  rw[P5]at h2
  subst h2
  exact⟨h1,(E1 h).symm⟩
theorem Dv{lo:Int}{n:Nat}{x:D}(h:x∈dC lo n):∃k:Nat,k<n∧x=.int (lo+k):=by
 obtain⟨k,hk,e⟩:=O6 h
 obtain⟨a1,a2⟩:=tH (k:=k) (x:=x) (by rw[B4 hk,e])
 exact⟨k,a1,a2⟩
theorem Ml{fs:FA}{e:DE}{n:Int}(h:fs e=some [.int n])(h1:-100000≤n)(h2:n≤100000):iK fs e=some (dC 0 n.toNat):=by
 unfold iK
 rw[h]
 dsimp only[C5]
 rw[if_pos (show lim n=true from decide_eq_true ⟨h1,h2⟩)]
theorem JX{i j:Int}(h1:-18446744073709551616<i)(h2:i<18446744073709551616):uH i j:=.inl ⟨h1,h2⟩
theorem JZ{i j:Int}(h1:-18446744073709551616<j)(h2:j<18446744073709551616):uH i j:=.inr ⟨h1,h2⟩
theorem Mm{i:Nat}{f:FE}{env:EN}{ds:List D}{d:D}(h1:env[i]?=some (.own (.lst ds)))(h2:f (rE env)=some d)(hl:ds.length<100000):sO i qQ f env=.next (env.set i (.own (.lst (ds++[d])))):=by
 unfold sO qQ
 rw[h1,h2]
 dsimp only[pI]
 rw[if_pos hl]
 rfl
end L2


namespace L2
open PySem PySem.Spec PyProof.Rows
section
variable{i j:Nat}{f:FE}{c:FT}{g1 g2 g:GS}{env env':EN}{d:D}{r:SR}{ds:List D}
theorem tK(h:f (rE env)=some d)(hi:i<env.length)(k:g (env.set i (.own d))=r):aR (cX i f) g env=r:=(gB (Fz h hi)).trans k
theorem Uk{b:Bool}(h:c (rE env)=some b)(k1:b=true→aR g1 g env=r)(k2:b=false→aR g2 g env=r):aR (kZ c g1 g2) g env=r:=by
 cases b with
 | true=>have k:=k1 rfl;unfold aR at k ⊢;rw[sX h];exact k
 | false=>have k:=k2 rfl;unfold aR at k ⊢;rw[pM h];exact k
theorem Mp{b:Bool}(h:c (rE env)=some b)(hb:b=false)(k:aR g2 g env=r):aR (kZ c g1 g2) g env=r:=Uk h (λz=>by rw[hb]at z;cases z) λ_=>k
theorem Xw{b:Bool}(h:c (rE env)=some b)(hb:b=true)(k:aR g1 g env=r):aR (kZ c g1 g2) g env=r:=Uk h (λ_=>k) (λz=>by rw[hb]at z;cases z)
theorem Ul(k:g env=r):aR bV g env=r:=k
theorem CV(h:f (rE env)=some d)(k:SR.ret d=r):aR (cA f) g env=r:=(Bc (fM h)).trans k
theorem Ig(h:env[i]?=some (.own d)):mW i env=.ret d:=by unfold mW;rw[h]
theorem Gg{fs:FA}{e:DE}(h:fs e=some ds)(hl:ds.length≤100000):Hx fs e=some (.tup ds):=by unfold Hx cap;rw[h];dsimp only[C5];rw[if_pos hl]
theorem Gh{fs:FA}{e:DE}(h:fs e=some ds)(hl:ds.length≤100000):pB fs e=some (.lst ds):=by unfold pB cap;rw[h];dsimp only[C5];rw[if_pos hl]
theorem yO{e:DE}{z:Int}(h:f e=some (.int z)):Av f e=some (.int (-z)):=by unfold Av;rw[h];rfl
theorem jL{e:DE}{T:String}{d':D}(h:f e=some d)(k:Ao T d=some d'):qR T f e=some d':=by unfold qR;rw[h];exact k
theorem Mq{e:DE}{b:Bool}(h:f e=some (.bl b)):Aj f e=some (.bl (!b)):=by unfold Aj;rw[bW h];rfl
theorem Ro{e:DE}{f':FE}(h:f e=some (.bl true))(k:f' e=some d):qD f f' e=some d:=by unfold qD;rw[bW h];exact k
theorem Mr{e:DE}{f':FE}{a b:Bool}(h:f e=some (.bl a))(k:f' e=some (.bl b)):qD f f' e=some (.bl (a&&b)):=by
 unfold qD;rw[bW h]
 cases a with
 | true=>exact k
 | false=>rfl
theorem yP{e:DE}{c':FT}{a b:Bool}(h:c e=some a)(k:c' e=some b):Fj c c' e=some (a||b):=by
 unfold Fj;rw[h]
 cases a with
 | true=>rfl
 | false=>exact k
theorem dG{e:DE}(h:f e=some (.lst ds)):gP f e=some ds:=by unfold gP;rw[h];rfl
theorem tL{e:DE}(h:f e=some (.tup ds)):gP f e=some ds:=by unfold gP;rw[h];rfl
theorem Ih{a b:List D}(h:D.cR (a++b)=true)(hl:a.length+b.length≤100000):fW (.lst a) (.lst b)=some (.lst (a++b)):=by
 show (if D.cR (a++b)=true∧a.length+b.length≤100000 then some (D.lst (a++b))else none)=_
 rw[if_pos ⟨h,hl⟩]
theorem Bf{ds:List D}(h:∀d∈ds,d.cY=true):D.cR ds=true:=by
 induction ds with
 | nil=>unfold D.cR;rfl
 | cons d ds ih=>unfold D.cR;rw[h d C6,ih λe he=>h e (B9 _ he)];rfl
theorem tM(ns:List Int):(dTup ns).cY=true:=by unfold dTup D.cY;exact jJ ns
theorem Ii(h:D.cR ds=true):dList [.lst ds]=some (.lst ds):=by
 show (if D.cR ds=true then some (D.lst ds)else none)=_
 rw[if_pos h]
theorem tO(ns:List Int):gU (ns.map D.int)=some (ns.map DV.int):=by
 induction ns with
 | nil=>unfold gU;rfl
 | cons n ns ih=>rw[C9];unfold gU cO;rw[C5,ih];rfl
theorem Rp(ns ms:List Int):vN (dTup ns) (dTup ms)=some (.bl (decide (ns=ms))):=by
 unfold vN dTup toV
 dsimp only
 unfold cO
 rw[tO,tO]
 dsimp only[Option.map_some]
 rw[if_pos (by unfold DV.depth;rw[rN];decide)]
 congr 2
 rw[G0,lF,decide_eq_true_iff]
 constructor
 ·intro z;injection z with z;exact Ko.mp z
 ·intro z;rw[z]
end
end L2
namespace L2
theorem Rq{i:Nat}{e:DE}{d:D}(h:e[i]?=some (some d)):aG i e=some d:=by unfold aG;rw[h];rfl
theorem CW{e:DE}{d:D}:fC d e=some d:=rfl
theorem Ms{e:DE}:aM e=some []:=rfl
end L2
namespace L2
theorem Bg{i:Nat}{fi:FA}{gb:GS}{env:EN}{n:Nat}(I:Nat→EN→Prop)(h:fi (rE env)=some (dC 0 n))(h0:I 0 env)
  (st:∀(k:Nat) env,k<n→I k env→i<env.length∧∃env',gb (env.set i (.fro (.int k)))=.next env'∧I (k+1) env'):∃env',kW i fi gb env=.next env'∧I n env':=by
 obtain⟨env',h1,h2⟩:=pL (i:=i) (g:=gb) I (dC 0 n) env 0 h0 λk x e hx hi=>by
  rw[N1]at hi ⊢
  obtain⟨hk,rfl⟩:=tH hx
  rw[P6]
  exact st k e hk hi
 rw[N1,tG]at h2
 exact⟨env',(Mj h).trans h1,h2⟩
end L2


namespace L2
open PySem PySem.Spec PyProof.Rows
def Qs(Pr:SR→Prop)(r:SR):Prop:=Pr r
section
variable{i j:Nat}{f:FE}{c:FT}{g1 g2 g gb:GS}{env env':EN}{d:D}{ds:List D}{Pr:SR→Prop}
theorem KC{r:SR}(h:Qs Pr r):Pr r:=h
theorem eU(h:f (rE env)=some d)(hi:i<env.length)(k:Qs Pr (g (env.set i (.own d)))):Qs Pr (aR (cX i f) g env):=by rw[gB (Fz h hi)];exact k
theorem KD(h:g1 env=.next env')(k:Qs Pr (g env')):Qs Pr (aR g1 g env):=by rw[gB h];exact k
theorem nD(k:Qs Pr (g env)):Qs Pr (aR bV g env):=k
theorem Rr{b:Bool}(h:c (rE env)=some b)(k1:b=true→Qs Pr (aR g1 g env))(k2:b=false→Qs Pr (aR g2 g env)):Qs Pr (aR (kZ c g1 g2) g env):=by
 cases b with
 | true=>have k:=k1 rfl;unfold aR at k ⊢;rw[sX h];exact k
 | false=>have k:=k2 rfl;unfold aR at k ⊢;rw[pM h];exact k
theorem CZ{b:Bool}(h:c (rE env)=some b)(k1:b=true→Qs Pr (g1 env))(k2:b=false→Qs Pr (g2 env)):Qs Pr (kZ c g1 g2 env):=by
 cases b with
 | true=>rw[sX h];exact k1 rfl
 | false=>rw[pM h];exact k2 rfl
theorem kY{b:Bool}(h:c (rE env)=some b)(hb:b=false)(k:Qs Pr (aR g2 g env)):Qs Pr (aR (kZ c g1 g2) g env):=Rr h (λz=>by rw[hb]at z;cases z) λ_=>k
theorem Mt{b:Bool}(h:c (rE env)=some b)(hb:b=false)(k:Qs Pr (g2 env)):Qs Pr (kZ c g1 g2 env):=CZ h (λz=>by rw[hb]at z;cases z) λ_=>k
theorem DG(h:f (rE env)=some d)(k:Pr (.ret d)):Qs Pr (aR (cA f) g env):=by rw[Bc (fM h)];exact k
theorem lN(h:f (rE env)=some d)(k:Pr (.ret d)):Qs Pr (cA f env):=by rw[fM h];exact k
theorem Dw(h:env[i]?=some (.own d))(k:Pr (.ret d)):Qs Pr (mW i env):=by rw[Ig h];exact k
theorem DK(h1:env[i]?=some (.own (.lst ds)))(h2:f (rE env)=some d)(hl:ds.length<100000)(k:Qs Pr (g (env.set i (.own (.lst (ds++[d])))))):Qs Pr (aR (sO i qQ f) g env):=by rw[gB (Mm h1 h2 hl)];exact k
theorem Dy(h1:env[i]?=some (.own (.lst ds)))(h2:f (rE env)=some d)(hl:ds.length<100000)(k:Pr (.next (env.set i (.own (.lst (ds++[d])))))):Qs Pr (sO i qQ f env):=by rw[Mm h1 h2 hl];exact k
theorem yQ{fi:FA}{n:Nat}(I:Nat→EN→Prop)(h:fi (rE env)=some (dC 0 n))(h0:I 0 env)
  (st:∀(k:Nat) env,k<n→I k env→i<env.length∧Qs (λr=>∃env',r=.next env'∧I (k+1) env') (gb (env.set i (.fro (.int k))))) (k:∀env',I n env'→Qs Pr (g env')):Qs Pr (aR (kW i fi gb) g env):=by
 obtain⟨env',h1,h2⟩:=Bg (gb:=gb) I h h0 λk env hk hi=>⟨(st k env hk hi).1,let ⟨e,a,b⟩:=(st k env hk hi).2;⟨e,a,b⟩⟩
 rw[gB h1]
 exact k env' h2
theorem Mu{fi:FA}{n:Nat}(I:Nat→EN→Prop)(h:fi (rE env)=some (dC 0 n))(h0:I 0 env)
  (st:∀(k:Nat) env,k<n→I k env→i<env.length∧Qs (λr=>∃env',r=.next env'∧I (k+1) env') (gb (env.set i (.fro (.int k))))) (k:∀env',I n env'→Pr (.next env')):Qs Pr (kW i fi gb env):=by
 obtain⟨env',h1,h2⟩:=Bg (gb:=gb) I h h0 λk env hk hi=>⟨(st k env hk hi).1,let ⟨e,a,b⟩:=(st k env hk hi).2;⟨e,a,b⟩⟩
 rw[h1]
 exact k env' h2
theorem Mv{js:List Nat}{fi:FA}{pH:EN}{xs:List D}(I:Nat→EN→Prop)(hf:oX js env=pH)(h:fi (zE pH)=some xs)(h0:I 0 pH)
  (st:∀(k:Nat) x env,xs[k]?=some x→I k env→i<env.length∧Qs (λr=>∃env',r=.next env'∧I (k+1) env') (gb (env.set i (.fro x)))) (k:∀env',I xs.length env'→Qs Pr (g env')):Qs Pr (aR (yE js i fi gb) g env):=by
 obtain⟨env',h1,h2⟩:=pL (i:=i) (g:=gb) I xs pH 0 h0 λk x e hx hi=>by
  rw[N1]at hi ⊢
  exact⟨(st k x e hx hi).1,let ⟨e,a,b⟩:=(st k x e hx hi).2;⟨e,a,b⟩⟩
 rw[N1]at h2
 rw[gB ((Rk hf h).trans h1)]
 exact k env' h2
theorem gK{n m:Nat}{Pd:D→Prop}(hl:ds.length=m)(h:Qs (λr=>∃d,r=.ret d∧Pd d) (g (ds.map SD.fro++D7 (n-m) SD.no))):∃d,fV n m g ds=some d∧Pd d:=by
 obtain⟨d,h1,h2⟩:=h
 exact⟨d,fP hl h1,h2⟩
theorem oG{fs:FA}{e:DE}{n:Nat}(h:fs e=some [.int (n:Int)])(hn:n≤100000):iK fs e=some (dC 0 n):=by
 rw[Ml h (by omega) (by omega),G9]
end
end L2
namespace L2
theorem Dz{fi:FA}{fr:List Nat}{fe:FE}{e:DE}{n:Nat}{φ:Nat→D}(h1:fi e=some (dC 0 n))(hn:n≤1000)(he:∀k:Nat,k<n→fe (some (.int k)::kI e fr)=some (φ k)):bU fi fr cV fe e=some (.lst ((E9 n).map φ)):=by
 refine Be h1 (by rw[tG];omega) ?_
 refine(wC (c:=λx=>cV (some x::kI e fr)) (φ:=λx=>match x with | .int i=>φ i.toNat | d=>d) (λ_ _=>rfl) ?_).trans ?_
 rotate_left
 ·congr 1
  unfold dC
  rw[G2]
  apply O9
  intro k _
  show φ ((0:Int)+(k:Int)).toNat=φ k
  rw[P6,G9]
 ·intro x hx
  obtain⟨k,hk,rfl⟩:=Dv hx
  rw[P6]
  show _=some (φ ((k:Int)).toNat)
  rw[G9]
  exact he k hk
theorem bY{fi:FA}{fr:List Nat}{fe:FE}{e:DE}{α:Type}{xs:List α}{ψ φ:α→D}(h1:fi e=some (xs.map ψ))(hn:xs.length≤1000)(he:∀x∈xs,fe (some (ψ x)::kI e fr)=some (φ x)):bU fi fr cV fe e=some (.lst (xs.map φ)):=by
 refine Be h1 (by rw[B6];omega) ?_
 clear h1 hn
 induction xs with
 | nil=>rw[G1,G1];unfold kJ;rfl
 | cons x xs ih=>
  rw[C9]
  unfold kJ
  show (some true).bind _=_
  rw[C5,if_pos rfl,he x C6,C5,ih λy hy=>he y (B9 _ hy)]
  rfl
theorem Xx{b:Bool}{f:FE}{l h:FO}{e:DE}{ds:List D}{lo hi:Option Int}(h1:f e=some (.lst ds))(h2:l e=some lo)(h3:h e=some hi)(h4:b=false∨D.cR (uP ds lo hi)=true):Yn b f l h e=some (.lst (uP ds lo hi)):=by
 unfold Yn
 rw[h1,h2,h3]
 dsimp only[C5]
 rw[if_pos h4]
end L2


namespace L2
open PySem PySem.Spec PyProof.Rows
section
variable{i j:Nat}{f:FE}{c:FT}{g1 g2 g gb:GS}{env env':EN}{d:D}{ds:List D}{Pr:SR→Prop}
theorem Rt{x:D}(h:ds.getLast?=some x):sG (.lst ds) (.int (-1))=some x:=Rm h
theorem Bh{α:Type}(l:List α):uP l none (some (-1))=l.dropLast:=by
 unfold uP
 show (l.drop 0).take (HT.vH l.length l.length (some (-1))-0)=_
 have:HT.vH l.length l.length (some (-1))=l.length-1:=by
  show (if(-1:Int)<0 then((-1:Int)+(l.length:Int)).toNat else min (-1:Int).toNat l.length)=_
  rw[if_pos (by decide)]
  omega
 rw[this,List.drop_zero,Nat.sub_zero,List.dropLast_eq_take]
end
end L2
namespace L2
end L2
namespace L2
end L2


namespace L2
open PySem PySem.Spec PyProof.Rows
theorem qF(ns:List Int):pF [cI ns]=some (dTup ns):=by
 unfold pF
 dsimp only
 rw[show lJ (cI ns)=some (ns.map D.int)from by unfold cI lJ;rfl,C5,if_pos (jJ _)]
 rfl
structure GP where
 DN:Int
 place:Int
 thing:List Int
 needs:List Int
 deriving Inhabited
def SJ(c:GP):D:=.tup [.int c.DN,.int c.place,dTup c.thing,dTup c.needs]
abbrev at_(cs:List GP)(k:Nat):GP:=cs.getD k default
theorem Gi(c:GP):sG (SJ c) (.int 0)=some (.int c.DN):=Rn (by decide) rfl
end L2
namespace L2
end L2
namespace L2
end L2


namespace L2
open PySem PySem.Spec PyProof.Rows
theorem Ru{e:DE}{f f':FE}{a b:Bool}(h:f e=some (.bl a))(k:f' e=some (.bl b)):Hz f f' e=some (.bl (a||b)):=by
 unfold Hz;rw[bW h]
 cases a with
 | true=>rfl
 | false=>exact k
theorem tQ{α:Type}(p:α→Bool)(l:List α):Df [.lst (l.map λx=>D.bl (p x))]=some (.bl (l.all p)):=by
 show (mV (l.map λx=>D.bl (p x))).map _=_
 rw[vR]
 show some (D.bl ((l.map p).all id))=_
 rw[List.all_map]
 rfl
end L2


namespace L2
open PySem PySem.Spec PyProof.Rows
section
variable{i j:Nat}{f f':FE}{c:FT}{g1 g2 g gb:GS}{env env':EN}{d d0 d' r:D}{ds:List D}{Pr:SR→Prop}{v:V}{π:FP}{p:List Step}
theorem Mw(h1:env[i]?=some (.own d0))(h2:π (rE env)=some p)(h3:pI p d0=some (.lst ds)):pK i π env=.next (env.set i (.own (pJ p d0 (.lst [])))):=by
 unfold pK
 rw[h1,h2]
 dsimp only
 rw[h3]
theorem Um{f g:FE}{e:DE}(h:c e=some true)(h2:f e=some d):Ua c f g e=some d:=by unfold Ua;rw[h];exact h2
theorem Uo{f g:FE}{e:DE}(h:c e=some false)(h2:g e=some d):Ua c f g e=some d:=by unfold Ua;rw[h];exact h2
end
end L2


local macro_rules | `(tactic| walk_at "fs")=>`(tactic| exact⟨rfl,rfl,rfl,by decide +kernel,rfl,by decide +kernel,by decide +kernel⟩)
namespace Rs
open PySem L2
def top(i:Nat):Stmt:=PySem.Challenge.pw_ripestone_k54_stones_written.main.body.getD i (.Pass ⟨0,0,0,0⟩)
abbrev tR:Stmt:=top 25
noncomputable def Bj:GS:=aR (kZ (fB (f2 vN (fL eE (aC (aG 0) aM)) (fC (.int 0)))) (cA (fC (.int 0))) bV)
 (aR (cX 2 (f2 uO (aG 1) (fL eE (aC (aG 0) aM))))
 (aR (cX 3 (f2 fW (fC (.int 48271)) (f2 rW (f2 rW (fC (.int 7919)) (aG 2)) (aG 2))))
 (aR (cX 4 (f2 fW (f2 rW (f2 sG (aG 0) (f2 gO (aG 1) (fL eE (aC (aG 0) aM)))) (aG 3)) (f2 rW (f2 rW (aG 1) (aG 1)) (fC (.int 104729)))))
 (aR (cX 4 (f2 gO (aG 4) (fC (.int 2147483647))))
 (cA (f2 gO (f2 rW (aG 4) (aG 4)) (fC (.int 2147483629))))))))
noncomputable def eN:List D→Option D:=fV 5 2 (Bj)
abbrev nF:Stmt:=top 31
noncomputable def tU:GS:=aR (cX 2 (bJ 2 eN (aC (aG 0) (aC (aG 1) aM))))
 (aR (cX 3 (f2 gO (f2 uO (aG 2) (fC (.int 8))) (fC (.int 12))))
 (aR (kZ (fB (f2 vN (f2 gO (aG 2) (fC (.int 8))) (fC (.int 0)))) (cX 3 (Ua (fB (f2 JC (aG 2) (fC (.int 0)))) (f2 gO (f2 fW (f2 Ah (aG 2) (fC (.int 6))) (f2 gO (f2 sG (aG 0) (f2 gO (aG 1) (fL eE (aC (aG 0) aM)))) (f2 Ah (fC (.int 10)) (fC (.int 57))))) (f2 Ah (fC (.int 10)) (fC (.int 57)))) (fC (.int 0)))) bV)
 (aR (kZ (fB (f2 vN (f2 gO (aG 2) (fC (.int 8))) (fC (.int 1)))) (cX 3 (f2 De (f2 De (f2 Ah (fC (.int 10)) (fC (.int 60))) (fC (.int 1))) (f2 gO (f2 uO (aG 2) (fC (.int 8))) (fC (.int 1000))))) bV)
 (aR (kZ (fB (f2 vN (f2 gO (f2 uO (aG 2) (fC (.int 96))) (fC (.int 3))) (fC (.int 0)))) (cA (Av (aG 3))) bV)
 (mW 3)))))
noncomputable def cH:List D→Option D:=fV 4 2 (tU)
abbrev oH:Stmt:=top 32
noncomputable def Bk:GS:=aR (cX 3 (pB aM))
 (aR (kW 4 (iK (aC (aG 1) aM)) (aR (cX 5 (pB aM))
 (aR (kW 6 (iK (aC (aG 2) aM)) (aR (cX 7 (f2 fW (fC (.int 20)) (f2 rW (fC (.int 5)) (f2 fW (f2 rW (aG 4) (aG 2)) (aG 6)))))
 (sO 5 qQ (fL pF (aC (bU (iK (aC (fC (.int 5)) aM)) [0,7] cV (bJ 2 cH (aC (aG 1) (aC (f2 fW (aG 2) (aG 0)) aM)))) aM)))))
 (aR (sO 5 qQ (Hx (aC (bJ 2 cH (aC (aG 0) (aC (f2 fW (fC (.int 10)) (aG 4)) aM))) aM)))
 (wB 3 5)))))
 (mW 3))
noncomputable def lO:List D→Option D:=fV 8 3 (Bk)
abbrev oJ:Stmt:=top 33
noncomputable def Bl:GS:=aR (cX 1 (pB aM))
 (aR (yE [] 2 (gP (aG 0)) (aR (cX 3 (pB aM))
 (aR (yE [2] 4 (gP (aG 2)) (sO 3 qQ (f2 nZ (fC (.str ",")) (bU (gP (aG 4)) [] cV (fL vY (aC (aG 0) aM))))))
 (sO 1 qQ (f2 nZ (fC (.str " ")) (aG 3))))))
 (cA (f2 nZ (fC (.str ";")) (aG 1))))
noncomputable def lQ:List D→Option D:=fV 5 1 (Bl)
abbrev jM:Stmt:=top 16
noncomputable def oK:GS:=cA (fL vY (aC (aG 0) aM))
noncomputable def fZ:List D→Option D:=fV 1 1 (oK)
abbrev gY:Stmt:=top 18
noncomputable def qG:GS:=cA (f2 nZ (fC (.str ",")) (bU (gP (aG 0)) [] cV (bJ 1 fZ (aC (aG 0) aM))))
noncomputable def gZ:List D→Option D:=fV 1 1 (qG)
abbrev jN:Stmt:=top 19
noncomputable def tV:GS:=cA (f2 nZ (fC (.str " ")) (bU (gP (aG 0)) [] cV (bJ 1 gZ (aC (aG 0) aM))))
noncomputable def jO:List D→Option D:=fV 1 1 (tV)
abbrev iB:Stmt:=top 20
noncomputable def qH:GS:=cA (f2 nZ (fC (.str ";")) (bU (gP (aG 0)) [] cV (bJ 1 jO (aC (aG 0) aM))))
noncomputable def iC:List D→Option D:=fV 1 1 (qH)
abbrev mH:Stmt:=top 15
noncomputable def wD:GS:=aR (cX 1 (Ua (fB (f2 yK (aG 0) (fC (.str "-")))) (Rc (aG 0) (yC (fC (.int 1))) (Di)) (Hw (aG 0))))
 (aR (kZ (fY (Dq Fi Fi (fC (.int 1)) (fL vX (aC (aG 1) aM)) (fC (.int (60))))) (cA (fC (.bl false))) bV)
 (aR (kZ (fY (fB (fL Df (aC (bU (Mh (aG 1)) [] cV (f2 Lz (aG 0) (fC (.str "0123456789")))) aM)))) (cA (fC (.bl false))) bV)
 (cA (Hz (f2 Hy (f2 Ie (aG 1) (fC (.int 0))) (fC (.str "0"))) (f2 vN (aG 0) (fC (.str "0")))))))
noncomputable def iQ:List D→Option D:=fV 2 1 (wD)
abbrev lR:Stmt:=top 17
noncomputable def qI:GS:=aR (kZ (Fj (fY (fB (Dr (aG 0)))) (fY (fB (bJ 1 iQ (aC (aG 0) aM))))) Lx bV)
 (cA (fL Ma (aC (aG 0) aM)))
noncomputable def iD:List D→Option D:=fV 1 1 (qI)
abbrev jP:Stmt:=top 21
noncomputable def tW:GS:=aR (cX 2 (bU (gP (f2 jK (aG 0) (fC (.str ",")))) [] cV (bJ 1 iD (aC (aG 0) aM))))
 (aR (kZ (fB (f2 Hy (fL eE (aC (aG 2) aM)) (aG 1))) Lx bV)
 (cA (fL pF (aC (aG 2) aM))))
noncomputable def eY:List D→Option D:=fV 3 2 (tW)
abbrev mJ:Stmt:=top 22
noncomputable def wF:GS:=aR (cX 1 (f2 jK (aG 0) (fC (.str " "))))
 (aR (cX 2 (bU (gP (Yn false (aG 1) (Di) (yC (Av (fC (.int 1)))))) [] cV (bJ 2 eY (aC (aG 0) (aC (fL eE (aC (fC (dTup [0,0,-1,-1,0])) aM)) aM)))))
 (cA (f2 fW (aG 2) (pB (aC (bJ 2 eY (aC (f2 sG (aG 1) (Av (fC (.int 1)))) (aC (fL eE (aC (fC (dTup [0])) aM)) aM))) aM)))))
noncomputable def iR:List D→Option D:=fV 3 1 (wF)
abbrev oM:Stmt:=top 6
noncomputable def Gj:GS:=aR (kZ (Fj (fY (fB (qR "list" (aG 0)))) (fY (Dq Fi Fi (fC (.int 1)) (fL eE (aC (aG 0) aM)) (fC (.int 8))))) (cA (fC (.bl false))) bV)
 (aR (kZ (fY (fB (fL Df (aC (bU (gP (aG 0)) [] cV (qR "list" (aG 0))) aM)))) (cA (fC (.bl false))) bV)
 (cA (qD (Rg Fi Fi (fC (.int 2)) (fL eE (aC (f2 sG (aG 0) (fC (.int 0))) aM)) (fC (.int 9))) (fL Df (aC (bU (gP (aG 0)) [0] cV (f2 vN (fL eE (aC (aG 0) aM)) (fL eE (aC (f2 sG (aG 1) (fC (.int 0))) aM)))) aM)))))
noncomputable def oO:List D→Option D:=fV 1 1 (Gj)
abbrev jQ:Stmt:=top 23
noncomputable def tX:GS:=aR (kZ (fY (fB (Dr (aG 0)))) Lx bV)
 (aR (cX 1 (bU (gP (f2 jK (aG 0) (fC (.str ";")))) [] cV (bJ 1 iR (aC (aG 0) aM))))
 (aR (kZ (fY (fB (bJ 1 oO (aC (aG 1) aM)))) Lx bV)
 (mW 1)))
noncomputable def fD:List D→Option D:=fV 2 1 (tX)
abbrev pO:Stmt:=top 27
noncomputable def wG:GS:=cA (qD (qR "int" (aG 0)) (Aj (qR "bool" (aG 0))))
noncomputable def mK:List D→Option D:=fV 1 1 (wG)
abbrev pP:Stmt:=top 28
noncomputable def wH:GS:=aR (kZ (Fj (fY (fB (qR "tuple" (aG 0)))) (fB (f2 Hy (fL eE (aC (aG 0) aM)) (fL eE (aC (aG 1) aM))))) (cA (fC (.bl false))) bV)
 (aR (yE [] 2 (gP (aG 0)) (kZ (fY (fB (bJ 1 mK (aC (aG 2) aM)))) (cA (fC (.bl false))) bV))
 (cA (f2 vN (aG 0) (aG 1))))
noncomputable def iT:List D→Option D:=fV 3 2 (wH)
abbrev pQ:Stmt:=top 30
noncomputable def wI:GS:=aR (kZ (Fj (fY (fB (qR "list" (aG 0)))) (fB (f2 Hy (fL eE (aC (aG 0) aM)) (fL eE (aC (aG 1) aM))))) (cA (fC (.bl false))) bV)
 (aR (kW 2 (iK (aC (fL eE (aC (aG 1) aM)) aM)) (aR (kZ (Fj (fY (fB (qR "list" (f2 sG (aG 0) (aG 2))))) (fB (f2 Hy (fL eE (aC (f2 sG (aG 0) (aG 2)) aM)) (fL eE (aC (f2 sG (aG 1) (aG 2)) aM))))) (cA (fC (.bl false))) bV)
 (kW 3 (iK (aC (fL eE (aC (f2 sG (aG 1) (aG 2)) aM)) aM)) (kZ (fY (fB (bJ 2 iT (aC (f2 sG (f2 sG (aG 0) (aG 2)) (aG 3)) (aC (f2 sG (f2 sG (aG 1) (aG 2)) (aG 3)) aM))))) (cA (fC (.bl false))) bV))))
 (cA (fC (.bl true))))
noncomputable def fG:List D→Option D:=fV 4 2 (wI)
abbrev Rw:Stmt:=top 34
noncomputable def DP:GS:=aR (cX 1 (f2 fW (fC (.int 1)) (f2 gO (bJ 2 eN (aC (aG 0) (aC (fC (.int 0)) aM))) (fC (.int 8)))))
 (aR (cX 2 (f2 fW (fC (.int 1)) (f2 gO (bJ 2 eN (aC (aG 0) (aC (fC (.int 1)) aM))) (fC (.int 8)))))
 (aR (cX 3 (bJ 3 lO (aC (aG 0) (aC (aG 1) (aC (aG 2) aM)))))
 (aR (cX 4 (bU (gP (aG 3)) [] cV (fL dList (aC (aG 0) aM))))
 (aR (cX 5 (bJ 1 lQ (aC (aG 3) aM)))
 (aR (cX 6 (bJ 1 iC (aC (aG 4) aM)))
 (aR (kZ (Fj (fY (fB (Dr (aG 6)))) (Fj (fB (f2 Hy (aG 6) (aG 5))) (fY (fB (bJ 2 fG (aC (aG 4) (aC (aG 3) aM))))))) (cA (fC (.bl false))) bV)
 (aR (cX 7 (bJ 1 fD (aC (aG 5) aM)))
 (aR (kZ (fY (fB (bJ 2 fG (aC (aG 7) (aC (aG 3) aM))))) (cA (fC (.bl false))) bV)
 (aR (pK 7 (BW qQ (f2 gO (bJ 2 eN (aC (aG 0) (aC (fC (.int 2)) aM))) (aG 1))))
 (cA (bJ 2 fG (aC (bJ 1 fD (aC (aG 5) aM)) (aC (aG 3) aM)))))))))))))
noncomputable def Xy:List D→Option D:=fV 8 1 (DP)
section
variable{P:Program}{w:World}{K:aA}{mg:Str→Option Value}{base:Heap}
theorem iU:bA ["script", "k", "turn", "factor", "mixed"] ["script", "k"] (aF tR):=by walk_at "fs"
theorem Ea(R:Raw K mg "_law_draw" tR) (cP:mg "len" = none):jF P w K mg base "_law_draw" 1 2 (kO K 2 eN):=by
 refine R.lK iU (λ_ _ _ _ _ _ us hl=>match us,hl with | [_,_],_=>rfl) (λ_ _ _ _ _ _ _ hr=>?_)
 have dU:=hr.units
 have hu:=eQ hr
 exact⟨_,aK (eG (iI (or_eq dU rfl) sE (XN.r (cU cD (cF rfl) rfl cP C4 (aD (aJ (pv 0)) aL))) (XN.r (aO)) (dX _)) (aQ (bC aO)) cG)
  (aK (bQ (i:=2) (xU (aJ (pv 1)) (XN.r (cU cD (cF rfl) rfl cP C4 (aD (aJ (pv 0)) aL)))) (λh=>bO iU.nd rfl (by first | exact D5 rfl | exact D3 rfl) h))
  (aK (bQ (i:=3) (fK (XN.r (aO)) (XN.r (lH (XN.r (lH (XN.r (aO)) (aJ (pv 2)))) (aJ (pv 2))))) (λh=>bO iU.nd rfl (by first | exact D5 rfl | exact D3 rfl) h))
  (aK (bQ (i:=4) (fK (XN.r (lH (iJ (aJ (pv 0)) (XN.r (dZ (aJ (pv 1)) (XN.r (cU cD (cF rfl) rfl cP C4 (aD (aJ (pv 0)) aL))))) (λ_ _=>rfl)) (aJ (pv 3)))) (XN.r (lH (XN.r (lH (aJ (pv 1)) (aJ (pv 1)))) (XN.r (aO))))) (λh=>bO iU.nd rfl (by first | exact D5 rfl | exact D3 rfl) h))
  (aK (bQ (i:=4) (dZ (aJ (pv 4)) (XN.r (aO))) (λh=>bO iU.nd rfl (by first | exact D5 rfl | exact D3 rfl) h))
  (aQ (bC (dZ (XN.r (lH (aJ (pv 4)) (aJ (pv 4)))) (XN.r (aO)))))))))⟩
theorem fQ:bA ["script", "k", "some", "number"] ["script", "k"] (aF nF):=by walk_at "fs"
theorem yR(R:Raw K mg "_law_number" nF) (fU:jF P w K mg base "_law_draw" 1 2 (kO K 2 eN)) (cP:mg "len" = none):jF P w K mg base "_law_number" 2 2 (kO K 2 cH):=by
 refine R.lK fQ (λ_ _ _ _ _ _ us hl=>match us,hl with | [_,_],_=>rfl) (λ_ _ _ _ _ _ _ hr=>?_)
 have dU:=hr.units
 have hu:=eQ hr
 exact⟨_,aK (bQ (i:=2) (bF fU (hr.mono (by decide)) rfl (aD (aJ (pv 0)) (aD (aJ (pv 1)) aL))) (λh=>bO fQ.nd rfl (by first | exact D5 rfl | exact D3 rfl) h))
  (aK (bQ (i:=3) (dZ (XN.r (xU (aJ (pv 2)) (XN.r (aO)))) (XN.r (aO))) (λh=>bO fQ.nd rfl (by first | exact D5 rfl | exact D3 rfl) h))
  (aK (eG (iI (or_eq dU rfl) sE (XN.r (dZ (aJ (pv 2)) (XN.r (aO)))) (XN.r (aO)) (dX _)) (aQ (bQ (i:=3) (Ub (iI Zg nA (aJ (pv 2)) (XN.r (aO)) (dX _)) (dZ (XN.r (fK (XN.r (xV (aJ (pv 2)) (XN.r (aO)))) (XN.r (dZ (iJ (aJ (pv 0)) (XN.r (dZ (aJ (pv 1)) (XN.r (cU cD (cF rfl) rfl cP C4 (aD (aJ (pv 0)) aL))))) (λ_ _=>rfl)) (XN.r (xV (XN.r (aO)) (XN.r (aO)))))))) (XN.r (xV (XN.r (aO)) (XN.r (aO))))) aO) (λh=>bO fQ.nd rfl (by first | exact D5 rfl | exact D3 rfl) h))) cG)
  (aK (eG (iI (or_eq dU rfl) sE (XN.r (dZ (aJ (pv 2)) (XN.r (aO)))) (XN.r (aO)) (dX _)) (aQ (bQ (i:=3) (Kz (XN.r (Kz (XN.r (xV (XN.r (aO)) (XN.r (aO)))) (XN.r (aO)))) (XN.r (dZ (XN.r (xU (aJ (pv 2)) (XN.r (aO)))) (XN.r (aO))))) (λh=>bO fQ.nd rfl (by first | exact D5 rfl | exact D3 rfl) h))) cG)
  (aK (eG (iI (or_eq dU rfl) sE (XN.r (dZ (XN.r (xU (aJ (pv 2)) (XN.r (aO)))) (XN.r (aO)))) (XN.r (aO)) (dX _)) (aQ (bC (yH (aJ (pv 3))))) cG)
  (aQ (yD (pv 3)))))))⟩
theorem gD:bA ["script", "panes", "rows", "stone", "pane", "things", "place", "at"] ["script", "panes", "rows"] (aF oH):=by walk_at "fs"
theorem Eb(R:Raw K mg "_law_made" oH) (jR:jF P w K mg base "_law_number" 2 2 (kO K 2 cH)) (jT:mg "range" = none) (jU:mg "tuple" = none):jF P w K mg base "_law_made" 3 3 (kO K 3 lO):=by
 refine R.lK gD (λ_ _ _ _ _ _ us hl=>match us,hl with | [_,_,_],_=>rfl) (λ_ _ _ _ _ _ _ hr=>?_)
 have dU:=hr.units
 have hu:=eQ hr
 exact⟨_,aK (bQ (i:=3) (xY sH) (λh=>bO gD.nd rfl (by first | exact D5 rfl | exact D3 rfl) h))
  (aK (qZ PassesOwn.never rfl (mD rfl jT (aD (aJ (pv 1)) aL)) (gQ (i:=4) gD.nd rfl (by first | exact D5 rfl | exact D3 rfl)) (aK (bQ (i:=5) (xY sH) (λh=>bO gD.nd rfl (by first | exact D5 rfl | exact D3 rfl) h))
  (aK (qZ PassesOwn.never rfl (mD rfl jT (aD (aJ (pv 2)) aL)) (gQ (i:=6) gD.nd rfl (by first | exact D5 rfl | exact D3 rfl)) (aK (bQ (i:=7) (fK (XN.r (aO)) (XN.r (lH (XN.r (aO)) (XN.r (fK (XN.r (lH (aJ (pv 4)) (aJ (pv 2)))) (aJ (pv 6))))))) (λh=>bO gD.nd rfl (by first | exact D5 rfl | exact D3 rfl) h))
  (aQ (yF (Ln (pv 5)) (vQ Ak (Al rfl) rfl jU J9 (aD (XN.r (gW ["j", "script", "at"] [0,7] rfl (.at (aF oH) ["script", "panes", "rows", "stone", "pane", "things", "place", "at"] (by decide +kernel)) (Ib rfl jT (aD (XN.r (aO)) aL)) (dH (by decide +kernel) rfl rfl) (λ_ _ _ _ _=>dJ) (λ_ _ _ _ _=>bF jR (hr.mono (by decide)) rfl (aD (aJ (pv 1)) (aD (XN.r (fK (aJ (pv 2)) (aJ (pv 0)))) aL))))) aL)) (λa b=>lZ (gG F1 G3 G4 gA a (bD b cB)))))))
  (aK (yF (Ln (pv 5)) (Wu (Qm (bF jR (hr.mono (by decide)) rfl (aD (aJ (pv 0)) (aD (XN.r (fK (XN.r (aO)) (aJ (pv 4)))) aL))) sH)) (λa b=>lZ (gG F1 G3 G4 gA a (bD b cB))))
  (aQ (Rj (pv 3) (pv 5) (λa b=>lZ (gG F1 G3 G4 gA a (bD b cB)))))))))
  (aQ (yD (pv 3))))⟩
theorem iV:bA ["stone", "panes", "pane", "words", "thing"] ["stone"] (aF oJ):=by walk_at "fs"
theorem Ec(R:Raw K mg "_law_text" oJ) (nG:mg "str" = none):jF P w K mg base "_law_text" 1 1 (kO K 1 lQ):=by
 refine R.lK iV (λ_ _ _ _ _ _ us hl=>match us,hl with | [_],_=>rfl) (λ_ _ _ _ _ _ _ hr=>?_)
 have dU:=hr.units
 have hu:=eQ hr
 exact⟨_,aK (bQ (i:=1) (xY sH) (λh=>bO iV.nd rfl (by first | exact D5 rfl | exact D3 rfl) h))
  (aK (Dm [] PassesOwn.never rfl (eV (aJ (pv 0))) (gQ (i:=2) iV.nd rfl (by first | exact D5 rfl | exact D3 rfl)) (aK (bQ (i:=3) (xY sH) (λh=>bO iV.nd rfl (by first | exact D5 rfl | exact D3 rfl) h))
  (aK (Dm [2] PassesOwn.never rfl (eV (aJ (pv 2))) (gQ (i:=4) iV.nd rfl (by first | exact D5 rfl | exact D3 rfl)) (aQ (yF (Ln (pv 3)) (mG (XN.r (Dd)) (XN.r (gW ["number"] [] rfl (.at (aF oJ) ["stone", "panes", "pane", "words", "thing"] (by decide +kernel)) (eV (aJ (pv 4))) (dH (by decide +kernel) rfl rfl) (λ_ _ _ _ _=>dJ) (λ_ _ _ _ _=>vQ Fy nQ rfl nG G7 (aD (aJ (pv 0)) aL)))) (λa b=>gG D1 F8 F9 mF a (bD b cB))) (λa b=>lZ (gG F1 G3 G4 gA a (bD b cB))))))
  (aQ (yF (Ln (pv 1)) (mG (XN.r (Dd)) (aJ (pv 3)) (λa b=>gG D1 F8 F9 mF a (bD b cB))) (λa b=>lZ (gG F1 G3 G4 gA a (bD b cB))))))))
  (aQ (bC (mG (XN.r (Dd)) (aJ (pv 1)) (λa b=>gG D1 F8 F9 mF a (bD b cB))))))⟩
theorem uR:bA ["number"] ["number"] (aF jM):=by walk_at "fs"
theorem tY(R:Raw K mg "write_number" jM) (nG:mg "str" = none):jF P w K mg base "write_number" 1 1 (kO K 1 fZ):=by
 refine R.lK uR (λ_ _ _ _ _ _ us hl=>match us,hl with | [_],_=>rfl) (λ_ _ _ _ _ _ _ hr=>?_)
 have dU:=hr.units
 have hu:=eQ hr
 exact⟨_,aQ (bC (vQ Fy nQ rfl nG G7 (aD (aJ (pv 0)) aL)))⟩
theorem yS:bA ["thing"] ["thing"] (aF gY):=by walk_at "fs"
theorem uT(R:Raw K mg "write_thing" gY) (jV:jF P w K mg base "write_number" 1 1 (kO K 1 fZ)) (bL:fO mg "BETWEEN_NUMBERS" ","):jF P w K mg base "write_thing" 2 1 (kO K 1 gZ):=by
 refine R.lK yS (λ_ _ _ _ _ _ us hl=>match us,hl with | [_],_=>rfl) (λ_ _ _ _ _ _ _ hr=>?_)
 have dU:=hr.units
 have hu:=eQ hr
 exact⟨_,aQ (bC (mG (XN.r (mX bL rfl)) (XN.r (gW ["number"] [] rfl (.at (aF gY) ["thing"] (by decide +kernel)) (eV (aJ (pv 0))) (dH (by decide +kernel) rfl rfl) (λ_ _ _ _ _=>dJ) (λ_ _ _ _ _=>bF jV (hr.mono (by decide)) rfl (aD (aJ (pv 0)) aL)))) (λa b=>gG D1 F8 F9 mF a (bD b cB))))⟩
theorem Bm:bA ["pane"] ["pane"] (aF jN):=by walk_at "fs"
theorem yU(R:Raw K mg "write_pane" jN) (lU:jF P w K mg base "write_thing" 2 1 (kO K 1 gZ)) (bZ:fO mg "BETWEEN_THINGS" " "):jF P w K mg base "write_pane" 3 1 (kO K 1 jO):=by
 refine R.lK Bm (λ_ _ _ _ _ _ us hl=>match us,hl with | [_],_=>rfl) (λ_ _ _ _ _ _ _ hr=>?_)
 have dU:=hr.units
 have hu:=eQ hr
 exact⟨_,aQ (bC (mG (XN.r (mX bZ rfl)) (XN.r (gW ["thing"] [] rfl (.at (aF jN) ["pane"] (by decide +kernel)) (eV (aJ (pv 0))) (dH (by decide +kernel) rfl rfl) (λ_ _ _ _ _=>dJ) (λ_ _ _ _ _=>bF lU (hr.mono (by decide)) rfl (aD (aJ (pv 0)) aL)))) (λa b=>gG D1 F8 F9 mF a (bD b cB))))⟩
theorem yV:bA ["stone"] ["stone"] (aF iB):=by walk_at "fs"
theorem uU(R:Raw K mg "write_stone" iB) (nH:jF P w K mg base "write_pane" 3 1 (kO K 1 jO)) (cJ:fO mg "BETWEEN_PANES" ";"):jF P w K mg base "write_stone" 4 1 (kO K 1 iC):=by
 refine R.lK yV (λ_ _ _ _ _ _ us hl=>match us,hl with | [_],_=>rfl) (λ_ _ _ _ _ _ _ hr=>?_)
 have dU:=hr.units
 have hu:=eQ hr
 exact⟨_,aQ (bC (mG (XN.r (mX cJ rfl)) (XN.r (gW ["pane"] [] rfl (.at (aF iB) ["stone"] (by decide +kernel)) (eV (aJ (pv 0))) (dH (by decide +kernel) rfl rfl) (λ_ _ _ _ _=>dJ) (λ_ _ _ _ _=>bF nH (hr.mono (by decide)) rfl (aD (aJ (pv 0)) aL)))) (λa b=>gG D1 F8 F9 mF a (bD b cB))))⟩
theorem tZ:bA ["text", "figures"] ["text"] (aF mH):=by walk_at "fs"
theorem Bo(R:Raw K mg "is_number" mH) (cP:mg "len" = none) (Ed:mg "all" = none) (Ef:fO mg "MINUS" "-") (jW:Fw mg "MOST_FIGURES" (60)) (uA:fO mg "FIGURES" "0123456789") (Gk:fO mg "ZERO" "0"):jF P w K mg base "is_number" 1 1 (kO K 1 iQ):=by
 refine R.lK tZ (λ_ _ _ _ _ _ us hl=>match us,hl with | [_],_=>rfl) (λ_ _ _ _ _ _ _ hr=>?_)
 have dU:=hr.units
 have hu:=eQ hr
 exact⟨_,aK (bQ (i:=1) (Ub (dB (XN.r (Mg (aJ (pv 0)) (XN.r (mX Ef rfl)) (λa b=>gG D1 PySem.F.slot_str_startswith PySem.F.type_str_startswith Mf a (bD b cB))))) (Xo (aJ (pv 0)) (Fo (XN.r (aO))) (Fl)) (XR.n (aJ (pv 0)))) (λh=>bO tZ.nd rfl (by first | exact D5 rfl | exact D3 rfl) h))
  (aK (eG (cT (Ax vA vA nA nA (XN.r (aO)) (XN.r (cU Qy xF rfl cP C4 (aD (aJ (pv 1)) aL))) (XN.r (CG jW rfl)))) (aQ (bC (kE))) cG)
  (aK (eG (cT (dB (XN.r (cU Dg (Dh rfl) rfl Ed K5 (aD (XN.r (gW ["sign"] [] rfl (.at (aF mH) ["text", "figures"] (by decide +kernel)) (Xu (aJ (pv 1))) (dH (by decide +kernel) rfl rfl) (λ_ _ _ _ _=>dJ) (λ_ _ _ _ _=>rY Xj Xi (aJ (pv 0)) (XN.r (mX uA rfl)) (by with_unfolding_all rfl)))) aL))))) (aQ (bC (kE))) cG)
  (aQ (bC (Zz (XN.r (rY (vP dU rfl) vO (XN.r (Xk (aJ (pv 1)) (XN.r (aO)) (λ_ _=>rfl))) (XN.r (mX Gk rfl)) (dX _))) (xZ (rY (or_eq dU rfl) sE (aJ (pv 0)) (XN.r (mX Gk rfl)) (dX _))))))))⟩
theorem yW:bA ["text"] ["text"] (aF lR):=by walk_at "fs"
theorem uV(R:Raw K mg "read_number" lR) (pR:jF P w K mg base "is_number" 1 1 (kO K 1 iQ)) (aN:mg "isinstance" = none) (nG:mg "str" = none) (Ij:mg "int" = none):jF P w K mg base "read_number" 2 1 (kO K 1 iD):=by
 refine R.lK yW (λ_ _ _ _ _ _ us hl=>match us,hl with | [_],_=>rfl) (λ_ _ _ _ _ _ _ hr=>?_)
 have dU:=hr.units
 have hu:=eQ hr
 exact⟨_,aK (eG (XW.xt (sI (cT (dB (XN.r (Ds (aJ (pv 0)) (fH (v:=.ty "str") rfl nG G7 rfl) rfl aN)))) (pD (cT (dB (XN.r (bF pR (hr.mono (by decide)) rfl (aD (aJ (pv 0)) aL)))))))) (aQ (yI)) cG)
  (aQ (bC (vQ Ra Qz rfl Ij O2 (aD (aJ (pv 0)) aL))))⟩
theorem qJ:bA ["text", "many", "numbers"] ["text", "many"] (aF jP):=by walk_at "fs"
theorem yX(R:Raw K mg "read_thing" jP) (lV:jF P w K mg base "read_number" 2 1 (kO K 1 iD)) (cP:mg "len" = none) (jU:mg "tuple" = none) (bL:fO mg "BETWEEN_NUMBERS" ","):jF P w K mg base "read_thing" 3 2 (kO K 2 eY):=by
 refine R.lK qJ (λ_ _ _ _ _ _ us hl=>match us,hl with | [_,_],_=>rfl) (λ_ _ _ _ _ _ _ hr=>?_)
 have dU:=hr.units
 have hu:=eQ hr
 exact⟨_,aK (qY (i:=2) ["word"] [] rfl (.at (aF jP) ["text", "many", "numbers"] (by decide +kernel)) qJ.nd rfl (by first | exact D5 rfl | exact D3 rfl) (eV (XN.r (sW (aJ (pv 0)) (XN.r (mX bL rfl)) (λa b=>gG D1 K0 K1 sV a (bD b cB))))) (dH (by decide +kernel) rfl rfl) (λ_ _ _ _ _=>dJ) (λ_ _ _ _ _=>bF lV (hr.mono (by decide)) rfl (aD (aJ (pv 0)) aL)))
  (aK (eG (iI (vP dU rfl) vO (XN.r (cU cD (cF rfl) rfl cP C4 (aD (aJ (pv 2)) aL))) (aJ (pv 1)) (dX _)) (aQ (yI)) cG)
  (aQ (bC (vQ Ak (Al rfl) rfl jU J9 (aD (aJ (pv 2)) aL)))))⟩
theorem nJ:bA ["text", "words", "records"] ["text"] (aF mJ):=by walk_at "fs"
theorem Bp(R:Raw K mg "read_pane" mJ) (jX:jF P w K mg base "read_thing" 3 2 (kO K 2 eY)) (cP:mg "len" = none) (bZ:fO mg "BETWEEN_THINGS" " ") (jY:vV K mg "BLANK_RECORD" [0,0,-1,-1,0]) (nM:vV K mg "BLANK_SEAL" [0]):jF P w K mg base "read_pane" 4 1 (kO K 1 iR):=by
 refine R.lK nJ (λ_ _ _ _ _ _ us hl=>match us,hl with | [_],_=>rfl) (λ_ _ _ _ _ _ _ hr=>?_)
 have dU:=hr.units
 have hu:=eQ hr
 exact⟨_,aK (bQ (i:=1) (sW (aJ (pv 0)) (XN.r (mX bZ rfl)) (λa b=>gG D1 K0 K1 sV a (bD b cB))) (λh=>bO nJ.nd rfl (by first | exact D5 rfl | exact D3 rfl) h))
  (aK (qY (i:=2) ["word"] [] rfl (.at (aF mJ) ["text", "words", "records"] (by decide +kernel)) nJ.nd rfl (by first | exact D5 rfl | exact D3 rfl) (eV (Lf (aJ (pv 1)) (Fl) (Fo (XN.r (yH (XN.r (aO))))))) (dH (by decide +kernel) rfl rfl) (λ_ _ _ _ _=>dJ) (λ_ _ _ _ _=>bF jX (hr.mono (by decide)) rfl (aD (aJ (pv 0)) (aD (XN.r (cU cD (cF rfl) rfl cP C4 (aD (XN.r (Ue jY rfl)) aL))) aL))))
  (aQ (bC (fK (aJ (pv 2)) (Wt (aD (XN.r (bF jX (hr.mono (by decide)) rfl (aD (iJ (aJ (pv 1)) (XN.r (yH (XN.r (aO)))) (λ_ _=>rfl)) (aD (XN.r (cU cD (cF rfl) rfl cP C4 (aD (XN.r (Ue nM rfl)) aL))) aL)))) aL))))))⟩
theorem Mx:bA ["thing"] ["thing"] (aF oM):=by walk_at "fs"
theorem Ik(R:Raw K mg "is_grid" oM) (cP:mg "len" = none) (aN:mg "isinstance" = none) (lW:mg "list" = none) (Ed:mg "all" = none):jF P w K mg base "is_grid" 1 1 (kO K 1 oO):=by
 refine R.lK Mx (λ_ _ _ _ _ _ us hl=>match us,hl with | [_],_=>rfl) (λ_ _ _ _ _ _ _ hr=>?_)
 have dU:=hr.units
 have hu:=eQ hr
 exact⟨_,aK (eG (XW.xt (sI (cT (dB (XN.r (nC (aJ (pv 0)) (fH (v:=.ty "list") rfl lW G5 rfl) rfl aN)))) (pD (cT (Ax vA vA nA nA (XN.r (aO)) (XN.r (cU cD (cF rfl) rfl cP C4 (aD (aJ (pv 0)) aL))) (XN.r (aO))))))) (aQ (bC (kE))) cG)
  (aK (eG (cT (dB (XN.r (cU Dg (Dh rfl) rfl Ed K5 (aD (XN.r (gW ["pane"] [] rfl (.at (aF oM) ["thing"] (by decide +kernel)) (eV (aJ (pv 0))) (dH (by decide +kernel) rfl rfl) (λ_ _ _ _ _=>dJ) (λ_ _ _ _ _=>nC (aJ (pv 0)) (fH (v:=.ty "list") rfl lW G5 rfl) rfl aN))) aL))))) (aQ (bC (kE))) cG)
  (aQ (bC (Lb (XN.r (Mi vA vA nA nA (XN.r (aO)) (XN.r (cU cD (cF rfl) rfl cP C4 (aD (iJ (aJ (pv 0)) (XN.r (aO)) (λ_ _=>rfl)) aL))) (XN.r (aO)))) (xZ (cU Dg (Dh rfl) rfl Ed K5 (aD (XN.r (gW ["pane", "thing"] [0] rfl (.at (aF oM) ["thing"] (by decide +kernel)) (eV (aJ (pv 0))) (dH (by decide +kernel) rfl rfl) (λ_ _ _ _ _=>dJ) (λ_ _ _ _ _=>rY (or_eq dU rfl) sE (XN.r (cU cD (cF rfl) rfl cP C4 (aD (aJ (pv 0)) aL))) (XN.r (cU cD (cF rfl) rfl cP C4 (aD (iJ (aJ (pv 1)) (XN.r (aO)) (λ_ _=>rfl)) aL))) (dX _)))) aL)))))))⟩
theorem qK:bA ["text", "stone"] ["text"] (aF jQ):=by walk_at "fs"
theorem yZ(R:Raw K mg "read_stone" jQ) (pU:jF P w K mg base "read_pane" 4 1 (kO K 1 iR)) (zA:jF P w K mg base "is_grid" 1 1 (kO K 1 oO)) (aN:mg "isinstance" = none) (nG:mg "str" = none) (cJ:fO mg "BETWEEN_PANES" ";"):jF P w K mg base "read_stone" 5 1 (kO K 1 fD):=by
 refine R.lK qK (λ_ _ _ _ _ _ us hl=>match us,hl with | [_],_=>rfl) (λ_ _ _ _ _ _ _ hr=>?_)
 have dU:=hr.units
 have hu:=eQ hr
 exact⟨_,aK (eG (cT (dB (XN.r (Ds (aJ (pv 0)) (fH (v:=.ty "str") rfl nG G7 rfl) rfl aN)))) (aQ (yI)) cG)
  (aK (qY (i:=1) ["written"] [] rfl (.at (aF jQ) ["text", "stone"] (by decide +kernel)) qK.nd rfl (by first | exact D5 rfl | exact D3 rfl) (eV (XN.r (sW (aJ (pv 0)) (XN.r (mX cJ rfl)) (λa b=>gG D1 K0 K1 sV a (bD b cB))))) (dH (by decide +kernel) rfl rfl) (λ_ _ _ _ _=>dJ) (λ_ _ _ _ _=>bF pU (hr.mono (by decide)) rfl (aD (aJ (pv 0)) aL)))
  (aK (eG (cT (dB (XN.r (bF zA (hr.mono (by decide)) rfl (aD (aJ (pv 1)) aL))))) (aQ (yI)) cG)
  (aQ (yD (pv 1)))))⟩
theorem Eg:bA ["some"] ["some"] (aF pO):=by walk_at "fs"
theorem Bq(R:Raw K mg "_law_whole" pO) (aN:mg "isinstance" = none) (My:mg "bool" = none) (Ij:mg "int" = none):jF P w K mg base "_law_whole" 1 1 (kO K 1 mK):=by
 refine R.lK Eg (λ_ _ _ _ _ _ us hl=>match us,hl with | [_],_=>rfl) (λ_ _ _ _ _ _ _ hr=>?_)
 have dU:=hr.units
 have hu:=eQ hr
 exact⟨_,aQ (bC (Lb (XN.r (nC (aJ (pv 0)) (fH (v:=.ty "int") rfl Ij O2 rfl) rfl aN)) (xZ (Ww (XN.r (nC (aJ (pv 0)) (fH (v:=.ty "bool") rfl My PyProof.Rows.boot_bool rfl) rfl aN))))))⟩
theorem uB:bA ["told", "due", "number"] ["told", "due"] (aF pP):=by walk_at "fs"
theorem Br(R:Raw K mg "_law_tuple" pP) (pW:jF P w K mg base "_law_whole" 1 1 (kO K 1 mK)) (cP:mg "len" = none) (aN:mg "isinstance" = none) (jU:mg "tuple" = none):jF P w K mg base "_law_tuple" 2 2 (kO K 2 iT):=by
 refine R.lK uB (λ_ _ _ _ _ _ us hl=>match us,hl with | [_,_],_=>rfl) (λ_ _ _ _ _ _ _ hr=>?_)
 have dU:=hr.units
 have hu:=eQ hr
 exact⟨_,aK (eG (XW.xt (sI (cT (dB (XN.r (nC (aJ (pv 0)) (fH (v:=.ty "tuple") rfl jU J9 rfl) rfl aN)))) (pD (iI (vP dU rfl) vO (XN.r (cU cD (cF rfl) rfl cP C4 (aD (aJ (pv 0)) aL))) (XN.r (cU cD (cF rfl) rfl cP C4 (aD (aJ (pv 1)) aL))) (dX _))))) (aQ (bC (kE))) cG)
  (aK (Dm [] PassesOwn.never rfl (eV (aJ (pv 0))) (gQ (i:=2) uB.nd rfl (by first | exact D5 rfl | exact D3 rfl)) (aQ (eG (cT (dB (XN.r (bF pW (hr.mono (by decide)) rfl (aD (aJ (pv 2)) aL))))) (aQ (bC (kE))) cG)))
  (aQ (bC (rY (or_eq dU rfl) sE (aJ (pv 0)) (aJ (pv 1)) (dX _)))))⟩
theorem nO:bA ["told", "due", "k", "j"] ["told", "due"] (aF pQ):=by walk_at "fs"
theorem Bu(R:Raw K mg "_law_alike" pQ) (pX:jF P w K mg base "_law_tuple" 2 2 (kO K 2 iT)) (cP:mg "len" = none) (aN:mg "isinstance" = none) (lW:mg "list" = none) (jT:mg "range" = none):jF P w K mg base "_law_alike" 3 2 (kO K 2 fG):=by
 refine R.lK nO (λ_ _ _ _ _ _ us hl=>match us,hl with | [_,_],_=>rfl) (λ_ _ _ _ _ _ _ hr=>?_)
 have dU:=hr.units
 have hu:=eQ hr
 exact⟨_,aK (eG (XW.xt (sI (cT (dB (XN.r (nC (aJ (pv 0)) (fH (v:=.ty "list") rfl lW G5 rfl) rfl aN)))) (pD (iI (vP dU rfl) vO (XN.r (cU cD (cF rfl) rfl cP C4 (aD (aJ (pv 0)) aL))) (XN.r (cU cD (cF rfl) rfl cP C4 (aD (aJ (pv 1)) aL))) (dX _))))) (aQ (bC (kE))) cG)
  (aK (qZ PassesOwn.never rfl (mD rfl jT (aD (XN.r (cU cD (cF rfl) rfl cP C4 (aD (aJ (pv 1)) aL))) aL)) (gQ (i:=2) nO.nd rfl (by first | exact D5 rfl | exact D3 rfl)) (aK (eG (XW.xt (sI (cT (dB (XN.r (nC (iJ (aJ (pv 0)) (aJ (pv 2)) (λ_ _=>rfl)) (fH (v:=.ty "list") rfl lW G5 rfl) rfl aN)))) (pD (iI (vP dU rfl) vO (XN.r (cU cD (cF rfl) rfl cP C4 (aD (iJ (aJ (pv 0)) (aJ (pv 2)) (λ_ _=>rfl)) aL))) (XN.r (cU cD (cF rfl) rfl cP C4 (aD (iJ (aJ (pv 1)) (aJ (pv 2)) (λ_ _=>rfl)) aL))) (dX _))))) (aQ (bC (kE))) cG)
  (aQ (qZ PassesOwn.never rfl (mD rfl jT (aD (XN.r (cU cD (cF rfl) rfl cP C4 (aD (iJ (aJ (pv 1)) (aJ (pv 2)) (λ_ _=>rfl)) aL))) aL)) (gQ (i:=3) nO.nd rfl (by first | exact D5 rfl | exact D3 rfl)) (aQ (eG (cT (dB (XN.r (bF pX (hr.mono (by decide)) rfl (aD (iJ (iJ (aJ (pv 0)) (aJ (pv 2)) (λ_ _=>rfl)) (aJ (pv 3)) (λ_ _=>rfl)) (aD (iJ (iJ (aJ (pv 1)) (aJ (pv 2)) (λ_ _=>rfl)) (aJ (pv 3)) (λ_ _=>rfl)) aL)))))) (aQ (bC (kE))) cG))))))
  (aQ (bC (kE))))⟩
theorem qL:bA ["script", "panes", "rows", "stone", "handed", "due", "told", "back"] ["script"] (aF Rw):=by walk_at "fs"
theorem Xz{f:Addr}{fd:FuncData}(F:Oh K "law" "law" Rw f fd) (fU:jF P w K mg base "_law_draw" 1 2 (kO K 2 eN)) (uC:jF P w K mg base "_law_made" 3 3 (kO K 3 lO)) (uD:jF P w K mg base "_law_text" 1 1 (kO K 1 lQ)) (lX:jF P w K mg base "write_stone" 4 1 (kO K 1 iC)) (iW:jF P w K mg base "_law_alike" 3 2 (kO K 2 fG)) (jZ:jF P w K mg base "read_stone" 5 1 (kO K 1 fD)) (lW:mg "list" = none) (aN:mg "isinstance" = none) (nG:mg "str" = none) (Xg:∀ns:List Int,ns.length≤63→Xy [.lst (ns.map D.int)]=some (.bl true)):rG P w K mg base Jd 6 f fd ["script"] (JM K):=by
 refine F.RG qL (λcdv A outer s H E hr=>?_) Xg
 have dU:=hr.units
 have hu:=eQ hr
 exact⟨_,aK (bQ (i:=1) (fK (XN.r (aO)) (XN.r (dZ (XN.r (bF fU (hr.mono (by decide)) rfl (aD (aJ (pv 0)) (aD (XN.r (aO)) aL)))) (XN.r (aO))))) (λh=>bO qL.nd rfl (by first | exact D5 rfl | exact D3 rfl) h))
  (aK (bQ (i:=2) (fK (XN.r (aO)) (XN.r (dZ (XN.r (bF fU (hr.mono (by decide)) rfl (aD (aJ (pv 0)) (aD (XN.r (aO)) aL)))) (XN.r (aO))))) (λh=>bO qL.nd rfl (by first | exact D5 rfl | exact D3 rfl) h))
  (aK (bQ (i:=3) (bF uC (hr.mono (by decide)) rfl (aD (aJ (pv 0)) (aD (aJ (pv 1)) (aD (aJ (pv 2)) aL)))) (λh=>bO qL.nd rfl (by first | exact D5 rfl | exact D3 rfl) h))
  (aK (qY (i:=4) ["pane"] [] rfl (.at (aF Rw) ["script", "panes", "rows", "stone", "handed", "due", "told", "back"] (by decide +kernel)) qL.nd rfl (by first | exact D5 rfl | exact D3 rfl) (eV (aJ (pv 3))) (dH (by decide +kernel) rfl rfl) (λ_ _ _ _ _=>dJ) (λ_ _ _ _ _=>vQ Qn (Qo rfl) rfl lW G5 (aD (aJ (pv 0)) aL)))
  (aK (bQ (i:=5) (bF uD (hr.mono (by decide)) rfl (aD (aJ (pv 3)) aL)) (λh=>bO qL.nd rfl (by first | exact D5 rfl | exact D3 rfl) h))
  (aK (bQ (i:=6) (bF lX (hr.mono (by decide)) rfl (aD (aJ (pv 4)) aL)) (λh=>bO qL.nd rfl (by first | exact D5 rfl | exact D3 rfl) h))
  (aK (eG (XW.xt (sI (cT (dB (XN.r (Ds (aJ (pv 6)) (fH (v:=.ty "str") rfl nG G7 rfl) rfl aN)))) (sI (iI (vP dU rfl) vO (aJ (pv 6)) (aJ (pv 5)) (dX _)) (pD (cT (dB (XN.r (bF iW (hr.mono (by decide)) rfl (aD (aJ (pv 4)) (aD (aJ (pv 3)) aL)))))))))) (aQ (bC (kE))) cG)
  (aK (bQ (i:=7) (bF jZ (hr.mono (by decide)) rfl (aD (aJ (pv 5)) aL)) (λh=>bO qL.nd rfl (by first | exact D5 rfl | exact D3 rfl) h))
  (aK (eG (cT (dB (XN.r (bF iW (hr.mono (by decide)) rfl (aD (aJ (pv 7)) (aD (aJ (pv 3)) aL)))))) (aQ (bC (kE))) cG)
  (aK (Lr (BX (Ln (pv 7)) (XN.r (dZ (XN.r (bF fU (hr.mono (by decide)) rfl (aD (aJ (pv 0)) (aD (XN.r (aO)) aL)))) (aJ (pv 1)))) (λ_ _=>rfl)) (λa=>lZ (Wd F1 PySem.F.slot_list_clear PySem.F.type_list_clear Kd a)))
  (aQ (bC (bF iW (hr.mono (by decide)) rfl (aD (XN.r (bF jZ (hr.mono (by decide)) rfl (aD (aJ (pv 5)) aL))) (aD (aJ (pv 3)) aL))))))))))))))⟩
end
end Rs

namespace Rs
open PySem L2
local macro_rules | `(tactic| walk_at "lt")=>`(tactic| exact Nat.le_of_ble_eq_true rfl)
local macro_rules | `(tactic| walk_at "sc")=>`(tactic| first | omega | with_reducible assumption | exact Q0 (by decide) | exact JX (by omega) (by omega) | exact JZ (by omega) (by omega))
local macro_rules | `(tactic| walk_at "op")=>`(tactic| first | with_reducible assumption | with_reducible exact gC _ _ | with_reducible exact sY _ _ | with_reducible exact oE _ _ | with_reducible exact Ge _ _ | with_reducible exact dLt_int _ _ | with_reducible exact yL _ _ | with_reducible exact dGe_int _ _ | with_reducible exact yM _ _ | with_reducible exact pN _ | with_reducible exact tE _ | with_reducible exact oF _ | ((with_reducible apply sZ);walk_at "sc") | ((with_reducible apply eH);walk_at "sc") | ((with_reducible apply tD);(walk_at "sc");walk_at "sc") | ((with_reducible apply lM);exact⟨by decide,by decide,by omega⟩) | ((with_reducible apply Bd);(walk_at "sc");walk_at "sc"))
local macro_rules | `(tactic| walk_at "ea")=>`(tactic| first | with_reducible exact Ms | ((with_reducible apply aB);(walk_at "ev");walk_at "ea"))
local macro_rules | `(tactic| walk_at "ev")=>`(tactic| first | ((with_reducible apply Rq);exact rfl) | with_reducible exact CW | with_reducible assumption | ((with_reducible apply aU);(walk_at "ev");(walk_at "ev");walk_at "op") | ((with_reducible apply dF);(walk_at "ea");walk_at "op") | ((with_reducible apply aW);(walk_at "ea");exact rfl;with_reducible assumption) | ((with_reducible apply Gb);(walk_at "ev");exact rfl) | ((with_reducible apply yO);walk_at "ev") | ((with_reducible apply Gg);(walk_at "ea");walk_at "lt") | ((with_reducible apply Gh);(walk_at "ea");walk_at "lt"))
local macro_rules | `(tactic| walk_at "et")=>`(tactic| first | ((with_reducible apply bR);walk_at "et") | ((with_reducible apply yP);(walk_at "et");walk_at "et") | ((with_reducible apply fAnd_ok);(walk_at "et");walk_at "et") | ((with_reducible apply bW);walk_at "ev"))
local macro_rules | `(tactic| walk_at "set")=>`(tactic| (apply tK;(walk_at "ev");(walk_at "lt")))
local macro_rules | `(tactic| walk_at "q")=>`(tactic| (apply eU;(walk_at "ev");(walk_at "lt")))
def lY(ns:List Int)(k:Int):Int:=if ns.length=0 then 0 else
 ((ns.getD (k%ns.length).toNat 0*(48271+7919*(k/ns.length)*(k/ns.length))+k*k*104729)%2147483647)*((ns.getD (k%ns.length).toNat 0*(48271+7919*(k/ns.length)*(k/ns.length))+k*k*104729)%2147483647)%2147483629
theorem Rx(ns:List Int)(k:Int):0≤lY ns k∧lY ns k<2147483629:=by
 unfold lY
 split
 ·exact⟨by decide,by decide⟩
 ·exact⟨F3 _ (by decide),E7 _ (by decide)⟩
theorem rA{ns:List Int}{k:Int}(hl:ns.length≤63)(h0:0≤k)(h1:k≤1000):eN [cI ns,.int k]=some (.int (lY ns k)):=by
 refine fP rfl ?_
 unfold Bj lY
 by_cases c:ns.length=0
 ·rw[if_pos c]
  apply Xw
  ·walk_at "et"
  ·exact decide_eq_true (by omega)
  apply CV
  ·walk_at "ev"
  ·rfl
 ·rw[if_neg c]
  have cp:(0:Int)<ns.length:=by omega
  have cq:(ns.length:Int)<1073741824:=by omega
  have m0:=F3 k (show (ns.length:Int)≠0 by omega)
  have m1:=E7 k cp
  have t0:0≤k/(ns.length:Int):=Int.ediv_nonneg h0 (by omega)
  have t1:k/(ns.length:Int)≤1000:=Int.le_trans (Int.ediv_le_self _ h0) h1
  apply Mp
  ·walk_at "et"
  ·exact decide_eq_false (by omega)
  apply Ul
  apply tK
  ·walk_at "ev"
  ·walk_at "lt"
  generalize k/(ns.length:Int)=tn at *
  have q1:0≤tn*tn:=O3 t0 t0
  have q2:tn*tn≤1000*1000:=O4 t1 t1 t0 (by decide)
  have q3:7919*tn*tn=7919*(tn*tn):=Int.mul_assoc _ _ _
  apply tK
  ·walk_at "ev"
  ·walk_at "lt"
  have k2:0≤k*k:=O3 h0 h0
  have k3:k*k≤1000*1000:=O4 h1 h1 h0 (by decide)
  apply tK
  ·walk_at "ev"
  ·walk_at "lt"
  apply tK
  ·walk_at "ev"
  ·walk_at "lt"
  generalize hM:(ns.getD (k%ns.length).toNat 0*(48271+7919*tn*tn)+k*k*104729)%2147483647=M
  have b0:0≤M:=by rw[←hM];exact F3 _ (by decide)
  have b1:M<2147483647:=by rw[←hM];exact E7 _ (by decide)
  apply fM
  walk_at "ev"
theorem Mz(i:Int):mK [.int i]=some (.bl true):=by
 refine fP rfl ?_
 unfold wG
 apply fM
 exact Ro (jL rfl rfl) (Mq (b:=false) (jL rfl rfl))
theorem Nb(ns:List Int):iT [dTup ns,dTup ns]=some (.bl true):=by
 suffices h:∃d,iT [dTup ns,dTup ns]=some d∧d=.bl true by
  obtain⟨d,h1,rfl⟩:=h
  exact h1
 refine gK rfl ?_
 unfold wH
 have hlen:eE [dTup ns]=some (.int ns.length):=by unfold dTup;rw[oF,B6]
 apply kY
 ·apply yP
  ·exact bR (bW (b:=true) (jL rfl rfl))
  ·walk_at "et"
 ·rw[decide_eq_true rfl];rfl
 apply nD
 refine Mv (xs:=ns.map D.int) (pH:=[.fro (dTup ns),.fro (dTup ns),.no]) (λn env=>∃v,env=[.fro (dTup ns),.fro (dTup ns),v]) rfl (tL rfl) ⟨_,rfl⟩ ?_ ?_
 ·rintro k x env hx ⟨v,rfl⟩
  rw[C3]at hx
  cases q:ns[k]? with
  | none=>rw[q]at hx;cases hx
  | some z=>
   rw[q]at hx
   cases hx
   have hw:=Mz z
   refine⟨by walk_at "lt", ?_⟩
   apply Mt
   ·walk_at "et"
   ·rfl
   exact⟨_,rfl,_,rfl⟩
 ·rintro env' ⟨v,rfl⟩
  apply lN
  ·exact aU rfl rfl (Rp ns ns)
  ·exact⟨_,rfl,by rw[decide_eq_true rfl]⟩
def bH(p:List (List Int)):D:=.lst (p.map dTup)
def aV(s:List (List (List Int))):D:=.lst (s.map bH)
theorem Bv{s:List (List (List Int))}{k:Nat}{p:List (List Int)}(h:s[k]?=some p):sG (aV s) (.int k)=some (bH p):=by
 unfold aV
 exact Gf (by omega) (by rw[G9,C3,h];rfl)
theorem Gi{p:List (List Int)}{k:Nat}{t:List Int}(h:p[k]?=some t):sG (bH p) (.int k)=some (dTup t):=by
 unfold bH
 exact Gf (by omega) (by rw[G9,C3,h];rfl)
theorem wJ(s:List (List (List Int))):eE [aV s]=some (.int s.length):=by unfold aV;rw[tE,B6]
theorem oR(p:List (List Int)):eE [bH p]=some (.int p.length):=by unfold bH;rw[tE,B6]
theorem Nf(s:List (List (List Int)))(hs:s.length≤1000)(hp:∀p∈s,p.length≤1000):fG [aV s,aV s]=some (.bl true):=by
 suffices h:∃d,fG [aV s,aV s]=some d∧d=.bl true by
  obtain⟨d,h1,rfl⟩:=h
  exact h1
 refine gK rfl ?_
 unfold wI
 have hlen:=wJ s
 apply kY
 ·apply yP
  ·exact bR (bW (b:=true) (jL rfl rfl))
  ·walk_at "et"
 ·rw[decide_eq_true rfl];rfl
 apply nD
 refine yQ (n:=s.length) (λn env=>∃v2 v3,env=[.fro (aV s),.fro (aV s),v2,v3]) (oG (aB (dF (aB rfl rfl) hlen) rfl) (by omega)) ⟨_,_,rfl⟩ ?_ ?_
 ·rintro k env hk ⟨v2,v3,rfl⟩
  refine⟨by walk_at "lt", ?_⟩
  have ep:s[k]?=some s[k]:=B4 hk
  have ix:=Bv ep
  have lp:=oR s[k]
  have hpl:=hp _ (N0 hk)
  apply kY
  ·apply yP
   ·exact bR (bW (b:=true) (jL (aU rfl rfl ix) rfl))
   ·walk_at "et"
  ·rw[decide_eq_true rfl];rfl
  apply nD
  refine Mu (n:=s[k].length) (λn env=>∃v3,env=[.fro (aV s),.fro (aV s),.fro (.int k),v3]) (oG (aB (dF (aB (aU rfl rfl ix) rfl) lp) rfl) (by omega)) ⟨_,rfl⟩ ?_ ?_
  ·rintro j env hj ⟨v3,rfl⟩
   refine⟨by walk_at "lt", ?_⟩
   have et:s[k][j]?=some s[k][j]:=B4 hj
   have VG:=Gi et
   have ht:=Nb s[k][j]
   apply Mt
   ·walk_at "et"
   ·rfl
   exact⟨_,rfl,_,rfl⟩
  ·rintro env' ⟨v3,rfl⟩
   exact⟨_,rfl,_,_,rfl⟩
 ·rintro env' ⟨v2,v3,rfl⟩
  apply lN
  ·walk_at "ev"
  ·exact⟨_,rfl,rfl⟩
theorem Il{fi:FA}{fr:List Nat}{e:DE}{s:List (List (List Int))}(h1:fi e=some (s.map bH))(hs:s.length≤1000):bU fi fr cV (fL dList (aC (aG 0) aM)) e=some (aV s):=by
 unfold aV
 exact bY (φ:=bH) h1 hs λp hp=>by
  unfold bH
  exact dF (aB rfl rfl) (Ii (Bf λd hd=>by obtain⟨t,_,rfl⟩:=G6.mp hd;exact tM t))
theorem Bw(r:Int):∃P:Nat,1+r%8=(P:Int)∧1≤P∧P≤8:=by
 have h0:=F3 r (by decide:(8:Int)≠0)
 have h1:=E7 r (by decide:(0:Int)<8)
 exact⟨(1+r%8).toNat,by omega,by omega,by omega⟩
def sS(l:List Nat):Str:=⟨l.toArray⟩
theorem gM(l:List Nat):(sS l).length=l.length:=B3 ..
theorem oU(l:List Nat):(sS l).cps.toList=l:=rfl
theorem Ng(a b:List Nat):sS a++sS b=sS (a++b):=Str.ext' (by show a.toArray++b.toArray=(a++b).toArray;simp)
theorem Eh(x:Str):x=sS x.cps.toList:=Str.ext' (by show x.cps=x.cps.toList.toArray;simp)
theorem uE(s:String):J8 s=sS (s.toList.map Char.toNat):=by rw[Eh (J8 s),PyProof.Rows.signs_ofString]
theorem Nh{a b:List Nat}(h:sS a=sS b):a=b:=by
 have:=congrArg (λx:Str=>x.cps.toList) h
 exact this
theorem KH:("-" : Str)=sS [45]:=uE "-"
theorem KJ:("0" : Str)=sS [48]:=uE "0"
theorem KN:("0123456789" : Str)=sS [48,49,50,51,52,53,54,55,56,57]:=uE "0123456789"
theorem Ry(a b:Str):vN (.str a) (.str b)=some (.bl (a==b)):=by
 unfold vN
 show (if zU (V.str a) (V.str b)=true then _ else _)=_
 rw[show zU (V.str a) (V.str b)=true from rfl,if_pos rfl,qU]
theorem Gm(a b:Str):Hy (.str a) (.str b)=some (.bl (!(a==b))):=by
 unfold Hy
 show (if zU (V.str a) (V.str b)=true then _ else _)=_
 rw[show zU (V.str a) (V.str b)=true from rfl,if_pos rfl,qU]
theorem Yb(a b:List Nat):(sS a==sS b)=(a==b):=by
 rw[G0,beq_iff_eq,beq_iff_eq]
 exact⟨Nh,λh=>by rw[h]⟩
theorem Rz{l:List Nat}{i:Int}{c:Nat}(h0:0≤i)(h:l[i.toNat]?=some c)(hl:l.length≤100000):Ie (.str (sS l)) (.int i)=some (.str (sS [c])):=by
 unfold Ie
 dsimp only
 rw[if_pos (by rw[gM];exact hl),oU,yN h0 h]
 rfl
theorem Ni(l:List Nat)(h:l.length≤100000):vX [.str (sS l)]=some (.int l.length):=by
 unfold vX
 dsimp only
 rw[gM,if_pos h]
theorem Sd(c:Nat)(l:List Nat):Txt.startswith (sS (c::l)) (sS [45])=(c==45):=by
 unfold Txt.startswith
 rw[StrLaws.subAt_eq,gM,gM,oU,oU,show decide (0+[45].length≤(c::l).length)=true from decide_eq_true (by simp),Bool.true_and]
 show ([c]==[45])=(c==45)
 simp
theorem Sg{c:Nat}(h1:48≤c)(h2:c≤57):Ly (sS [48,49,50,51,52,53,54,55,56,57]) (sS [c])=true:=by
 have:∀d:Nat,d<10→Ly (sS [48,49,50,51,52,53,54,55,56,57]) (sS [48+d])=true:=by decide +kernel
 have h:=this (c-48) (by omega)
 rw[show 48+(c-48)=c by omega]at h
 exact h
def qT(m:Nat):List Nat:=(N2 10 m).map Char.toNat
theorem PL(d:Nat)(h:d<10):(L8 d).toNat=48+d:=by
 have:∀d:Nat,d<10→(L8 d).toNat=48+d:=by decide
 exact this d h
theorem zB{m:Nat}(h:m<10):qT m=[48+m]:=by
 unfold qT
 rw[N4 h]
 show [(L8 m).toNat]=_
 rw[PL m h]
theorem Ei{m:Nat}(h:10≤m):qT m=qT (m/10)++[48+m%10]:=by
 have hm:m%10<10:=Nat.mod_lt m (by decide)
 have t:N2 10 (m/10)++N2 10 (m%10)=N2 10 (10*(m/10)+m%10):=Nat.toDigits_append_toDigits (by decide) (by omega) hm
 rw[Nat.div_add_mod]at t
 unfold qT
 rw[←t,E5,N4 hm]
 show _++[(L8 (m%10)).toNat]=_
 rw[PL _ hm]
theorem oV(m:Nat):∀c∈qT m,48≤c∧c≤57:=by
 induction m using N7 with
 | _ m ih=>
  intro c hc
  by_cases h:m<10
  ·rw[zB h]at hc
   rw[E6.mp hc]
   omega
  ·rw[Ei (by omega)]at hc
   rcases F2.mp hc with q | q
   ·exact ih (m/10) (by omega) c q
   ·rw[E6.mp q]
    omega
theorem rB(m:Nat):∀k,1≤k→m<10 ^ k→1≤(qT m).length∧(qT m).length≤k:=by
 induction m using N7 with
 | _ m ih=>
  intro k h1 hk
  by_cases h:m<10
  ·rw[zB h]
   exact⟨B7 _,h1⟩
  ·have hk2:k≠1:=λz=>by subst z;omega
   have e:(10:Nat) ^ k=10 ^ (k-1)*10:=by rw[←Nat.pow_succ];congr 1;omega
   have:=ih (m/10) (by omega) (k-1) (by omega) (by rw[e]at hk;omega)
   rw[Ei (by omega),D2,F7]
   omega
theorem Bx(m:Nat):0<m→∃c t,qT m=c::t∧c≠48:=by
 induction m using N7 with
 | _ m ih=>
  intro h0
  by_cases h:m<10
  ·exact⟨48+m,[],zB h,by omega⟩
  ·obtain⟨c,t,e,hc⟩:=ih (m/10) (by omega) (by omega)
   exact⟨c,t++[48+m%10],by rw[Ei (by omega),e];rfl,hc⟩
theorem Sh(m:Nat):yJ (m:Int)=sS (qT m):=by
 unfold yJ
 rw[Eh (J8 _),PySem.W.KIN.signs_num]
 rfl
theorem Sq(m:Nat)(h:0<m):yJ (-(m:Int))=sS (45::qT m):=by
 obtain⟨k,rfl⟩:∃k,m=k+1:=⟨m-1,by omega⟩
 unfold yJ
 rw[uE]
 show sS (("-" ++ Nat.repr (k+1)).toList.map Char.toNat)=_
 rw[String.toList_append,Nat.toList_repr,E5]
 rfl
theorem Ss{m:Nat}(h:m<10 ^ 60):J2 (sS (qT m))=some (m:Int):=by
 obtain⟨h1,h2⟩:=rB m 60 (by decide) h
 rw[PySem.intText_digits (x:=sS (qT m)) (oV m) (λz=>by rw[oU]at z;rw[z]at h1;simp at h1) (by rw[gM];omega),oU]
 exact congrArg (λn:Nat=>some (n:Int)) (O5 m)
theorem Su{m:Nat}(h:m<10 ^ 60):J2 (sS (45::qT m))=some (-(m:Int)):=by
 obtain⟨h1,h2⟩:=rB m 60 (by decide) h
 rw[PySem.intText_neg (x:=sS (45::qT m)) (cs:=qT m) rfl (oV m) (λz=>by rw[z]at h1;simp at h1) (by rw[gM,E3];omega)]
 exact congrArg (λn:Nat=>some (-(n:Int))) (O5 m)
def txt(n:Int):List Nat:=if n<0 then 45::qT n.natAbs else qT n.natAbs
theorem Gn(n:Int):yJ n=sS (txt n):=by
 unfold txt
 by_cases h:n<0
 ·rw[if_pos h]
  have e:=Sq n.natAbs (by omega)
  rw[show -((n.natAbs:Nat):Int)=n by omega]at e
  exact e
 ·rw[if_neg h]
  have e:=Sh n.natAbs
  rw[show ((n.natAbs:Nat):Int)=n by omega]at e
  exact e
theorem zF{f1 f2 f3:FE}{e:DE}{a b c:Int}(h1:f1 e=some (.int a))(h2:f2 e=some (.int b))(h3:f3 e=some (.int c)):Dq Fi Fi f1 f2 f3 e=some (decide (a≤b)&&decide (b≤c)):=by
 unfold Dq
 rw[h1,h2,h3]
 dsimp only[C5]
 rw[yM,C5]
 by_cases q:a≤b
 ·rw[decide_eq_true q]
  dsimp only
  rw[yM]
  rfl
 ·rw[decide_eq_false q]
  rfl
theorem By(c:Nat)(l:List Nat):yK (.str (sS (c::l))) (.str (sS [45]))=some (.bl (c==45)):=by
 show some (D.bl (Txt.startswith (sS (c::l)) (sS [45])))=_
 rw[Sd]
theorem zG{f:FE}{e:DE}{x:Str}(h:f e=some (.str x)):Dr f e=some (.bl true):=by unfold Dr;rw[h];rfl
theorem uF{l:List Nat}{x:Str}(h1:1≤l.length)(h2:l.length≤60)(hf:∀c∈l,48≤c∧c≤57)(hz:l.head?=some 48→x=sS [48]) :
  Qs (λr=>∃d,r=.ret d∧d=.bl true) ((aR (kZ (fY (Dq Fi Fi (fC (.int 1)) (fL vX (aC (aG 1) aM)) (fC (.int (60))))) (cA (fC (.bl false))) bV)
 (aR (kZ (fY (fB (fL Df (aC (bU (Mh (aG 1)) [] cV (f2 Lz (aG 0) (fC (.str (sS [48,49,50,51,52,53,54,55,56,57]))))) aM)))) (cA (fC (.bl false))) bV)
 (cA (Hz (f2 Hy (f2 Ie (aG 1) (fC (.int 0))) (fC (.str (sS [48])))) (f2 vN (aG 0) (fC (.str (sS [48])))))))) [.fro (.str x),.own (.str (sS l))]):=by
 refine kY (bR (zF (a:=1) (b:=l.length) (c:=60) rfl (dF (aB rfl rfl) (Ni l (by omega))) rfl)) ?_ (nD ?_)
 ·rw[decide_eq_true (show (1:Int)≤l.length by omega),decide_eq_true (show (l.length:Int)≤60 by omega)]
  rfl
 have hc:bU (Mh (aG 1)) [] cV (f2 Lz (aG 0) (fC (.str (sS [48,49,50,51,52,53,54,55,56,57])))) (rE [.fro (.str x),.own (.str (sS l))])=some (.lst (l.map λc=>D.bl ((λ_=>true) c))):=by
  refine bY (xs:=l) (ψ:=λc=>D.str ⟨#[c]⟩) (φ:=λc=>D.bl true) rfl (by omega) λc hc=>?_
  refine aU rfl rfl ?_
  show some (D.bl (Ly (sS [48,49,50,51,52,53,54,55,56,57]) (sS [c])))=_
  rw[Sg (hf c hc).1 (hf c hc).2]
 refine kY (bR (bW (dF (aB hc rfl) (tQ (λ_=>true) l)))) ?_ (nD ?_)
 ·simp
 obtain⟨c,t,rfl⟩:∃c t,l=c::t:=by
  cases l with
  | nil=>simp at h1
  | cons c t=>exact⟨c,t,rfl⟩
 refine lN (Ru (aU (aU rfl rfl (Rz (c:=c) (by decide) rfl (by omega))) rfl (Gm _ _)) (aU rfl rfl (Ry _ _))) ⟨_,rfl,?_⟩
 by_cases q:c=48
 ·subst q
  rw[hz rfl]
  simp
 ·rw[Yb]
  simp[q]
theorem Nj{n:Int}(h:n.natAbs<10 ^ 60):iQ [.str (sS (txt n))]=some (.bl true):=by
 suffices hh:∃d,iQ [.str (sS (txt n))]=some d∧d=.bl true by
  obtain⟨d,h1,rfl⟩:=hh
  exact h1
 obtain⟨h1,h2⟩:=rB n.natAbs 60 (by decide) h
 have hf:=oV n.natAbs
 refine gK rfl ?_
 unfold wD
 rw[KH,KJ,KN]
 by_cases c:n<0
 ·have et:txt n=45::qT n.natAbs:=by unfold txt;rw[if_pos c]
  obtain⟨a,t,e,ha⟩:=Bx n.natAbs (by omega)
  rw[et]
  refine eU (d:=.str (sS (qT n.natAbs))) (Um (bW (aU rfl rfl (By 45 _))) ?_) (by exact Nat.le_of_ble_eq_true rfl) (uF h1 h2 hf λz=>?_)
  ·unfold Rc
   show (Rb (.str (sS (45::qT n.natAbs))) (some 1) none)=_
   unfold Rb
   dsimp only
   rw[if_pos ⟨rfl,rfl,by rw[gM,E3];omega,by rw[gM,E3];omega⟩]
   rfl
  ·rw[e]at z
   cases z
   exact absurd rfl ha
 ·have et:txt n=qT n.natAbs:=by unfold txt;rw[if_neg c]
  rw[et]
  obtain⟨a,t,e⟩:∃a t,qT n.natAbs=a::t:=by
   cases q:qT n.natAbs with
   | nil=>rw[q]at h1;simp at h1
   | cons a t=>exact⟨a,t,rfl⟩
  have ha:=hf a (by rw[e];exact C6)
  refine eU (d:=.str (sS (qT n.natAbs))) (Uo ?_ (Gb rfl rfl)) (by exact Nat.le_of_ble_eq_true rfl) (uF h1 h2 hf λz=>?_)
  ·rw[e]
   refine(bW (aU rfl rfl (By a t))).trans ?_
   rw[show (a==45)=false from beq_eq_false_iff_ne.mpr (by omega)]
  ·by_cases q:n.natAbs=0
   ·rw[q,zB (by decide)]
   ·obtain⟨a',t',e',ha'⟩:=Bx n.natAbs (by omega)
    rw[e']at z
    cases z
    exact absurd rfl ha'
theorem Sv{n:Int}(h:n.natAbs<10 ^ 60):J2 (sS (txt n))=some n:=by
 unfold txt
 by_cases c:n<0
 ·rw[if_pos c,Su h]
  exact congrArg some (by omega)
 ·rw[if_neg c,Ss h]
  exact congrArg some (by omega)
theorem Gp{n:Int}(h:n.natAbs<10 ^ 60):(txt n).length≤61:=by
 obtain⟨h1,h2⟩:=rB n.natAbs 60 (by decide) h
 unfold txt
 split
 ·rw[E3];omega
 ·omega
theorem Nk{n:Int}(h:n.natAbs<10 ^ 60):iD [.str (sS (txt n))]=some (.int n):=by
 refine fP rfl ?_
 unfold qI
 refine Mp (b:=false) ((Ga (bR (b:=true) (bW (zG rfl)))).trans (bR (bW (aW (aB rfl rfl) rfl (Nj h))))) rfl (Ul ?_)
 refine fM (dF (aB rfl rfl) ?_)
 show (if(sS (txt n)).length≤640 then(J2 (sS (txt n))).map D.int else none)=_
 rw[if_pos (by rw[gM];have:=Gp h;omega),Sv h]
 rfl
theorem Im{n:Int}(h:n.natAbs<10 ^ 60):fZ [.int n]=some (.str (sS (txt n))):=by
 refine fP rfl ?_
 unfold oK
 refine fM (dF (aB rfl rfl) ?_)
 show (if n.natAbs.log2<1920 then some (D.str (yJ n))else none)=_
 have hl:n.natAbs.log2<1920:=by
  by_cases c:n.natAbs=0
  ·rw[c];decide
  ·rw[Nat.log2_lt c]
   exact Nat.lt_trans h (by decide)
 rw[if_pos hl,Gn]
def jn(c:Nat):List (List Nat)→List Nat
 | []=>[]
 | [x]=>x
 | x::y::r=>x++c::jn c (y::r)
def jr(c:Nat):List (List Nat)→List Nat
 | []=>[]
 | y::r=>c::jn c (y::r)
theorem DQ(c:Nat)(x:List Nat)(r:List (List Nat)):jn c (x::r)=x++jr c r:=by
 cases r with
 | nil=>show x=x++[];rw[J5]
 | cons y r=>rfl
theorem Gq{c:Nat}{x:List Nat}(h:c∉x):∀a∈x,(a != c)=true:=λa ha=>bne_iff_ne.mpr λe=>h (e▸ha)
theorem DR(c:Nat)(r:List (List Nat)):(jr c r).takeWhile (· != c)=[]∧(jr c r).dropWhile (· != c)=jr c r:=by
 cases r with
 | nil=>exact⟨rfl,rfl⟩
 | cons y r=>
  unfold jr
  rw[List.takeWhile_cons,List.dropWhile_cons]
  simp
theorem Up{c:Nat}{x:List Nat}(r:List (List Nat))(h:c∉x):(jn c (x::r)).takeWhile (· != c)=x∧(jn c (x::r)).dropWhile (· != c)=jr c r:=by
 obtain⟨h1,h2⟩:=DR c r
 rw[DQ,List.takeWhile_append_of_pos (Gq h),List.dropWhile_append_of_pos (Gq h),h1,h2,J5]
 exact⟨rfl,rfl⟩
theorem Nm{c:Nat}:∀{l l':List (List Nat)},l≠[]→l'≠[]→(∀x∈l,c∉x)→(∀x∈l',c∉x)→jn c l=jn c l'→l=l'
 | [],_,h,_,_,_,_=>absurd rfl h
 | _::_,[],_,h,_,_,_=>absurd rfl h
 | x::r,y::r',_,_,h1,h2,e=>by
  obtain⟨a1,a2⟩:=Up r (h1 x C6)
  obtain⟨b1,b2⟩:=Up r' (h2 y C6)
  have ex:x=y:=by rw[←a1,←b1,e]
  have er:jr c r=jr c r':=by rw[←a2,←b2,e]
  subst ex
  congr 1
  cases r with
  | nil=>
   cases r' with
   | nil=>rfl
   | cons z r'=>cases er
  | cons w r=>
   cases r' with
   | nil=>cases er
   | cons z r'=>
    injection er with _ er
    exact Nm (Q7 _ _) (Q7 _ _) (λu hu=>h1 u (B9 _ hu)) (λu hu=>h2 u (B9 _ hu)) er
theorem zH(c:Nat):∀l:List (List Nat),Str.join (sS [c]) (l.map sS)=sS (jn c l)
 | []=>rfl
 | [x]=>rfl
 | x::y::r=>by
  show sS x++sS [c]++Str.join (sS [c]) ((y::r).map sS)=_
  rw[zH c (y::r),Ng,Ng,List.append_assoc]
  rfl
theorem Np{c:Nat}{l:List (List Nat)}(h0:l≠[])(h:∀x∈l,c∉x):Txt.split (sS (jn c l)) (sS [c])=l.map sS:=by
 have hj:=StrLaws.join_split (sS (jn c l)) (sS [c])
 have hp:=PyProof.Rows.split_pos (sS (jn c l)) (sS [c])
 have hf:=StrLaws.split_free (sS (jn c l)) c
 have hf:∀q∈Txt.split (sS (jn c l)) (sS [c]),c∉q.cps.toList:=hf
 generalize Txt.split (sS (jn c l)) (sS [c])=qs at *
 have e:qs=(qs.map λq=>q.cps.toList).map sS:=by
  rw[G2]
  conv=>lhs;rw[←List.map_id qs]
  exact O9 λq _=>Eh q
 rw[e,zH]at hj
 have:=Nm (c:=c) (l:=qs.map λq=>q.cps.toList) (l':=l) (λz=>by
  have z:=congrArg List.length z
  rw[B6]at z
  have z:qs.length=0:=z
  omega) h0 (λx hx=>by
  obtain⟨q,hq,rfl⟩:=G6.mp hx
  exact hf q hq) h (Nh hj)
 rw[e,this]
def wt:List (List Nat)→Nat
 | []=>0
 | x::r=>x.length+1+wt r
theorem Gr:∀(l:List (List Nat))(a:Nat),(l.map sS).foldl (λn s=>n+s.length+1) a=a+wt l
 | [],a=>rfl
 | x::r,a=>by
  rw[C9,List.foldl_cons,Gr r,gM]
  show _=a+(x.length+1+wt r)
  omega
theorem Io{c:Nat}{l:List (List Nat)}(h:wt l≤100000):JoinOk (sS [c]) (l.map sS)=true:=by
 have e:(l.map sS).toArray.foldl (λn s=>n+s.length+(sS [c]).length) 0=wt l:=by
  rw[List.foldl_toArray]
  exact(Gr l 0).trans (by omega)
 show (!Builtin.Str.tooLong ((l.map sS).toArray.foldl (λn s=>n+s.length+(sS [c]).length) 0))=true
 rw[e]
 unfold Builtin.Str.tooLong
 rw[decide_eq_false (by have:=gR h;omega)]
 rfl
theorem zJ(c:Nat):∀l:List (List Nat),(jn c l).length≤wt l
 | []=>B7 _
 | [x]=>by show x.length≤x.length+1+0;omega
 | x::y::r=>by
  have:=zJ c (y::r)
  show (x++c::jn c (y::r)).length≤x.length+1+wt (y::r)
  rw[D2,E3]
  omega
theorem zK{α:Type}{f:α→List Nat}{n:Nat}:∀{l:List α},(∀x∈l,(f x).length≤n)→wt (l.map f)≤l.length*(n+1)
 | [],_=>L4 _
 | x::r,h=>by
  have h1:=h x C6
  have h2:=zK (f:=f) (n:=n) (l:=r) λy hy=>h y (B9 _ hy)
  rw[C9,E3,Nat.add_mul]
  show (f x).length+1+wt (r.map f)≤_
  omega
theorem Ej{c a:Nat}:∀{l:List (List Nat)},a∈jn c l→a=c∨∃x∈l,a∈x
  | [],h=>by cases h
  | [x],h=>.inr ⟨x,C6,h⟩
  | x::y::r,h=>by
    have h:a∈x++c::jn c (y::r):=h
    rcases F2.mp h with h | h
    · exact .inr ⟨x,C6,h⟩
    · rcases E4.mp h with h | h
      · exact .inl h
      · rcases Ej h with h | ⟨z,h1,h2⟩
        · exact .inl h
        · exact .inr ⟨z,B9 _ h1,h2⟩
def cM(l:List (List Nat)):D:=.lst (l.map λx=>D.str (sS x))
theorem Ca(l:List (List Nat)):(l.map λx=>D.str (sS x))=(l.map sS).map D.str:=by rw[G2];rfl
theorem iY{c:Nat}{l:List (List Nat)}(h:wt l≤100000):nZ (.str (sS [c])) (cM l)=some (.str (sS (jn c l))):=by
 show (strsOf (l.map λx=>D.str (sS x))).bind (λxs=>if JoinOk (sS [c]) xs=true then some (D.str (Txt.join (sS [c]) xs))else none)=_
 rw[Ca,sU,C5,if_pos (Io h)]
 show some (D.str (Builtin.Str.glued (sS [c]) (l.map sS)))=_
 rw[StrLaws.glued_eq_join,zH]
theorem pY{c:Nat}{l:List (List Nat)}(h0:l≠[])(h:∀x∈l,c∉x)(hw:wt l≤90000):jK (.str (sS (jn c l))) (.str (sS [c]))=some (cM l):=by
 show (if((sS [c]).length==0)=false∧(sS (jn c l)).length≤90000 then some (D.lst ((Txt.split (sS (jn c l)) (sS [c])).map D.str))else none)=_
 rw[if_pos ⟨rfl,by rw[gM];have:=zJ c l;omega⟩,Np h0 h,←Ca]
 rfl
theorem Yc:("," : Str)=sS [44]:=uE ","
theorem Yd:(" " : Str)=sS [32]:=uE " "
theorem Ye:(";" : Str)=sS [59]:=uE ";"
def iZ(n:Int):Prop:=n.natAbs<10 ^ 60
def uW(t:List Int):List Nat:=jn 44 (t.map txt)
def zO(q:List (List Int)):List Nat:=jn 32 (q.map uW)
def Uq(s:List (List (List Int))):List Nat:=jn 59 (s.map zO)
def Nq(t:List Int):Prop:=t≠[]∧t.length≤5∧∀n∈t,iZ n
def Ip(q:List (List Int)):Prop:=q≠[]∧q.length≤9∧∀t∈q,Nq t
def Nr(s:List (List (List Int))):Prop:=s≠[]∧s.length≤8∧∀q∈s,Ip q
theorem Gs{n:Int}{a:Nat}(h:a∈txt n):a=45∨48≤a∧a≤57:=by
  unfold txt at h
  split at h
  · rcases E4.mp h with h | h
    · exact .inl h
    · exact .inr (oV _ a h)
  · exact .inr (oV _ a h)
theorem Nt{t:List Int}{a:Nat}(h:a∈uW t):a=44∨a=45∨48≤a∧a≤57:=by
 rcases Ej h with h | ⟨x,h1,h2⟩
 ·exact .inl h
 ·obtain⟨n,_,rfl⟩:=G6.mp h1
  exact .inr (Gs h2)
theorem Yg{q:List (List Int)}{a:Nat}(h:a∈zO q):a=32∨a=44∨a=45∨48≤a∧a≤57:=by
 rcases Ej h with h | ⟨x,h1,h2⟩
 ·exact .inl h
 ·obtain⟨n,_,rfl⟩:=G6.mp h1
  exact .inr (Nt h2)
theorem Gu{t:List Int}(h:Nq t):wt (t.map txt)≤310:=by
 have:=zK (f:=txt) (n:=61) (l:=t) λn hn=>Gp (h.2.2 n hn)
 have:=h.2.1
 omega
theorem Gv{q:List (List Int)}(h:Ip q):wt (q.map uW)≤2799:=by
 have:=zK (f:=uW) (n:=310) (l:=q) λt ht=>D9 (zJ 44 _) (Gu (h.2.2 t ht))
 have:=h.2.1
 omega
theorem Nu{s:List (List (List Int))}(h:Nr s):wt (s.map zO)≤22400:=by
 have:=zK (f:=zO) (n:=2799) (l:=s) λt ht=>D9 (zJ 32 _) (Gv (h.2.2 t ht))
 have:=h.2.1
 omega
theorem Ir{t:List Int}(h:Nq t):gZ [dTup t]=some (.str (sS (uW t))):=by
 refine fP rfl ?_
 unfold qG
 rw[Yc]
 refine fM (aU rfl (b:=cM (t.map txt)) ?_ (iY (by have:=Gu h;omega)))
 unfold cM
 rw[G2]
 exact bY (ψ:=D.int) (φ:=λn=>D.str (sS (txt n))) (tL rfl) (by have:=h.2.1;omega) λn hn=>aW (aB rfl rfl) rfl (Im (h.2.2 n hn))
theorem Nv{q:List (List Int)}(h:Ip q):jO [bH q]=some (.str (sS (zO q))):=by
 refine fP rfl ?_
 unfold tV
 rw[Yd]
 refine fM (aU rfl (b:=cM (q.map uW)) ?_ (iY (by have:=Gv h;omega)))
 unfold cM
 rw[G2]
 exact bY (ψ:=dTup) (φ:=λn=>D.str (sS (uW n))) (dG rfl) (by have:=h.2.1;omega) λn hn=>aW (aB rfl rfl) rfl (Ir (h.2.2 n hn))
theorem Iu{s:List (List (List Int))}(h:Nr s):iC [aV s]=some (.str (sS (Uq s))):=by
 refine fP rfl ?_
 unfold qH
 rw[Ye]
 refine fM (aU rfl (b:=cM (s.map zO)) ?_ (iY (by have:=Nu h;omega)))
 unfold cM
 rw[G2]
 exact bY (ψ:=bH) (φ:=λn=>D.str (sS (zO n))) (dG rfl) (by have:=h.2.1;omega) λn hn=>aW (aB rfl rfl) rfl (Nv (h.2.2 n hn))
theorem Sw{n:Int}(h:iZ n):vY [.int n]=some (.str (sS (txt n))):=by
 show (if n.natAbs.log2<1920 then some (D.str (yJ n))else none)=_
 have h:n.natAbs<10 ^ 60:=h
 have hl:n.natAbs.log2<1920:=by
  by_cases c:n.natAbs=0
  ·rw[c];decide
  ·rw[Nat.log2_lt c]
   exact Nat.lt_trans h (by decide)
 rw[if_pos hl,Gn]
theorem wK{α β:Type}(f:α→β){l:List α}{k:Nat}{x:α}(h:l[k]?=some x):(l.take k).map f++[f x]=(l.take (k+1)).map f:=by
 rw[List.take_add_one,h,E5]
 rfl
theorem Nx{s:List (List (List Int))}(h:Nr s):lQ [aV s]=some (.str (sS (Uq s))):=by
 suffices hh:∃d,lQ [aV s]=some d∧d=.str (sS (Uq s)) by
  obtain⟨d,h1,rfl⟩:=hh
  exact h1
 refine gK rfl ?_
 unfold Bl
 rw[Yc,Yd,Ye]
 walk_at "q"
 refine Mv (xs:=s.map bH) (λk env=>∃v2 v3 v4,env=[.fro (aV s),.own (cM ((s.take k).map zO)),v2,v3,v4]) rfl (dG rfl) ⟨_,_,_,rfl⟩ ?_ ?_
 ·rintro k x env hx ⟨v2,v3,v4,rfl⟩
  refine⟨by show 2<5;decide,?_⟩
  rw[C3]at hx
  cases qq:s[k]? with
  | none=>rw[qq]at hx;cases hx
  | some q=>
   rw[qq]at hx
   cases hx
   have hk:k<s.length:=(B8.mp qq).1
   have hq:Ip q:=h.2.2 q (J3 qq)
   have KQ:=h.2.1
   refine eU (d:=.lst []) rfl (by exact Nat.le_of_ble_eq_true rfl) ?_
   refine Mv (xs:=q.map dTup) (λj env=>∃v4,env=[.fro (aV s),.own (cM ((s.take k).map zO)),.fro (bH q),.own (cM ((q.take j).map uW)),v4]) rfl (dG rfl) ⟨_,rfl⟩ ?_ ?_
   ·rintro j x env hx ⟨v4,rfl⟩
    refine⟨by show 4<5;decide,?_⟩
    rw[C3]at hx
    cases tt:q[j]? with
    | none=>rw[tt]at hx;cases hx
    | some t=>
     rw[tt]at hx
     cases hx
     have hj:j<q.length:=(B8.mp tt).1
     have ht:Nq t:=hq.2.2 t (J3 tt)
     have VH:=hq.2.1
     have hc:bU (gP (aG 4)) [] cV (fL vY (aC (aG 0) aM)) (rE [.fro (aV s),.own (cM ((s.take k).map zO)),.fro (bH q),.own (cM ((q.take j).map uW)),.fro (dTup t)])=some (cM (t.map txt)):=by
      have e0:cM (t.map txt)=.lst (t.map λn=>D.str (sS (txt n))):=by unfold cM;rw[G2];rfl
      rw[e0]
      exact bY (ψ:=D.int) (φ:=λn=>D.str (sS (txt n))) (tL rfl) (by have:=ht.2.1;omega) λn hn=>dF (aB rfl rfl) (Sw (ht.2.2 n hn))
     refine Dy (ds:=((q.take j).map uW).map λx=>D.str (sS x)) (d:=.str (sS (uW t))) rfl (aU rfl hc (iY (by have:=Gu ht;omega))) (by rw[B6,B6,K2];omega) ⟨_,rfl,.fro (dTup t),?_⟩
     rw[←wK uW tt]
     unfold cM
     rw[E5]
     rfl
   ·rintro env ⟨v4,rfl⟩
    rw[B6,Q8]
    refine Dy (ds:=((s.take k).map zO).map λx=>D.str (sS x)) (d:=.str (sS (zO q))) rfl (aU rfl rfl (iY (by have:=Gv hq;omega))) (by rw[B6,B6,K2];omega) ⟨_,rfl,.fro (bH q),.own (cM (q.map uW)),v4,?_⟩
    rw[←wK zO qq]
    unfold cM
    rw[E5]
    rfl
 ·rintro env ⟨v2,v3,v4,rfl⟩
  rw[B6,Q8]
  exact lN (aU rfl rfl (iY (by have:=Nu h;omega))) ⟨_,rfl,rfl⟩
theorem wL{t:List Int}(h:Nq t):eY [.str (sS (uW t)),.int t.length]=some (dTup t):=by
 suffices hh:∃d,eY [.str (sS (uW t)),.int t.length]=some d∧d=dTup t by
  obtain⟨d,h1,rfl⟩:=hh
  exact h1
 refine gK rfl ?_
 unfold tW
 rw[Yc]
 have hs:jK (.str (sS (uW t))) (.str (sS [44]))=some (cM (t.map txt)):=pY (λz=>h.1 (L1.mp z)) (λx hx=>by
  obtain⟨n,_,rfl⟩:=G6.mp hx
  intro z
  have:=Gs z
  omega) (by have:=Gu h;omega)
 refine eU (d:=cI t) ?_ (by exact Nat.le_of_ble_eq_true rfl) ?_
 ·show _=some (D.lst (t.map D.int))
  refine bY (xs:=t) (ψ:=λn=>D.str (sS (txt n))) (φ:=D.int) ?_ (by have:=h.2.1;omega) λn hn=>aW (aB rfl rfl) rfl (Nk (h.2.2 n hn))
  refine(dG (aU rfl rfl hs)).trans ?_
  rw[G2]
  rfl
 refine kY (bW (aU (dF (aB rfl rfl) (pN t)) rfl (Ge _ _))) (by simp) (nD ?_)
 refine lN (dF (aB rfl rfl) ?_) ⟨_,rfl,rfl⟩
 exact qF t
theorem Ny{rs:List (List Int)}{z:Int}(h:Ip (rs++[[z]]))(h5:∀t∈rs,t.length=5):iR [.str (sS (zO (rs++[[z]])))]=some (bH (rs++[[z]])):=by
 suffices hh:∃d,iR [.str (sS (zO (rs++[[z]])))]=some d∧d=bH (rs++[[z]]) by
  obtain⟨d,h1,rfl⟩:=hh
  exact h1
 refine gK rfl ?_
 unfold wF
 rw[Yd]
 have hs:jK (.str (sS (zO (rs++[[z]])))) (.str (sS [32]))=some (cM ((rs++[[z]]).map uW)):=pY (λz=>h.1 (L1.mp z)) (λx hx=>by
  obtain⟨n,_,rfl⟩:=G6.mp hx
  intro z
  have:=Nt z
  omega) (by have:=Gv h;omega)
 have hl:rs.length≤8:=by have:=h.2.1;rw[D2,F7]at this;omega
 refine eU (aU rfl rfl hs) (by exact Nat.le_of_ble_eq_true rfl) ?_
 have ew:cM ((rs++[[z]]).map uW)=.lst ((rs.map λt=>D.str (sS (uW t)))++[D.str (sS (uW [z]))]):=by
  unfold cM
  rw[E5,E5,G2]
  rfl
 rw[ew]
 refine eU (d:=bH rs) ?_ (by exact Nat.le_of_ble_eq_true rfl) ?_
 ·refine bY (xs:=rs) (ψ:=λt=>D.str (sS (uW t))) (φ:=dTup) ?_ (by omega) λt ht=>?_
  ·refine(dG (Xx rfl rfl rfl (.inl rfl))).trans ?_
   rw[Bh,List.dropLast_concat]
  ·refine aW (aB rfl (aB (dF (aB rfl rfl) (oF _)) rfl)) rfl ?_
   have:=wL (h.2.2 t (K6 _ ht))
   rw[h5 t ht]at this
   exact this
 refine lN (aU rfl (b:=.lst [dTup [z]]) (Gh (aB (aW (aB (aU rfl (yO rfl) (Rt (by rw[List.getLast?_append];rfl))) (aB (dF (aB rfl rfl) (oF _)) rfl)) rfl (wL (t:=[z]) (h.2.2 _ (by simp)))) rfl) (by exact Nat.le_of_ble_eq_true rfl)) (Ih ?_ ?_)) ⟨_,rfl,?_⟩
 ·refine Bf λd hd=>?_
  rcases F2.mp hd with q | q
  ·obtain⟨t,_,rfl⟩:=G6.mp q
   exact tM t
  ·rw[E6.mp q]
   exact tM _
 ·rw[B6,F7];omega
 ·unfold bH
  rw[E5]
  rfl
def Shaped(R:Nat)(q:List (List Int)):Prop:=∃(rs:List (List Int))(z:Int),q=rs++[[z]]∧rs.length=R∧(∀t∈rs,t.length=5)∧(∀t∈rs,∀n∈t,iZ n)∧iZ z
theorem Shaped.ok{R:Nat}{q:List (List Int)}(h:Shaped R q)(hR:R≤8):Ip q:=by
 obtain⟨rs,z,rfl,h1,h2,h3,h4⟩:=h
 refine⟨by simp,by rw[D2,F7];omega,λt ht=>?_⟩
 rcases F2.mp ht with c | c
 ·exact⟨λe=>(by have:=h2 t c;rw[e]at this;cases this),(by rw[h2 t c];exact B7 _),h3 t c⟩
 ·rw[E6.mp c]
  exact⟨by simp,(by show 1≤5;decide),λn hn=>by rw[E6.mp hn];exact h4⟩
theorem Shaped.len{R:Nat}{q:List (List Int)}(h:Shaped R q):q.length=R+1:=by
 obtain⟨rs,z,rfl,h1,_⟩:=h
 rw[D2,F7,h1]
theorem Sx{f1 f2 f3:FE}{e:DE}{a b c:Int}(h1:f1 e=some (.int a))(h2:f2 e=some (.int b))(h3:f3 e=some (.int c)):Rg Fi Fi f1 f2 f3 e=some (.bl (decide (a≤b)&&decide (b≤c))):=by
 unfold Rg
 rw[zF h1 h2 h3]
 rfl
theorem Sy{s:List (List (List Int))}{R:Nat}(h0:s≠[])(h8:s.length≤8)(GQ:1≤R)(hR:R≤8)(h:∀q∈s,Shaped R q):oO [aV s]=some (.bl true):=by
 suffices hh:∃d,oO [aV s]=some d∧d=.bl true by
  obtain⟨d,h1,rfl⟩:=hh
  exact h1
 have hl:1≤s.length:=by
  cases s with
  | nil=>exact absurd rfl h0
  | cons a r=>simp
 refine gK rfl ?_
 unfold Gj
 have e0:s[0]?=some s[0]:=B4 hl
 have l0:=(h _ (N0 hl)).len
 have PN:=Bv e0
 refine kY (b:=false) ((Ga (bR (b:=true) (bW (jL rfl rfl)))).trans ((bR (zF (a:=1) (b:=s.length) (c:=8) rfl (dF (aB rfl rfl) (wJ s)) rfl)).trans ?_)) rfl (nD ?_)
 ·rw[decide_eq_true (show (1:Int)≤s.length by omega),decide_eq_true (show (s.length:Int)≤8 by omega)]
  rfl
 have hc1:bU (gP (aG 0)) [] cV (qR "list" (aG 0)) (rE [.fro (aV s)])=some (.lst (s.map λq=>D.bl ((λ_=>true) q))):=
  bY (xs:=s) (ψ:=bH) (φ:=λ_=>D.bl true) (dG rfl) (by omega) λq _=>jL rfl rfl
 refine kY (bR (bW (dF (aB hc1 rfl) (tQ (λ_=>true) s)))) (by simp) (nD ?_)
 have hc2:bU (gP (aG 0)) [0] cV (f2 vN (fL eE (aC (aG 0) aM)) (fL eE (aC (f2 sG (aG 1) (fC (.int 0))) aM))) (rE [.fro (aV s)])=some (.lst (s.map λq=>D.bl ((λ_=>true) q))):=by
  refine bY (xs:=s) (ψ:=bH) (φ:=λ_=>D.bl true) (dG rfl) (by omega) λq hq=>?_
  refine(aU (dF (aB rfl rfl) (oR q)) (dF (aB (aU rfl rfl PN) rfl) (oR _)) (oE _ _)).trans ?_
  rw[decide_eq_true (by rw[(h q hq).len,l0])]
 refine lN (Mr (Sx (a:=2) (c:=9) rfl (dF (aB (aU rfl rfl PN) rfl) (oR _)) rfl) (dF (aB hc2 rfl) (tQ (λ_=>true) s))) ⟨_,rfl,?_⟩
 rw[l0,decide_eq_true (show (2:Int)≤((R+1:Nat):Int) by omega),decide_eq_true (show ((R+1:Nat):Int)≤9 by omega)]
 simp
theorem Iv{s:List (List (List Int))}{R:Nat}(h0:s≠[])(h8:s.length≤8)(GQ:1≤R)(hR:R≤8)(h:∀q∈s,Shaped R q):fD [.str (sS (Uq s))]=some (aV s):=by
 suffices hh:∃d,fD [.str (sS (Uq s))]=some d∧d=aV s by
  obtain⟨d,h1,rfl⟩:=hh
  exact h1
 have hst:Nr s:=⟨h0,h8,λq hq=>(h q hq).ok hR⟩
 refine gK rfl ?_
 unfold tX
 rw[Ye]
 have hs:jK (.str (sS (Uq s))) (.str (sS [59]))=some (cM (s.map zO)):=pY (λz=>h0 (L1.mp z)) (λx hx=>by
  obtain⟨n,_,rfl⟩:=G6.mp hx
  intro z
  have:=Yg z
  omega) (by have:=Nu hst;omega)
 refine kY (b:=false) (bR (b:=true) (bW (zG rfl))) rfl (nD ?_)
 refine eU (d:=aV s) ?_ (by exact Nat.le_of_ble_eq_true rfl) ?_
 ·refine bY (xs:=s) (ψ:=λq=>D.str (sS (zO q))) (φ:=bH) ?_ (by omega) λq hq=>?_
  ·refine(dG (aU rfl rfl hs)).trans ?_
   rw[G2]
   rfl
  ·have hp:=(h q hq).ok hR
   obtain⟨rs,z,rfl,h1,h2,_⟩:=h q hq
   exact aW (aB rfl rfl) rfl (Ny hp h2)
 refine kY (b:=false) (bR (bW (aW (aB rfl rfl) rfl (Sy h0 h8 GQ hR h)))) rfl (nD ?_)
 exact Dw rfl ⟨_,rfl,rfl⟩
theorem Gw{ns:List Int}{k:Int}(hl:ns.length≤63)(h0:0≤k)(h1:k≤1000):∃n,cH [cI ns,.int k]=some (.int n)∧iZ n:=by
 suffices h:∃d,cH [cI ns,.int k]=some d∧∃n,d=.int n∧iZ n by
  obtain⟨d,h1,n,rfl,h2⟩:=h
  exact⟨n,h1,h2⟩
 refine gK rfl ?_
 unfold tU
 have hd:=rA (k:=k) hl h0 h1
 obtain⟨b0,b1⟩:=Rx ns k
 have hz:ns.length=0→lY ns k=0:=λz=>by unfold lY;rw[if_pos z]
 generalize lY ns k=r at *
 walk_at "q"
 have SM:(0:Int)<10 ^ (60:Int).toNat:=Q0 (by decide)
 have KR:(0:Int)<10 ^ (57:Int).toNat:=Q0 (by decide)
 have m0:=F3 (r/8) (show (12:Int)≠0 by decide)
 have m1:=E7 (r/8) (show (0:Int)<12 by decide)
 have fin:∀x:Int,0≤x→x<10 ^ (60:Int).toNat→Qs (λr=>∃d,r=.ret d∧∃n,d=.int n∧iZ n) ((aR (kZ (fB (f2 vN (f2 gO (f2 uO (aG 2) (fC (.int 96))) (fC (.int 3))) (fC (.int 0)))) (cA (Av (aG 3))) bV)
 (mW 3)) [.fro (cI ns),.fro (.int k),.own (.int r),.own (.int x)]):=by
  intro x m0 m1
  have m1:x<10 ^ 60:=m1
  refine Rr (bW (aU (aU (aU rfl rfl (tD (by decide) (by decide))) rfl (eH (by decide))) rfl (oE _ _))) (λhb=>?_) (λhb=>?_)
  ·refine DG (yO rfl) ⟨_,rfl,_,rfl,?_⟩
   unfold iZ
   omega
  ·refine nD (Dw rfl ⟨_,rfl,_,rfl,?_⟩)
   unfold iZ
   omega
 have second:∀x:Int,0≤x→x<10 ^ (60:Int).toNat→Qs (λr=>∃d,r=.ret d∧∃n,d=.int n∧iZ n) ((aR (kZ (fB (f2 vN (f2 gO (aG 2) (fC (.int 8))) (fC (.int 1)))) (cX 3 (f2 De (f2 De (f2 Ah (fC (.int 10)) (fC (.int 60))) (fC (.int 1))) (f2 gO (f2 uO (aG 2) (fC (.int 8))) (fC (.int 1000))))) bV)
 (aR (kZ (fB (f2 vN (f2 gO (f2 uO (aG 2) (fC (.int 96))) (fC (.int 3))) (fC (.int 0)))) (cA (Av (aG 3))) bV)
 (mW 3))) [.fro (cI ns),.fro (.int k),.own (.int r),.own (.int x)]):=by
  intro x m0 m1
  refine Rr (bW (aU (aU rfl rfl (eH (by decide))) rfl (oE _ _))) (λhb=>?_) (λhb=>?_)
  ·refine eU (aU (aU (aU rfl rfl (lM ⟨by decide,by decide,by decide⟩)) rfl (sY _ _)) (aU (aU rfl rfl (tD (by decide) (by decide))) rfl (eH (by decide))) (sY _ _)) (by exact Nat.le_of_ble_eq_true rfl) (fin _ ?_ ?_)
   ·have a1:=E7 (r/8) (show (0:Int)<1000 by decide)
    have a2:(1000:Int)<10 ^ (60:Int).toNat:=by decide
    omega
   ·have a1:=F3 (r/8) (show (1000:Int)≠0 by decide)
    omega
  ·exact nD (fin x m0 m1)
 refine Rr (bW (aU (aU rfl rfl (eH (by decide))) rfl (oE _ _))) (λhb=>?_) (λhb=>?_)
 ·by_cases c:0<r
  ·have hn:ns.length≠0:=λz=>by have:=hz z;omega
   have cp:(0:Int)<ns.length:=by omega
   have k0:=F3 k (show (ns.length:Int)≠0 by omega)
   have k1:=E7 k cp
   refine eU (Um ((bW (aU rfl rfl (yL _ _))).trans (by rw[decide_eq_true c])) (aU (aU (aU rfl rfl (lM ⟨by decide,by decide,by omega⟩)) (aU (aU rfl (aU rfl (dF (aB rfl rfl) (pN ns)) (eH cp)) (Bd k0 k1)) (aU rfl rfl (lM ⟨by decide,by decide,by decide⟩)) (eH KR)) (gC _ _)) (aU rfl rfl (lM ⟨by decide,by decide,by decide⟩)) (eH KR))) (by exact Nat.le_of_ble_eq_true rfl) (second _ ?_ ?_)
   ·exact F3 _ (by omega)
   ·refine Int.lt_trans (E7 _ KR) ?_
    decide
  ·refine eU (Uo ((bW (aU rfl rfl (yL _ _))).trans (by rw[decide_eq_false c])) rfl) (by exact Nat.le_of_ble_eq_true rfl) (second 0 (by decide) SM)
 ·refine nD (second _ m0 (Int.lt_trans m1 ?_))
  decide
theorem Tc{ns:List Int}{P R:Nat}(hl:ns.length≤63)(hP:P≤8)(hR:R≤8):∃s:List (List (List Int)),lO [cI ns,.int P,.int R]=some (aV s)∧s.length=P∧∀q∈s,Shaped R q:=by
  suffices h:∃d,lO [cI ns,.int P,.int R]=some d∧∃s:List (List (List Int)),d=aV s∧s.length=P∧∀q∈s,Shaped R q by
    obtain⟨d,h1,s,rfl,h2⟩:=h
    exact⟨s,h1,h2⟩
  refine gK rfl ?_
  unfold Bk
  walk_at "q"
  refine yQ (n:=P) (λk env=>∃(s:List (List (List Int)))(v4 v5 v6 v7:SD),env=[.fro (cI ns),.fro (.int P),.fro (.int R),.own (aV s),v4,v5,v6,v7]∧s.length=k∧∀q∈s,Shaped R q) (oG (aB rfl rfl) (by omega)) ⟨[],_,_,_,_,rfl,rfl,λq hq=>by cases hq⟩ ?_ ?_
  · rintro k env hk ⟨s,v4,v5,v6,v7,rfl,hs,hsh⟩
    refine⟨by show 4<8;decide,?_⟩
    refine eU (d:=.lst []) rfl (by exact Nat.le_of_ble_eq_true rfl) ?_
    refine yQ (n:=R) (λj env=>∃(rs:List (List Int))(v6 v7:SD),env=[.fro (cI ns),.fro (.int P),.fro (.int R),.own (aV s),.fro (.int k),.own (bH rs),v6,v7]∧rs.length=j∧(∀t∈rs,t.length=5)∧∀t∈rs,∀n∈t,iZ n) (oG (aB rfl rfl) (by omega)) ⟨[],_,_,rfl,rfl,λq hq=>(by cases hq),λq hq=>(by cases hq)⟩ ?_ ?_
    · rintro j env hj ⟨rs,v6,v7,rfl,h1,h2,h3⟩
      refine⟨by show 6<8;decide,?_⟩
      have kR:(k:Int)*R≤7*8:=O4 (by omega) (by omega) (by omega) (by decide)
      have VJ:0≤(k:Int)*R:=O3 (by omega) (by omega)
      refine eU (d:=.int (20+5*((k:Int)*R+j))) (aU rfl (aU rfl (aU (aU rfl rfl (sZ (.inl ⟨by omega,by omega⟩))) rfl (gC _ _)) (sZ (.inl ⟨by decide,by decide⟩))) (gC _ _)) (by exact Nat.le_of_ble_eq_true rfl) ?_
      generalize hat:20+5*((k:Int)*R+j)=at'
      have ha0:0≤at':=by omega
      have ha1:at'≤900:=by omega
      have hex:∀i:Nat,i<5→∃n,cH [cI ns,.int (at'+i)]=some (.int n)∧iZ n:=λi hi=>Gw hl (by omega) (by omega)
      obtain⟨t,ht5,htn,hts⟩:∃t:List Int,t.length=5∧(∀i:Nat,i<5→cH [cI ns,.int (at'+i)]=some (.int (t.getD i 0)))∧∀n∈t,iZ n:=by
        obtain⟨n0,a0,b0⟩:=hex 0 (by decide)
        obtain⟨n1,a1,b1⟩:=hex 1 (by decide)
        obtain⟨n2,a2,b2⟩:=hex 2 (by decide)
        obtain⟨n3,a3,b3⟩:=hex 3 (by decide)
        obtain⟨n4,a4,b4⟩:=hex 4 (by decide)
        refine⟨[n0,n1,n2,n3,n4],rfl,λi hi=>?_,λn hn=>?_⟩
        · match i,hi with
          | 0,_=>exact a0
          | 1,_=>exact a1
          | 2,_=>exact a2
          | 3,_=>exact a3
          | 4,_=>exact a4
        · rcases E4.mp hn with z | hn
          · rw[z];exact b0
          rcases E4.mp hn with z | hn
          · rw[z];exact b1
          rcases E4.mp hn with z | hn
          · rw[z];exact b2
          rcases E4.mp hn with z | hn
          · rw[z];exact b3
          rcases E4.mp hn with z | hn
          · rw[z];exact b4
          cases hn
      have hc:bU (iK (aC (fC (.int 5)) aM)) [0,7] cV (bJ 2 cH (aC (aG 1) (aC (f2 fW (aG 2) (aG 0)) aM))) (rE [.fro (cI ns),.fro (.int P),.fro (.int R),.own (aV s),.fro (.int k),.own (bH rs),.fro (.int j),.own (.int at')])=some (cI t):=by
        have e:cI t=.lst ((E9 5).map λi=>D.int (t.getD i 0)):=by
          unfold cI
          congr 1
          refine Q5 (by rw[B6,B6,M4,ht5]) λi h1 h2=>?_
          rw[Q9,Q9,P5,F5,B4 (by simpa using h1)]
          rfl
        rw[e]
        refine Dz (n:=5) (φ:=λi=>D.int (t.getD i 0)) (oG (n:=5) (aB rfl rfl) (by decide)) (by decide) λi hi=>?_
        exact aW (aB rfl (aB (aU rfl rfl (gC _ _)) rfl)) rfl (htn i hi)
      refine Dy (ds:=rs.map dTup) (d:=dTup t) rfl (dF (aB hc rfl) (qF t)) (by rw[B6];omega) ⟨_,rfl,rs++[t],.fro (.int j),.own (.int at'),?_,by rw[D2,h1];rfl,λu hu=>?_,λu hu=>?_⟩
      · unfold bH
        rw[E5]
        rfl
      · rcases F2.mp hu with c | c
        · exact h2 u c
        · rw[E6.mp c];exact ht5
      · rcases F2.mp hu with c | c
        · exact h3 u c
        · rw[E6.mp c];exact hts
    · rintro env ⟨rs,v6,v7,rfl,h1,h2,h3⟩
      obtain⟨z,hz1,hz2⟩:=Gw (k:=10+(k:Int)) hl (by omega) (by omega)
      refine DK (ds:=rs.map dTup) (d:=dTup [z]) rfl (Gg (aB (aW (aB rfl (aB (aU rfl rfl (gC _ _)) rfl)) rfl hz1) rfl) (by exact Nat.le_of_ble_eq_true rfl)) (by rw[B6];omega) ?_
      have e:D.lst (rs.map dTup++[dTup [z]])=bH (rs++[[z]]):=by unfold bH;rw[E5];rfl
      rw[e]
      refine KC ?_
      show ∃env',wB 3 5 [.fro (cI ns),.fro (.int P),.fro (.int R),.own (.lst (s.map bH)),.fro (.int k),.own (bH (rs++[[z]])),v6,v7]=.next env'∧_
      refine⟨[.fro (cI ns),.fro (.int P),.fro (.int R),.own (.lst (s.map bH++[bH (rs++[[z]])])),.fro (.int k),.no,v6,v7],?_,s++[rs++[[z]]],.fro (.int k),.no,v6,v7,?_,by rw[D2,hs];rfl,λu hu=>?_⟩
      · unfold wB
        show (if(3:Nat)≠5∧(s.map bH).length<100000 then _ else _)=_
        rw[if_pos ⟨by decide,by rw[B6];omega⟩]
        rfl
      · unfold aV
        rw[E5]
        rfl
      · rcases F2.mp hu with c | c
        · exact hsh u c
        · rw[E6.mp c]
          exact⟨rs,z,rfl,h1,h2,h3,hz2⟩
  · rintro env ⟨s,v4,v5,v6,v7,rfl,hs,hsh⟩
    exact Dw rfl ⟨_,rfl,s,rfl,hs,hsh⟩
theorem Nz{s:L2.Step}{d x:D}{j:Nat}(h1:uQ s d=some j)(h2:(kids d)[j]?=some x):pI [s] d=some x:=by unfold pI;rw[h1,C5,h2];rfl
theorem Yh{xs:List D}{k:Nat}{x:D}(h:xs[k]?=some x):pI [.ix k] (.lst xs)=some x:=Nz (s:=.ix k) (d:=.lst xs) (j:=k) rfl h
theorem DW{g:FE}{e:DE}{k:Int}(h:g e=some (.int k))(h0:0≤k):BW qQ g e=some [.ix k.toNat]:=by
 unfold BW qQ
 rw[C5,h,C5]
 exact if_pos h0
theorem Oa(ns:List Int)(hl:ns.length≤63):Xy [.lst (ns.map D.int)]=some (.bl true):=by
 suffices h:∃d,Xy [cI ns]=some d∧d=.bl true by
  obtain⟨d,h1,rfl⟩:=h
  exact h1
 refine gK rfl ?_
 unfold DP
 have hd0:=rA (k:=0) hl (by decide) (by decide)
 have hd1:=rA (k:=1) hl (by decide) (by decide)
 have hd2:=rA (k:=2) hl (by decide) (by decide)
 generalize lY ns 0=r0 at hd0
 generalize lY ns 1=r1 at hd1
 generalize lY ns 2=r2 at hd2
 obtain⟨P,eP,VL,SN⟩:=Bw r0
 obtain⟨R,eR,GQ,KY⟩:=Bw r1
 walk_at "q"
 rw[eP]
 walk_at "q"
 rw[eR]
 obtain⟨s,hm,PQ,hsh⟩:=Tc (R:=R) hl SN KY
 have hs0:s≠[]:=λz=>by rw[z]at PQ;simp at PQ;omega
 have KQ:s.length≤8:=by omega
 have hst:Nr s:=⟨hs0,KQ,λq hq=>(hsh q hq).ok KY⟩
 have hpl:∀q∈s,q.length≤1000:=λq hq=>by rw[(hsh q hq).len];omega
 have hal:=Nf s (by omega) hpl
 have hrd:=Iv hs0 KQ GQ KY hsh
 refine eU (aW (aB rfl (aB rfl (aB rfl rfl))) rfl hm) (by exact Nat.le_of_ble_eq_true rfl) ?_
 refine eU (Il (s:=s) (dG rfl) (by omega)) (by exact Nat.le_of_ble_eq_true rfl) ?_
 refine eU (aW (aB rfl rfl) rfl (Nx hst)) (by exact Nat.le_of_ble_eq_true rfl) ?_
 refine eU (aW (aB rfl rfl) rfl (Iu hst)) (by exact Nat.le_of_ble_eq_true rfl) ?_
 refine kY (b:=false) ((Ga (bR (b:=true) (bW (zG rfl)))).trans ((Ga ((bW (aU rfl rfl (Gm _ _))).trans (by simp))).trans (bR (bW (aW (aB rfl (aB rfl rfl)) rfl hal))))) rfl (nD ?_)
 refine eU (aW (aB rfl rfl) rfl hrd) (by exact Nat.le_of_ble_eq_true rfl) ?_
 refine kY (b:=false) (bR (bW (aW (aB rfl (aB rfl rfl)) rfl hal))) rfl (nD ?_)
 have hPpos:(0:Int)<(P:Int):=by omega
 have x0:=F3 r2 (show (P:Int)≠0 by omega)
 have x1:=E7 r2 hPpos
 have hix:f2 gO (bJ 2 eN (aC (aG 0) (aC (fC (.int 2)) aM))) (aG 1) (rE [.fro (cI ns),.own (.int P),.own (.int R),.own (aV s),.own (aV s),.own (.str (sS (Uq s))),.own (.str (sS (Uq s))),.own (aV s)])=some (.int (r2%P)):=aU (aW (aB rfl (aB rfl rfl)) rfl hd2) rfl (eH hPpos)
 have hk:(r2%P).toNat<s.length:=by omega
 refine KD (Mw (p:=[.ix (r2%P).toNat]) (d0:=aV s) rfl (DW hix x0) (Yh (by rw[C3,B4 hk];rfl))) ?_
 exact lN (aW (aB (aW (aB rfl rfl) rfl hrd) (aB rfl rfl)) rfl hal) ⟨_,rfl,rfl⟩
end Rs

def PySem.W.Fast.tw9823476337120148525:Unit:=()
def PySem.W.Fast.tw7157075155777389046:Unit:=()
def PySem.W.Fast.tw16757449153004348840:Unit:=()
def PySem.W.Fast.tw15830954633828951563:Unit:=()
def PySem.W.Fast.tw9323582868499934483:Unit:=()
def PySem.W.Fast.tw1984814481996105778:Unit:=()
def PySem.W.Fast.tw4953817116706343241:Unit:=()
def PySem.W.Fast.tw13925456947298770778:Unit:=()
def PySem.W.Fast.tw16771428051846273539:Unit:=()
def PySem.W.Fast.tw15158088480569885593:Unit:=()
def PySem.W.Fast.tw3663038586657706237:Unit:=()
namespace Rs
open PySem L2
theorem Td{K:aA}{f:Addr}{oc:Value}{od:Option Addr}{fd:FuncData}{sl:Array (Option Value)}(l:K.lookup f=some ⟨oc,od,.func fd,sl⟩):F6 K (.ref f)=true:=by
 unfold F6
 dsimp only
 rw[l]
theorem KZ{K:aA}{h:Heap}{mg:Str→Option Value}{x:Str}{st:Stmt}{f:Addr}{oc:Value}{od an:Option Addr}{osl:Array (Option Value)}{kV doc pm cdv ct:Value}(X:K.In h)(G:h.Ns mainGlobals mg)(a:K9 K mainGlobals x=some (some (.ref f)))(l:K.lookup f=some ⟨oc,od,.func (E2 x x (cW st) (bN st) (aF st) .none kV doc pm an cdv ct),osl⟩)(c:J1 K cdv x=true):Raw K mg x st:=Wj X G a l c (Td l)
theorem walk{l:R3}{q:Program}{loose:List Str}{XP:(Str→Option Value)→Heap→Prop}{YP:World→Heap→Prop}{d:DefRec}{K:Params→aA}(hn:l.most=some 63)(hdf:d.params.defaults=[])(hdn:d.name = "law")
  (hY:∀(w:World)(h:Heap),YP w h→(K w.params).In h)
  (F:∀(w:World)(mg:Str→Option Value)(h:Heap),(K w.params).In h→h.Ns mainGlobals mg→Raw (K w.params) mg "_law_draw" tR∧Raw (K w.params) mg "_law_number" nF∧Raw (K w.params) mg "_law_made" oH∧Raw (K w.params) mg "_law_text" oJ∧Raw (K w.params) mg "write_number" jM∧Raw (K w.params) mg "write_thing" gY∧Raw (K w.params) mg "write_pane" jN∧Raw (K w.params) mg "write_stone" iB∧Raw (K w.params) mg "is_number" mH∧Raw (K w.params) mg "read_number" lR∧Raw (K w.params) mg "read_thing" jP∧Raw (K w.params) mg "read_pane" mJ∧Raw (K w.params) mg "is_grid" oM∧Raw (K w.params) mg "read_stone" jQ∧Raw (K w.params) mg "_law_whole" pO∧Raw (K w.params) mg "_law_tuple" pP∧Raw (K w.params) mg "_law_alike" pQ∧Raw (K w.params) mg "law" Rw∧mg "len" = none∧mg "range" = none∧mg "tuple" = none∧mg "str" = none∧mg "all" = none∧mg "isinstance" = none∧mg "int" = none∧mg "list" = none∧mg "bool" = none∧fO mg "BETWEEN_NUMBERS" "," ∧ fO mg "BETWEEN_THINGS" " " ∧ fO mg "BETWEEN_PANES" ";" ∧ fO mg "MINUS" "-" ∧ Fw mg "MOST_FIGURES" (60)∧fO mg "FIGURES" "0123456789" ∧ fO mg "ZERO" "0" ∧ vV (K w.params) mg "BLANK_RECORD" [0,0,-1,-1,0]∧vV (K w.params) mg "BLANK_SEAL" [0]) :
  R7 q loose XP YP l.row.toRowW d [] (λf vs=>R1 f vs):=by
 refine L2.Py (n:=63) (k:=6) (x := "script") (CX:=λ_=>Jd) (sp:=λw=>JM (K w.params)) hn (by decide) hdf ⟨rfl,by decide,by decide⟩ hY ?_ (λ_ _ a ns hl _ hS=>⟨a,ns,rfl,hS,hl,λ_=>rfl⟩) λ_ _ _ _ _ z=>z
 intro w mg fa h KX G hmg
 obtain⟨Ob,Ek,Oc,Od,zL,Cd,El,Ce,Iw,Cg,Em,Iz,Te,En,Ja,Jb,Jc,LC,cP,jT,jU,nG,Ed,aN,Ij,lW,My,bL,bZ,cJ,Ef,jW,uA,Gk,jY,nM⟩:=F w mg h KX G
 obtain⟨f,fd,FL,m⟩:=LC.ex
 rw[hdn]at hmg
 have e:=hmg.symm.trans m
 cases e
 refine⟨fd,Dp FL (λ_ _ _ _ _ _ u=>rfl),λbase _ _=>?_⟩
 have fU:=Ea (P:=l.prog) (w:=w) (mg:=mg) (base:=base) Ob cP
 have jR:=yR (P:=l.prog) (w:=w) (mg:=mg) (base:=base) Ek fU cP
 have uC:=Eb (P:=l.prog) (w:=w) (mg:=mg) (base:=base) Oc jR jT jU
 have uD:=Ec (P:=l.prog) (w:=w) (mg:=mg) (base:=base) Od nG
 have jV:=tY (P:=l.prog) (w:=w) (mg:=mg) (base:=base) zL nG
 have lU:=uT (P:=l.prog) (w:=w) (mg:=mg) (base:=base) Cd jV bL
 have nH:=yU (P:=l.prog) (w:=w) (mg:=mg) (base:=base) El lU bZ
 have lX:=uU (P:=l.prog) (w:=w) (mg:=mg) (base:=base) Ce nH cJ
 have pR:=Bo (P:=l.prog) (w:=w) (mg:=mg) (base:=base) Iw cP Ed Ef jW uA Gk
 have lV:=uV (P:=l.prog) (w:=w) (mg:=mg) (base:=base) Cg pR aN nG Ij
 have jX:=yX (P:=l.prog) (w:=w) (mg:=mg) (base:=base) Em lV cP jU bL
 have pU:=Bp (P:=l.prog) (w:=w) (mg:=mg) (base:=base) Iz jX cP bZ jY nM
 have zA:=Ik (P:=l.prog) (w:=w) (mg:=mg) (base:=base) Te cP aN lW Ed
 have jZ:=yZ (P:=l.prog) (w:=w) (mg:=mg) (base:=base) En pU zA aN nG cJ
 have pW:=Bq (P:=l.prog) (w:=w) (mg:=mg) (base:=base) Ja aN My Ij
 have pX:=Br (P:=l.prog) (w:=w) (mg:=mg) (base:=base) Jb pW cP aN jU
 have iW:=Bu (P:=l.prog) (w:=w) (mg:=mg) (base:=base) Jc pX cP aN lW jT
 exact Xz FL fU uC uD lX iW jZ lW aN nG Oa
end Rs
open PySem PySem.W PyProof.Rows
set_option maxRecDepth 100000 in
set_option maxHeartbeats 0 in
theorem PySem.Challenge.cw_ripestone_k54_stones_written_holds : PySem.Challenge.rw_ripestone_k54_stones_written.Holds := by
 w_on;o_law;k_head;(case hw=>w_witness2)
 k_fill
 refine Rs.walk (l:=PySem.Challenge.rw_ripestone_k54_stones_written) rfl rfl rfl (λw h Y=>PySem.W.kIn_of Y) ?F
 case F=>
  intro w mg h KX G
  refine⟨?_,?_,?_,?_,?_,?_,?_,?_,?_,?_,?_,?_,?_,?_,?_,?_,?_,?_,E8 KX G ?_,E8 KX G ?_,E8 KX G ?_,E8 KX G ?_,E8 KX G ?_,E8 KX G ?_,E8 KX G ?_,E8 KX G ?_,E8 KX G ?_,?_,?_,?_,?_,?_,?_,?_,?_,?_⟩
  iterate 18
   ·refine' Rs.KZ KX G ?a ?l ?c
    (case a=>k_is);(case l=>k_is);(case c=>k_is)
  iterate 9
   ·k_is
  ·refine' L2.iM KX G ?a
   (case a=>k_is)
  ·refine' L2.iM KX G ?a
   (case a=>k_is)
  ·refine' L2.iM KX G ?a
   (case a=>k_is)
  ·refine' L2.iM KX G ?a
   (case a=>k_is)
  ·refine' L2.Ls KX G ?a
   (case a=>k_is)
  ·refine' L2.iM KX G ?a
   (case a=>k_is)
  ·refine' L2.iM KX G ?a
   (case a=>k_is)
  ·refine' L2.Aw KX G ?a ?l ?v ?s
   (case a=>k_is);(case l=>k_is)
   (case v=>exact .cons ⟨_,rfl⟩ (.cons ⟨_,rfl⟩ (.cons ⟨_,rfl⟩ (.cons ⟨_,rfl⟩ (.cons ⟨_,rfl⟩ (.nil))))))
   (case s=>decide)
  ·refine' L2.Aw KX G ?a ?l ?v ?s
   (case a=>k_is);(case l=>k_is)
   (case v=>exact .cons ⟨_,rfl⟩ (.nil))
   (case s=>decide)
#print axioms PySem.Challenge.cw_ripestone_k54_stones_written_holds
