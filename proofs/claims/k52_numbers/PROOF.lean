import PyProof.Rows.All
import Wide.All
import OpenK.AllK
import Wide.FinOn
import Lean
import PyProof.EqAt
import PyProof.EqKinds
import PyProof.TupleCall
import PySem.Challenge.RW_ripestone_k52_numbers
open Array renaming length_toList→F6,toList→P1
open Bool renaming false_ne_true→B5,eq_iff_iff→E6,and_eq_true→G2,and_false→O5
open Int renaming emod_lt_of_pos→E5,emod_nonneg→E9,fdiv_eq_ediv_of_nonneg→J0,pow_pos→N4,ediv_le_self→N9,ediv_nonneg→O4,mul_nonneg→O7,mul_le_mul→O8
open List renaming size_toArray→A9,getElem?_eq_getElem→B3,getElem?_eq_some_iff→B6,mem_append_right→B8,getElem?_map→B9,mem_cons→C5,replicate→C6,mem_cons_of_mem→C8,length_map→D5,range→D8,length_cons→D9,mem_cons_self→E1,length_append→E4,map_cons→E7,getD_eq_getElem?_getD→E8,mem_range→F0,length_singleton→F3,map_nil→F4,drop_eq_getElem_cons→F7,mem_singleton→F8,lookup_cons→G1,cons_append→G3,mem_append→G5,nodup_cons→G6,mem_of_getElem?→G7,filterMap_cons→G8,getElem?_append_right→J1,getElem?_append_left→J6,all_eq_true→K1,getElem?_replicate→K5,append_nil→K8,of_mem_zip→K9,map_append→L0,getElem?_set_self→L3,length_replicate→L6,mem_append_left→L8,getElem?_set_ne→L9,replicate_succ→M4,mem_filterMap→M6,zip_cons_cons→M8,length_range→N1,drop_length→N7,length_drop→N8,mem_filter→O1
open Nat renaming lt_of_lt_of_le→B0,le_refl→B4,ne_of_lt→C7,le_trans→D7,lt_irrefl→E3,digitChar→J2,lt_succ_of_lt→J5,ne_of_gt→J9,lt_succ_self→K0,zero_add→K3,toDigits→K4,toDigits_of_lt_base→K6,strongRecOn→L1,le_of_lt→M5,zero_le→N2,le_succ→N3,mod_eq_of_lt→O0
open Option renaming bind_some→D3,getD_some→N6,none→P4
open Option.some renaming inj→C3
open Or renaming inr→D2,inl→D4
open PyProof.Rows renaming boot_str→G4,boot_isinstance→G9,callWith_type1→I0,boot_int→L7
open PySem renaming mem_of_lookup→D6,intText?→F5,boot_len→G0,call→O2,Within→P0
open PySem.Str renaming ofString→F9
open PySem.W renaming kitOne→B7,kia_one→C4,fnOf→C9,mg_none_of→D1,keepIn→E2,findIn→F1,codeIn→F2,methodObj→J3,kitx_list→J4,nsIn→K2,instObj→K7,cellsFrom_some→L4,lookIn→L5,mg_of→M3,kitx_tuple→M7,specialIn→M9,kitx_dict→N0,plainGet→N5,OpenLaw→O3,kitCls→O6,WalkO→O9,isFn→P2
open PySem.W.KIN renaming val_back→M0
open Sum renaming inl→J7,inr→J8
abbrev aA:=PySem.W.Frag
theorem aM{α:Type u_1}{b:α}{β:Type u_2}{x:Option β}{f:β→Option α}(h:x.bind f=some b):∃a,x=some a∧f a=some b:=Option.bind_eq_some_iff.mp h
theorem eO{α:Type u_1}{b:α}{β:Type u_2}{x:Option β}{f:β→α}(h:x.map f=some b):∃a,x=some a∧f a=b:=Option.map_eq_some_iff.mp h

set_option Elab.async false
set_option linter.all false
set_option maxRecDepth 100000
namespace L2
open PySem PySem.Spec PyProof.Rows
abbrev Key:=Sum Int Str
def Gn:Key→Value→Bool
 | .inl k,v=>Value.isInt k v
 | .inr x,v=>Value.isStrOf x v
def Ro(w:World):Key→Int
 | .inl k=>hashInt k
 | .inr x=>hashStr w x
theorem aV:∀{k:Key} {v:Value},Gn k v=true→(∃i t,k=J7 i∧v=Value.int i t)∨(∃x t,k=J8 x∧v=Value.str x t)
 | .inl i,v,h=>by
  obtain⟨t,e⟩:=Value.isInt_shape (k:=i) (v:=v) h
  exact .inl ⟨i,t,rfl,e⟩
 | .inr x,v,h=>by
  obtain⟨t,e⟩:=Value.isStrOf_shape (x:=x) (v:=v) h
  exact .inr ⟨x,t,rfl,e⟩
theorem Hx(a b:Int):decide ((J7 a:Key)=J7 b)=(a==b):=by
 by_cases e:a=b
 ·subst e;simp
 ·have h:¬(J7 a:Key)=J7 b:=λq=>e (Sum.inl.inj q)
  rw[decide_eq_false h]
  exact(beq_eq_false_iff_ne.mpr e).symm
theorem Hy(a b:Str):decide ((J8 a:Key)=J8 b)=decide (a=b):=by
 by_cases e:a=b
 ·subst e;simp
 ·have h:¬(J8 a:Key)=J8 b:=λq=>e (Sum.inr.inj q)
  rw[decide_eq_false h,decide_eq_false e]
theorem Hz(a:Int)(b:Str):decide ((J7 a:Key)=J8 b)=false:=decide_eq_false (λq=>nomatch q)
theorem Ib(a:Str)(b:Int):decide ((J8 a:Key)=J7 b)=false:=decide_eq_false (λq=>nomatch q)
def vB(prog:Program)(w:World):PySem.KeyKind prog w Key where
  is:=Gn
  hash:=Ro w
  inj:=λv a b ha hb=>by
    rcases aV ha with ⟨i,t,rfl,rfl⟩ | ⟨x,t,rfl,rfl⟩
    · rcases aV hb with ⟨j,u,rfl,e⟩ | ⟨y,u,rfl,e⟩
      · injection e with e1 _;rw[e1]
      · exact nomatch e
    · rcases aV hb with ⟨j,u,rfl,e⟩ | ⟨y,u,rfl,e⟩
      · exact nomatch e
      · injection e with e1 _;rw[e1]
  byValue:=λk v h=>by
    rcases aV h with ⟨i,t,rfl,rfl⟩ | ⟨x,t,rfl,rfl⟩<;>rfl
  pyHash:=λhv h=>by
    rcases aV hv with ⟨i,t,rfl,rfl⟩ | ⟨x,t,rfl,rfl⟩
    · exact wpAny_pyHash_int h
    · exact wpAny_pyHash_str h
  eqBool:=λhu hv h=>by
    rcases aV hu with ⟨i,t,rfl,rfl⟩ | ⟨x,t,rfl,rfl⟩
    · rcases aV hv with ⟨j,u,rfl,rfl⟩ | ⟨y,u,rfl,rfl⟩
      · rw[Hx]at h;exact wpAny_eqBool_int h
      · rw[Hz]at h;exact SeqAt.EqAt.int_str i t y u _ _ _ _ h
    · rcases aV hv with ⟨j,u,rfl,rfl⟩ | ⟨y,u,rfl,rfl⟩
      · rw[Ib]at h;exact SeqAt.EqAt.str_int x t j u _ _ _ _ h
      · rw[Hy]at h;exact wpAny_eqBool_str h
  «strs»:=λk x t v h=>by
    rcases aV h with ⟨i,u,rfl,e⟩ | ⟨y,u,rfl,e⟩
    · exact nomatch e
    · injection e with e1 _
      subst e1
      cases v<;>rfl
end L2
namespace L2
open PySem PySem.Spec PyProof.Rows
inductive V where
  | non | bl (b:Bool) | int (i:Int) | str (x:Str) | byt (b:Array UInt8) | flt (b:UInt64) | ref (a:Addr) | ty (n:String)
  deriving DecidableEq
def RelV:V→Value→Prop
 | .non,u=>u=Value.none
 | .bl b,u=>u=Value.bool b
 | .int i,u=>∃t,u=Value.int i t
 | .str x,u=>∃t,u=Value.str x t
 | .byt b,u=>∃t,u=Value.bytes b t
 | .flt b,u=>∃t,u=Value.float b t
 | .ref a,u=>u=Value.ref a
 | .ty n,u=>u=Value.type n
abbrev Vals:List V→List Value→Prop:=Paired RelV
theorem Vals.length{xs:List V}{us:List Value}(r:Vals xs us):xs.length=us.length:=Paired.length r
theorem Vals.get:∀{xs:List V} {us:List Value} {i:Nat} {x:V},Vals xs us→xs[i]?=some x→∃u,us[i]?=some u∧RelV x u
 | _,_,_,_,.nil,e=>by simp at e
 | _,_,0,_,.cons r _,e=>by simp at e;subst e;exact⟨_,rfl,r⟩
 | _,_,i+1,x,.cons _ t,e=>by
  obtain⟨u,h1,h2⟩:=Vals.get (i:=i) (x:=x) t (by simpa using e)
  exact⟨u,by simpa using h1,h2⟩
theorem Vals.append:∀{xs ys:List V} {us ws:List Value},Vals xs us→Vals ys ws→Vals (xs++ys) (us++ws)
 | _,_,_,_,.nil,s=>s
 | _,_,_,_,.cons r t,s=>.cons r (Vals.append t s)
def Ie:Option V→Option Value→Prop
 | some v,some u=>RelV v u
 | none,none=>True
 | _,_=>False
def KV{κ:Type}:List (κ×V)→List (κ×Value)→Prop:=Paired λ(p:κ×V) (q:κ×Value)=>p.1=q.1∧RelV p.2 q.2
def kV:Key→V
 | .inl i=>.int i
 | .inr x=>.str x
inductive HO where
  | lst (xs:List V)
  | tup (xs:List V)
  | dK (kvs:List (Key×V)) | dT (kvs:List (List Key×V))
  | set (S:Int→Bool) (n:Nat)
  | ins (C dx:Addr) (fs:List (Str×V))
  | own (x:Addr)
  | xd (fs:List (Str×V))
  | met (f x:Addr)
  | rng (lo hi:Int)
  | jG (o:Obj) (u:HO)
  | tbl (ps:Array Value)
  | ext (φ:Heap→Prop)
abbrev Hp:=Addr→Option HO
def upd(H:Hp)(a:Addr)(o:HO):Hp:=λb=>if b=a then some o else H b
theorem dH{H:Hp}{a:Addr}{o:HO}:upd H a o a=some o:=by unfold upd;rw[if_pos rfl]
theorem aU{H:Hp}{a b:Addr}{o:HO}(h:b≠a):upd H a o b=H b:=by unfold upd;rw[if_neg h]
theorem bN{H:Hp}{a b:Addr}{o:HO}(h:H a=some o)(h':H b=none):a≠b:=by
 intro e;subst e;rw[h]at h';cases h'
section
variable(P:Program)(w:World)
def bV(H:Hp)(h:Heap)(a:Addr):HO→Prop
 | .lst xs=>xs.length≤sizeLine∧∃(its:List Value)(n:Nat),Vals xs its∧h.get? a=some {cls:=.type "list", data:=.seq its.toArray n}
 | .tup xs=>xs.length≤sizeLine∧∃its:List Value,Vals xs its∧IsTup h a its.toArray
 | .dK kvs=>kvs.length≤sizeLine∧(a==sysModules)=false∧∃vs,KV kvs vs∧h.DictOf (vB P w) a vs
 | .dT kvs=>kvs.length≤sizeLine∧(a==sysModules)=false∧∃xs:List (List Key×Addr×Value),
   Paired (λ(p:List Key×V) (q:List Key×Addr×Value)=>p.1=q.1∧H q.2.1=some (.tup (p.1.map kV))∧RelV p.2 q.2.2) kvs xs ∧
   ∃o es ep,h.get? a=some o∧o.ExactDict∧o.data=.dict es ep∧es.toList=xs.map (entryOfKey (tupleKind (vB P w)))∧(xs.map (·.1)).Nodup
 | .set S n=>h.SetOf (intKind P w) a S n
 | .ins C dx fs=>H dx=some (.own a)∧fs.length≤1000∧dx≠a∧h.get? a=some (K7 C dx) ∧
   ∃mA,h.Ns1 dx mA∧(∀f,Ie (fs.lookup f) (mA f))∧P0 mA (fs.map (·.1))
 | .own _=>∃o,h.get? a=some o
 | .xd fs=>∃mA,h.Ns1 a mA∧∀f,Ie (fs.lookup f) (mA f)
 | .rng lo hi=>∃t u v,h.get? a=some {cls:=.type "range", data:=.fields #[.int lo t,.int hi u,.int 1 v]}
 | .jG o u=>h.get? a=some o∧bV H h a u
 | .tbl ps=>h.get? a=some {cls:=.none,data:=.fields ps}
 | .met f x=>h.get? a=some (J3 (.ref f) (.ref x))
 | .ext φ=>φ h∧(∃o,h.get? a=some o)∧∀h1 h2:Heap,φ h1→(∀o,h1.get? a=some o→h2.get? a=some o)→φ h2
def jT(H:Hp)(h:Heap):Prop:=∀a o,H a=some o→bV P w H h a o
end
section
variable{P:Program}{w:World}{H H':Hp}{h h':Heap}{a:Addr}{o:HO}
theorem bV.lt(x:bV P w H h a o):a<h.objs.size:=by
 cases o with
 | lst xs=>obtain⟨_,_,_,_,e⟩:=x;exact Heap.lt_size e
 | tup xs=>obtain⟨_,_,_,p⟩:=x;exact p.lt
 | dK kvs=>obtain⟨_,_,_,_,o,_,_,e,_⟩:=x;exact Heap.lt_size e
 | dT kvs=>obtain⟨_,_,_,_,o,_,_,e,_⟩:=x;exact Heap.lt_size e
 | set S n=>obtain⟨o,_,_,_,e,_⟩:=x;exact Heap.lt_size e
 | ins C dx fs=>obtain⟨_,_,_,e,_⟩:=x;exact Heap.lt_size e
 | own y=>obtain⟨_,e⟩:=x;exact Heap.lt_size e
 | xd fs=>obtain⟨_,⟨_,_,_,e,_⟩,_⟩:=x;exact Heap.lt_size e
 | rng lo hi=>obtain⟨_,_,_,e⟩:=x;exact Heap.lt_size e
 | jG ob u=>obtain⟨e,_⟩:=x;exact Heap.lt_size e
 | tbl ps=>exact Heap.lt_size (show h.get? a=some _ from x)
 | met f y=>exact Heap.lt_size (show h.get? a=some _ from x)
 | ext φ=>obtain⟨_,⟨_,e⟩,_⟩:=x;exact Heap.lt_size e
theorem Paired.Nj{α β:Type}{F G:α→β→Prop}:∀{l₁:List α} {l₂:List β},Paired F l₁ l₂→(∀a b,F a b→G a b)→Paired G l₁ l₂
 | _,_,.nil,_=>.nil
 | _,_,.cons r t,f=>.cons (f _ _ r) (Paired.Nj t f)
theorem bV.stay(x:bV P w H h a o)(k:∀b u,(b=a∨H b=some (.own a))→h.get? b=some u→h'.get? b=some u)
  (ho:∀b,H b=some (.own a)→H' b=some (.own a)) (ht:∀b xs,H b=some (.tup xs)→H' b=some (.tup xs)):bV P w H' h' a o:=by
 induction o with
 | lst xs=>obtain⟨z,its,n,r,e⟩:=x;exact⟨z,its,n,r,k _ _ (.inl rfl) e⟩
 | tup xs=>obtain⟨z,its,r,ob,e,c⟩:=x;exact⟨z,its,r,ob,k _ _ (.inl rfl) e,c⟩
 | dK kvs=>obtain⟨z,y,vs,r,ob,es,ep,e,c⟩:=x;exact⟨z,y,vs,r,ob,es,ep,k _ _ (.inl rfl) e,c⟩
 | dT kvs=>
  obtain⟨z,y,xs,r,ob,es,ep,e,c⟩:=x
  exact⟨z,y,xs,Paired.Nj r λp q z=>⟨z.1,ht _ _ z.2.1,z.2.2⟩,ob,es,ep,k _ _ (.inl rfl) e,c⟩
 | set S n=>obtain⟨ob,es,ep,t,e,c⟩:=x;exact⟨ob,es,ep,t,k _ _ (.inl rfl) e,c⟩
 | ins C dx fs=>
  obtain⟨d,z,ne,e,mA,⟨od,es,ep,e2,c⟩,r⟩:=x
  exact⟨ho _ d,z,ne,k _ _ (.inl rfl) e,mA,⟨od,es,ep,k _ _ (.inr d) e2,c⟩,r⟩
 | own y=>obtain⟨ob,e⟩:=x;exact⟨ob,k _ _ (.inl rfl) e⟩
 | xd fs=>obtain⟨mA,⟨od,es,ep,e,c⟩,r⟩:=x;exact⟨mA,⟨od,es,ep,k _ _ (.inl rfl) e,c⟩,r⟩
 | rng lo hi=>obtain⟨t,u,v,e⟩:=x;exact⟨t,u,v,k _ _ (.inl rfl) e⟩
 | jG ob u ih=>obtain⟨e,q⟩:=x;exact⟨k _ _ (.inl rfl) e,ih q⟩
 | tbl ps=>
  have e:h.get? a=some {cls:=.none,data:=.fields ps}:=x
  show h'.get? a=some {cls:=.none,data:=.fields ps}
  exact k a _ (.inl rfl) e
 | met f y=>
  have e:h.get? a=some (J3 (.ref f) (.ref y)):=x
  show h'.get? a=some (J3 (.ref f) (.ref y))
  exact k a _ (.inl rfl) e
 | ext φ=>obtain⟨p,⟨o,e⟩,st⟩:=x;exact⟨st _ _ p λo q=>k _ _ (.inl rfl) q,⟨o,k _ _ (.inl rfl) e⟩,st⟩
theorem jT.lt(x:jT P w H h)(e:H a=some o):a<h.objs.size:=(x a o e).lt
theorem jT.fresh(x:jT P w H h)(e:h.objs.size≤a):H a=none:=by
 cases q:H a with
 | none=>rfl
 | some u=>exact absurd (B0 (x.lt q) e) (E3 _)
theorem jT.kept(x:jT P w H h)(k:∀b u,h.get? b=some u→h'.get? b=some u):jT P w H h':=λa o e=>
 (x a o e).stay (λb u _ q=>k b u q) (λ_ q=>q) λ_ _ q=>q
theorem jT.laid(x:jT P w H h)(k:∀b u,h.get? b=some u→h'.get? b=some u)(hp:h.objs.size≤a)(new:bV P w (upd H a o) h' a o):jT P w (upd H a o) h':=λb u e=>by
 have hn:=x.fresh hp
 by_cases hb:b=a
 ·subst hb;rw[dH]at e;cases e;exact new
 ·rw[aU hb]at e
  exact(x b u e).stay (λc v _ q=>k c v q) (λc q=>by rw[aU (bN q hn)];exact q) λc xs q=>by rw[aU (bN q hn)];exact q
end
def Rd(H:Hp)(a:Addr)(u:HO):Prop:=H a=some u∨∃o,H a=some (.jG o u)
theorem Rd.ok{P:Program}{w:World}{H:Hp}{h:Heap}{a:Addr}{u:HO}(r:Rd H a u)(x:jT P w H h):bV P w H h a u:=by
 rcases r with r | ⟨o,r⟩
 ·exact x a u r
 ·obtain⟨_,q⟩:=x a _ r
  exact q
def Ra:Option HO→Prop
 | some (.lst _)=>True
 | some (.dK _)=>True
 | some (.dT _)=>True
 | some (.set _ _)=>True
 | some (.ins _ _ _)=>True
 | some (.ext _)=>True
 | _=>False
section
variable{P:Program}{w:World}{H:Hp}{h h':Heap}{x e:Addr}{o':HO}
theorem jT.write(ok:jT P w H h)(mu:Ra (H x))(he:e=x∨H e=some (.own x))(k:∀b u,b≠e→h.get? b=some u→h'.get? b=some u)(heo:∃u,h'.get? e=some u)
  (new:bV P w (upd H x o') h' x o'):jT P w (upd H x o') h':=λb u q=>by
 have Nk:∀c y,H c=some (.own y)→c≠x:=λc y r z=>by subst z;rw[r]at mu;exact mu
 have Rp:∀c xs,H c=some (.tup xs)→c≠x:=λc xs r z=>by subst z;rw[r]at mu;exact mu
 by_cases hb:b=x
 ·subst hb;rw[dH]at q;cases q;exact new
 ·rw[aU hb]at q
  by_cases hbe:b=e
  ·have q':H b=some (.own x):=by
    rcases he with z | z
    ·exact absurd (hbe.trans z) hb
    ·rw[hbe];exact z
   rw[q]at q';cases q'
   obtain⟨v,hv⟩:=heo
   exact⟨v,by rw[hbe];exact hv⟩
  ·refine(ok b u q).stay (λc v hc r=>k c v ?_ r) (λc r=>by rw[aU (Nk c b r)];exact r) λc xs r=>by rw[aU (Rp c xs r)];exact r
   rcases hc with rfl | hc
   ·exact hbe
   ·rintro rfl
    rcases he with z | z
    ·exact Nk c b hc z
    ·rw[hc]at z;cases z;exact hb rfl
end
structure Un(fs ex:List Addr)(H H':Hp)(h h':Heap):Prop where
 keep:∀b o,h.get? b=some o→H b=none→b∉fs→b∉ex→h'.get? b=some o
 slot:∀b o,h.get? b=some o→H b=none→b∈fs→b∉ex→∃sl,h'.get? b=some {o with slots:=sl}
 free:∀b o,h.get? b=some o→H b=none→b∉ex→H' b=none
 there:∀b o,h.get? b=some o→b∉ex→∃o',h'.get? b=some o'
 tups:∀b xs,H b=some (.tup xs)→H' b=some (.tup xs)
 oX:∀b o u,H b=some (.jG o u)→H' b=some (.jG o u)
 qZ:∀b ps,H b=some (.tbl ps)→∃more,H' b=some (.tbl (ps++more))
section
variable{fs fs' ex ex':List Addr}{H H1 H2:Hp}{h h1 h2 h':Heap}{a x e:Addr}{o:HO}
theorem Un.any(u:Un fs ex H H1 h h1){b:Addr}{ob:Obj}(q:h.get? b=some ob)(n:H b=none)(hx:b∉ex):∃sl,h1.get? b=some {ob with slots:=sl}:=by
 by_cases hb:b∈fs
 ·exact u.slot b ob q n hb hx
 ·exact⟨ob.slots,u.keep b ob q n hb hx⟩
theorem Un.kept(k:∀b u,h.get? b=some u→h'.get? b=some u):Un fs ex H H h h':=
 ⟨λb ob q _ _ _=>k b ob q,λb ob q _ _ _=>⟨ob.slots,k b ob q⟩,λ_ _ _ n _=>n,λb ob q _=>⟨ob,k b ob q⟩,λ_ _ q=>q,λ_ _ _ q=>q,λ_ ps q=>⟨#[],by rw[q];simp⟩⟩
theorem Un.refl:Un fs ex H H h h:=Un.kept λ_ _ q=>q
theorem Un.laid(k:∀b u,h.get? b=some u→h'.get? b=some u)(hp:h.objs.size≤a)(hn:H a=none):Un fs ex H (upd H a o) h h' where
 keep:=λb u q _ _ _=>k b u q
 slot:=λb u q _ _ _=>⟨u.slots,k b u q⟩
 free:=λb u q n _=>by rw[aU (C7 (B0 (Heap.lt_size q) hp))];exact n
 there:=λb u q _=>⟨u,k b u q⟩
 tups:=λb xs q=>by rw[aU (bN q hn)];exact q
 oX:=λb u xs q=>by rw[aU (bN q hn)];exact q
 qZ:=λb ps q=>⟨#[],by rw[aU (bN q hn),q];simp⟩
theorem Un.write(mu:Ra (H x))(he:e=x∨H e=some (.own x))(k:∀b u,b≠e→h.get? b=some u→h'.get? b=some u)(heo:∃u,h'.get? e=some u):Un fs ex H (upd H x o) h h':=by
 have hx:∀b,H b=none→b≠x:=λb n z=>by subst z;rw[n]at mu;exact mu
 have hb:∀b,H b=none→b≠e:=λb n z=>by
  subst z
  rcases he with r | r
  ·exact hx b n r
  ·rw[n]at r;cases r
 have hm:∀b u,H b=some u→¬Ra (some u)→b≠x:=λb u q nm z=>by subst z;rw[q]at mu;exact nm mu
 refine⟨λb u q n _ _=>k b u (hb b n) q,λb u q n _ _=>⟨u.slots,k b u (hb b n) q⟩,λb u q n _=>by rw[aU (hx b n)];exact n,λb u q _=>?_,
  λb xs q=>by rw[aU (hm b _ q λz=>z)];exact q,λb u xs q=>by rw[aU (hm b _ q λz=>z)];exact q,λb ps q=>⟨#[],by rw[aU (hm b _ q λz=>z),q];simp⟩⟩
 by_cases hbe:b=e
 ·subst hbe;exact heo
 ·exact⟨u,k b u hbe q⟩
end
def Rb(h:Heap)(H:Hp):List Addr:=(D8 h.objs.size).filter λa=>(H a).isSome
def oY(h:Heap)(H:Hp):Heap:=PySem.W.hideAll h (Rb h H)
theorem wV(h:Heap)(H:Hp):(oY h H).objs.size=h.objs.size:=PySem.W.hideAll_size _ _
theorem yR{h:Heap}{H:Hp}{b:Addr}{o:Obj}(e:h.get? b=some o)(n:H b=none):(oY h H).get? b=some o:=
 PySem.W.hideAll_get _ e λhm=>by
  have q:(H b).isSome=true:=(O1.mp hm).2
  rw[n]at q;simp at q
theorem Cv{h:Heap}{H:Hp}{b:Addr}{o:Obj}(e:(oY h H).get? b=some o):h.get? b=some o∧H b=none:=by
 have e':h.get? b=some o:=PySem.W.of_hideAll (Rb h H) e
 refine⟨e',?_⟩
 cases q:H b with
 | none=>rfl
 | some x=>
  have hm:b∈Rb h H:=O1.mpr ⟨F0.mpr (Heap.lt_size e'),by simp[q]⟩
  have z:(oY h H).get? b=none:=PySem.W.hideAll_none (Rb h H) hm
  rw[z]at e;cases e
def Cw(g h:Heap)(L:Addr):List (Addr×Obj):=(D8 h.objs.size).filterMap λa=>if a=L∨(g.get? a).isSome=true then none else(h.get? a).map λo=>(a,o)
def rest(g h:Heap)(L d:Addr):List (Addr×Obj):=(Cw g h L).filter λp=>decide (p.1≠d)
end L2
namespace L2
open PySem PySem.Spec PyProof.Rows
structure Mod(K:aA)(mg:Str→Option Value)(base:Heap):Prop where
 Rq:K.In base
 glob:base.Ns mainGlobals mg
 blt:∃mb,base.Ns builtinsNs mb∧∀x:Str,x ≠ "__name__" → mb x=bootBuiltins x
 nolimit:base.NoLimit
structure Cx where
 prog:Program
 w:World
 K:aA
 mg:Str→Option Value
 base:Heap
 A:Around
 N:List Str
 s₀:Shared
 H₀:Hp
 env:Env
 outer:List Env
 stack:List Env
 ex:List Addr
 fn:Str→Bool
 calm:Bool
 pn:List (Addr×Obj)
 xe:Value→Shared→Prop
def frs(l:List Env):List Addr:=l.filterMap (·.frame)
abbrev Cx.fs(X:Cx):List Addr:=frs X.outer
def Rc(sc:Scope)(x:Str):Prop:=sc.names.lookup x=some .local∨sc.names.lookup x=some .cell∨sc.names.lookup x=some .free
def Loc(sc:Scope)(x:Str):Prop:=sc.names.lookup x=some .local∨sc.names.lookup x=some .cell
def Look(env:Env)(h:Heap)(m:Str→Option Value)(x:Str)(u:Value):Prop:=
 (env.kindOf x=some .local∧m x=some u)∨((env.kindOf x=some .cell∨env.kindOf x=some .free)∧∃c,env.cells.lookup x=some c∧h.IsCell c (some u))
structure Cx.Ok(X:Cx):Prop where
 mod:Mod X.K X.mg X.base
 kind:X.env.scope.kind=.function
 glob:X.env.globals=mainGlobals
 blt:X.env.builtins=builtinsNs
 above:X.s₀.heap.objs.size≤X.env.locals
 inj:∀x y c,X.env.cells.lookup x=some c→X.env.cells.lookup y=some c→x=y
 has:∀x,(X.env.kindOf x=some .cell∨X.env.kindOf x=some .free)→∃c,X.env.cells.lookup x=some c
 cab:∀x c,X.fn x=true→X.env.cells.lookup x=some c→X.s₀.heap.objs.size≤c
 hd:X.calm=true→X.A.handled=none
 frames:X.A.frames=some X.stack
 Rf:X.stack=X.outer∨(X.stack=X.env::X.outer∧X.env.frame=some X.env.locals)
 Ue:∀b∈X.ex,b≠X.env.locals∧∀x c,X.env.cells.lookup x=some c→c≠b
 bs:∀b o,X.base.get? b=some o→X.s₀.heap.get? b=some o∧X.H₀ b=none
 Gp:X.base.objs.size≤X.s₀.heap.objs.size
 yS:∀b o,X.base.get? b=some o→b∉X.ex
 Cy:∀b∈X.ex,b∉X.fs
 kZ:X.s₀.heap.FunFrames X.base X.outer
 Nb:∀b∈X.fs,X.H₀ b=none
structure Inv(X:Cx)(pins:List (Addr×Obj))(σ:List (Option V))(H:Hp)(s:Shared):Prop where
 ok:X.Ok
 os:s.os=X.s₀.os
 bare:AllBare s.gens
 base:Un X.fs X.ex X.H₀ H X.s₀.heap s.heap
 loc:∃m,s.heap.Ns X.env.locals m∧∀(i:Nat)(x:Str)(v:V),X.N[i]?=some x→σ[i]?=some (some v)→Rc X.env.scope x→∃u,RelV v u∧Look X.env s.heap m x u
 cell:∀x c,X.env.cells.lookup x=some c→∃v,s.heap.IsCell c v
 free:H X.env.locals=none
 eQ:∀x c,X.env.cells.lookup x=some c→H c=none
 pin:∀p∈X.pn++pins,s.heap.get? p.1=some p.2∧H p.1=none∧p.1≠X.env.locals∧p.1∉X.fs∧∀v,p.2.data≠.cell v
 hok:jT X.prog X.w H s.heap
 len:σ.length=X.N.length
section
variable{X:Cx}{pins:List (Addr×Obj)}{σ:List (Option V)}{H H':Hp}{s:Shared}{h':Heap}
theorem Cx.Ok.Rr(ok:X.Ok){b:Addr}{o:Obj}(e:X.base.get? b=some o):b∉X.fs:=λhb=>by
 have:=(ok.kZ.mem hb).1
 rw[e]at this;cases this
theorem Inv.bs(I:Inv X pins σ H s):∀b o,X.base.get? b=some o→s.heap.get? b=some o∧H b=none:=λb o e=>
 ⟨I.base.keep b o (I.ok.bs b o e).1 (I.ok.bs b o e).2 (I.ok.Rr e) (I.ok.yS b o e),I.base.free b o (I.ok.bs b o e).1 (I.ok.bs b o e).2 (I.ok.yS b o e)⟩
theorem Inv.bk(I:Inv X pins σ H s):∀b o,X.base.get? b=some o→s.heap.get? b=some o:=λb o e=>(I.bs b o e).1
theorem Inv.mod(I:Inv X pins σ H s):Mod X.K X.mg X.base:=I.ok.mod
theorem Inv.oZ(I:Inv X pins σ H s):X.K.In s.heap:=I.ok.mod.Rq.keeps I.bk
theorem Inv.lt(I:Inv X pins σ H s):X.env.locals<s.heap.objs.size:=let ⟨_,hn,_⟩:=I.loc;hn.lt
theorem Inv.sz(I:Inv X pins σ H s):X.s₀.heap.objs.size≤s.heap.objs.size:=D7 I.ok.above (M5 I.lt)
theorem Inv.Rt(I:Inv X pins σ H s){a:Addr}(h:s.heap.objs.size≤a):a∉X.fs:=λhb=>by
 obtain⟨_,o,ho,_⟩:=I.ok.kZ.mem hb
 exact absurd (B0 (Heap.lt_size ho) (D7 I.sz h)) (E3 _)
theorem Inv.Ig(I:Inv X pins σ H s):∀x c,X.env.cells.lookup x=some c→c≠X.env.locals:=λx c e z=>by
 obtain⟨v,o,ho,hd⟩:=I.cell x c e
 obtain⟨m,⟨o',es,ep,ho',hd',_⟩,_⟩:=I.loc
 rw[z,ho']at ho;cases ho;rw[hd']at hd;cases hd
theorem Inv.kZ(I:Inv X pins σ H s):s.heap.FunFrames X.base X.outer:=by
 have all:∀(l:List Env),(∀b∈frs l,b∈X.fs)→X.s₀.heap.FunFrames X.base l→s.heap.FunFrames X.base l:=by
  intro l
  induction l with
  | nil=>intro _ _;trivial
  | cons env r ih=>
   intro hs hl
   obtain⟨hk,⟨L,o,hf,hn,ho,hd⟩,hr⟩:=hl
   have hL:L∈X.fs:=hs L (by unfold frs;rw[G8,hf];exact E1)
   obtain⟨sl,e⟩:=I.base.slot L o ho (I.ok.Nb L hL) hL λz=>I.ok.Cy L z hL
   exact⟨hk,⟨L,_,hf,hn,e,hd⟩,ih (λb hb=>hs b (by unfold frs;rw[G8,hf];exact C8 _ hb)) hr⟩
 exact all X.outer (λ_ hb=>hb) I.ok.kZ
theorem Inv.stack(I:Inv X pins σ H s):s.heap.FunFrames X.base X.stack:=by
 rcases I.ok.Rf with e | ⟨e,hf⟩
 ·rw[e];exact I.kZ
 ·rw[e]
  obtain⟨m,hn,_⟩:=I.loc
  refine .cons (by rw[I.ok.kind];decide) hf hn ?_ I.kZ
  exact Heap.get?_none_of_le (D7 I.ok.Gp I.ok.above)
theorem Inv.pA(I:Inv X pins σ H s):∀b∈frs X.stack,b∈X.env.locals::X.fs:=λb hb=>by
 rcases I.ok.Rf with e | ⟨e,hf⟩
 ·rw[e]at hb;exact C8 _ hb
 ·rw[e]at hb
  unfold frs at hb
  rw[G8,hf]at hb
  exact hb
theorem Inv.vC(I:Inv X pins σ H s):∀b∈frs X.stack,H b=none:=λb hb=>by
 rcases C5.mp (I.pA b hb)with e | hb
 ·rw[e];exact I.free
 ·obtain⟨_,o,ho,_⟩:=I.ok.kZ.mem hb
  exact I.base.free b o ho (I.ok.Nb b hb) λz=>I.ok.Cy b z hb
theorem Inv.step{g':Array GenState}{t':Nat}{d':Drawn}{ch:List Addr}(I:Inv X pins σ H s)
  (hch:∀b∈ch,(b∈X.ex∨X.s₀.heap.objs.size≤b)∧b≠X.env.locals∧(∀x c,X.env.cells.lookup x=some c→c≠b)∧∀p∈X.pn++pins,p.1≠b)
  (keep:∀b o,b≠X.env.locals→b∉X.fs→b∉ch→s.heap.get? b=some o→H b=none→h'.get? b=some o)
  (slot:∀b o,b≠X.env.locals→b∈X.fs→b∉ch→s.heap.get? b=some o→H b=none→∃sl,h'.get? b=some {o with slots:=sl}) (free:∀b o,b∉ch→s.heap.get? b=some o→H b=none→H' b=none)
  (there:∀b o,b∉ch→s.heap.get? b=some o→∃o',h'.get? b=some o')
  (tups:∀b xs,H b=some (.tup xs)→H' b=some (.tup xs)) (oX:∀b o u,H b=some (.jG o u)→H' b=some (.jG o u)) (qZ:∀b ps,H b=some (.tbl ps)→∃more,H' b=some (.tbl (ps++more)))
  (ns:∀m,s.heap.Ns X.env.locals m→h'.Ns X.env.locals m) (hok:jT X.prog X.w H' h') (hg:AllBare g') :
  Inv X pins σ H' {s with heap:=h',gens:=g',drawn:=d',toks:=t'}:=by
 have Ug:∀b o,X.s₀.heap.get? b=some o→b≠X.env.locals:=λb o e=>C7 (B0 (Heap.lt_size e) I.ok.above)
 have Nf:∀b o,X.s₀.heap.get? b=some o→b∉X.ex→b∉ch:=λb o e hx hb=>by
  rcases(hch b hb).1 with z | z
  ·exact hx z
  ·exact absurd (B0 (Heap.lt_size e) z) (E3 _)
 have cellK:∀x c,X.env.cells.lookup x=some c→∀v,s.heap.IsCell c v→h'.IsCell c v:=λx c e v ⟨o,ho,hd⟩=>by
  have Nm:c∉ch:=λz=>(hch c z).2.2.1 x c e rfl
  by_cases hc:c∈X.fs
  ·obtain⟨sl,q⟩:=slot c o (I.Ig x c e) hc Nm ho (I.eQ x c e)
   exact⟨_,q,hd⟩
  ·exact⟨o,keep c o (I.Ig x c e) hc Nm ho (I.eQ x c e),hd⟩
 refine⟨I.ok,I.os,hg,⟨λb o e n hb hx=>?_,λb o e n hb hx=>?_,λb o e n hx=>?_,λb o e hx=>?_,λb xs e=>tups b xs (I.base.tups b xs e),λb o xs e=>oX b o xs (I.base.oX b o xs e),λb ps e=>?_⟩,?_,λx c e=>?_,?_,λx c e=>?_,λp hp=>?_,hok,I.len⟩
 ·exact keep b o (Ug b o e) hb (Nf b o e hx) (I.base.keep b o e n hb hx) (I.base.free b o e n hx)
 ·obtain⟨sl,e1⟩:=I.base.slot b o e n hb hx
  obtain⟨sl',e2⟩:=slot b _ (Ug b o e) hb (Nf b o e hx) e1 (I.base.free b o e n hx)
  exact⟨sl',e2⟩
 ·obtain⟨o',e1⟩:=I.base.there b o e hx
  exact free b o' (Nf b o e hx) e1 (I.base.free b o e n hx)
 ·obtain⟨o',e1⟩:=I.base.there b o e hx
  exact there b o' (Nf b o e hx) e1
 ·obtain⟨m1,e1⟩:=I.base.qZ b ps e
  obtain⟨m2,e2⟩:=qZ b _ e1
  exact⟨m1++m2,by rw[e2,Array.append_assoc]⟩
 ·obtain⟨m,hn,hl⟩:=I.loc
  refine⟨m,ns m hn,λi x v e1 e2 e3=>?_⟩
  obtain⟨u,r,l⟩:=hl i x v e1 e2 e3
  refine⟨u,r,?_⟩
  rcases l with l | ⟨k,c,e,z⟩
  ·exact .inl l
  ·exact .inr ⟨k,c,e,cellK x c e _ z⟩
 ·obtain⟨v,z⟩:=I.cell x c e
  exact⟨v,cellK x c e v z⟩
 ·obtain⟨m,⟨o,_,_,ho,_⟩,_⟩:=I.loc
  exact free _ o (λz=>(hch _ z).2.1 rfl) ho I.free
 ·obtain⟨v,o,ho,hd⟩:=I.cell x c e
  exact free c o (λz=>(hch c z).2.2.1 x c e rfl) ho (I.eQ x c e)
 ·obtain⟨e,n,ne,nf,d⟩:=I.pin p hp
  have Nm:p.1∉ch:=λz=>(hch p.1 z).2.2.2 p hp rfl
  exact⟨keep p.1 p.2 ne nf Nm e n,free p.1 p.2 Nm e n,ne,nf,d⟩
theorem Inv.un{t':Nat}(I:Inv X pins σ H s)(u:Un X.fs [] H H' s.heap h')(hok:jT X.prog X.w H' h'):Inv X pins σ H' {s with heap:=h',toks:=t'}:=by
 obtain⟨m,⟨o,es,ep,ho,r⟩,_⟩:=id I.loc
 obtain⟨sl,hL⟩:=u.any ho I.free (by simp)
 exact I.step (g':=s.gens) (d':=s.drawn) (ch:=[]) (λ_ z=>nomatch z) (λb o _ hb _ e n=>u.keep b o e n hb (by simp)) (λb o _ hb _ e n=>u.slot b o e n hb (by simp)) (λb o _ e n=>u.free b o e n (by simp)) (λb o _ e=>u.there b o e (by simp)) u.tups u.oX u.qZ (λm' hm=>by
  obtain⟨o',es',ep',ho',r'⟩:=hm
  rw[ho]at ho';cases ho'
  exact⟨_,es',ep',hL,r'⟩) hok I.bare
theorem Inv.call{g':Array GenState}{t':Nat}{d':Drawn}{ch:List Addr}(I:Inv X pins σ H s)(u:Un (frs X.stack) ch H H' s.heap h')(hok:jT X.prog X.w H' h')(hg:AllBare g')
  (hch:∀b∈ch,(b∈X.ex∨X.s₀.heap.objs.size≤b)∧b≠X.env.locals∧(∀x c,X.env.cells.lookup x=some c→c≠b)∧∀p∈X.pn++pins,p.1≠b) :
  Inv X pins σ H' {s with heap:=h',gens:=g',drawn:=d',toks:=t'}:=by
 obtain⟨m,⟨o,es,ep,ho,r⟩,_⟩:=id I.loc
 obtain⟨sl,hL⟩:=u.any ho I.free λz=>(hch _ z).2.1 rfl
 exact I.step (ch:=ch) hch (λb o hL hb hc e n=>u.keep b o e n (λz=>(C5.mp (I.pA b z)).elim hL hb) hc) (λb o _ _ hc e n=>u.any e n hc) (λb o hc e n=>u.free b o e n hc) (λb o hc e=>u.there b o e hc) u.tups u.oX u.qZ (λm' hm=>by
  obtain⟨o',es',ep',ho',r'⟩:=hm
  rw[ho]at ho';cases ho'
  exact⟨_,es',ep',hL,r'⟩) hok hg
theorem Inv.turned{t':Nat}{it:Addr}(I:Inv X pins σ H s)(k:∀b o,b≠it→s.heap.get? b=some o→h'.get? b=some o)(hn:H it=none)(hL:it≠X.env.locals)
  (h1:it∈X.ex∨X.s₀.heap.objs.size≤it) (h2:∀x c,X.env.cells.lookup x=some c→c≠it) (h3:∀p∈X.pn++pins,p.1≠it):Inv X pins σ H {s with heap:=h',toks:=t'}:=by
 have Uh:∀b u,H b=some u→b≠it:=λb u e z=>by rw[z,hn]at e;cases e
 refine I.step (g':=s.gens) (d':=s.drawn) (ch:=[it]) (λb hb=>?_) (λb o _ _ hc e _=>k b o (λz=>hc (by simp[z])) e) (λb o _ _ hc e _=>⟨o.slots,k b o (λz=>hc (by simp[z])) e⟩) (λ_ _ _ _ n=>n)
  (λb o hc e=>⟨o,k b o (λz=>hc (by simp[z])) e⟩) (λ_ _ e=>e) (λ_ _ _ e=>e) (λb ps e=>⟨#[],by rw[e];simp⟩) (λm hm=>?_) (λb u e=>?_) I.bare
 ·have e:b=it:=by simpa using hb
  subst e
  exact⟨h1,hL,h2,h3⟩
 ·obtain⟨o,es,ep,ho,r⟩:=hm
  exact⟨o,es,ep,k _ o (Ne.symm hL) ho,r⟩
 ·refine(I.hok b u e).stay (λc v hc q=>k c v ?_ q) (λ_ q=>q) λ_ _ q=>q
  rcases hc with z | z
  ·rw[z];exact Uh b u e
  ·exact Uh c _ z
theorem Inv.tok(I:Inv X pins σ H s)(t:Nat):Inv X pins σ H {s with toks:=t}:=I.un (h':=s.heap) (t':=t) Un.refl I.hok
theorem Inv.kept{t':Nat}(I:Inv X pins σ H s)(k:∀b u,s.heap.get? b=some u→h'.get? b=some u):Inv X pins σ H {s with heap:=h',toks:=t'}:=I.un (Un.kept k) (I.hok.kept k)
theorem Inv.laid{a:Addr}{o:HO}{t':Nat}(I:Inv X pins σ H s)(k:∀b u,s.heap.get? b=some u→h'.get? b=some u)(hp:s.heap.objs.size≤a)(new:bV X.prog X.w (upd H a o) h' a o) :
  Inv X pins σ (upd H a o) {s with heap:=h',toks:=t'}:=I.un (Un.laid k hp (I.hok.fresh hp)) (I.hok.laid k hp new)
theorem Inv.write{x e:Addr}{o:HO}{t':Nat}(I:Inv X pins σ H s)(mu:Ra (H x))(he:e=x∨H e=some (.own x))(k:∀b u,b≠e→s.heap.get? b=some u→h'.get? b=some u)(heo:∃u,h'.get? e=some u)
  (new:bV X.prog X.w (upd H x o) h' x o):Inv X pins σ (upd H x o) {s with heap:=h',toks:=t'}:=I.un (Un.write mu he k heo) (I.hok.write mu he k heo new)
theorem Inv.weak{σ':List (Option V)}(I:Inv X pins σ H s)(hl:σ'.length=σ.length)(w:∀(i:Nat) v,σ'[i]?=some (some v)→σ[i]?=some (some v)):Inv X pins σ' H s:=
 ⟨I.ok,I.os,I.bare,I.base,let ⟨m,hn,hl'⟩:=I.loc;⟨m,hn,λi x v e1 e2 e3=>hl' i x v e1 (w i v e2) e3⟩,I.cell,I.free,I.eQ,I.pin,I.hok,hl.trans I.len⟩
theorem Inv.vD{Gq:List (Addr×Obj)}(I:Inv X pins σ H s)(h:∀p∈Gq,s.heap.get? p.1=some p.2∧H p.1=none∧p.1≠X.env.locals∧p.1∉X.fs∧∀v,p.2.data≠.cell v):Inv X Gq σ H s:=
 ⟨I.ok,I.os,I.bare,I.base,I.loc,I.cell,I.free,I.eQ,λp hp=>(G5.mp hp).elim (λz=>I.pin p (L8 _ z)) (h p),I.hok,I.len⟩
theorem rA{N:List Str}(hN:N.Nodup){i j:Nat}{x:Str}(a:N[i]?=some x)(b:N[j]?=some x):i=j:=by
 obtain⟨h1,e1⟩:=B6.mp a
 obtain⟨h2,e2⟩:=B6.mp b
 exact(List.getElem_inj hN).mp (e1.trans e2.symm)
theorem wW{M:Model}{A:Around}{E:Value→Shared→Prop}{i:Nat}{x:Str}{v:V}{u:Value}{Q:Unit→Shared→Prop}(I:Inv X pins σ H s)(hN:X.N.Nodup)(hi:X.N[i]?=some x)(hx:Loc X.env.scope x)(r:RelV v u)
  (h:∀s',Inv X pins (σ.set i (some v)) H s'→(∃a,Heap.SameBut a s.heap s'.heap∧(a=X.env.locals∨X.env.cells.lookup x=some a))→Q () s') (hf:X.fn x=true∨X.env.scope.names.lookup x=some .local:=by first | exact .inl rfl | exact .inr rfl | assumption):wpAny M A (storeName X.env x u) Q E s:=by
 obtain⟨m,hn,hl⟩:=id I.loc
 have hcls:(X.env.scope.kind==.class||(X.env.scope.kind==.module&&X.env.locals != X.env.globals))=false:=by rw[I.ok.kind];rfl
 have Ui:i<σ.length:=by rw[I.len];exact(B6.mp hi).1
 have Ig:=I.Ig
 have tracked:∀{a:Addr} {h':Heap},(∃o,s.heap.get? a=some o∧H a=none)→Heap.SameBut a s.heap h'→jT X.prog X.w H h':=λ{a h'} ha hs b ob e=>by
  obtain⟨_,_,hfree⟩:=ha
  refine(I.hok b ob e).stay (λc w' hc q=>(hs.2 c ?_).trans q) (λ_ q=>q) λ_ _ q=>q
  rintro rfl
  rcases hc with rfl | hc
  ·rw[hfree]at e;cases e
  ·rw[hfree]at hc;cases hc
 rcases hx with hk | hk
 ·refine wpAny_storeName_local hk hn (λh' hn' hs=>?_) hcls
  obtain⟨oL,_,_,hoL,_⟩:=id hn
  refine h _ ⟨I.ok,I.os,I.bare,⟨λb o e n hb hx=>?_,λb o e n hb hx=>?_,I.base.free,λb o e hx=>?_,I.base.tups,I.base.oX,I.base.qZ⟩,⟨_,hn',λj y v' e1 e2 e3=>?_⟩,λy c e=>?_,I.free,I.eQ,λp hp=>?_,tracked ⟨oL,hoL,I.free⟩ hs,by simpa using I.len⟩ ⟨_,hs,.inl rfl⟩
  ·exact(hs.2 b (C7 (B0 (Heap.lt_size e) I.ok.above))).trans (I.base.keep b o e n hb hx)
  ·obtain⟨sl,e1⟩:=I.base.slot b o e n hb hx
   exact⟨sl,(hs.2 b (C7 (B0 (Heap.lt_size e) I.ok.above))).trans e1⟩
  ·obtain⟨o',e1⟩:=I.base.there b o e hx
   exact⟨o',(hs.2 b (C7 (B0 (Heap.lt_size e) I.ok.above))).trans e1⟩
  ·by_cases hj:j=i
   ·subst hj
    rw[hi]at e1;cases e1
    rw[L3 Ui]at e2
    cases e2
    exact⟨u,r,.inl ⟨hk,by simp⟩⟩
   ·rw[L9 (Ne.symm hj)]at e2
    obtain⟨u',r',q⟩:=hl j y v' e1 e2 e3
    refine⟨u',r',?_⟩
    rcases q with ⟨k,e⟩ | ⟨k,c,e,z⟩
    ·refine .inl ⟨k,?_⟩
     have:y≠x:=λe=>hj (rA hN e1 (e▸hi))
     simp[this,e]
    ·exact .inr ⟨k,c,e,z.sameBut hs (Ig y c e)⟩
  ·obtain⟨w',z⟩:=I.cell y c e
   exact⟨w',z.sameBut hs (Ig y c e)⟩
  ·obtain⟨e,n,ne,nf,d⟩:=I.pin p hp
   exact⟨(hs.2 p.1 ne).trans e,n,ne,nf,d⟩
 ·have hfn:X.fn x=true:=by
   rcases hf with z | z
   ·exact z
   ·rw[z]at hk;cases hk
  obtain⟨c,hc⟩:=I.ok.has x (.inl hk)
  obtain⟨w',z⟩:=I.cell x c hc
  refine wpAny_storeName_cell I.ok.kind hk hc z (λh' hc' hs=>?_)
  obtain⟨oc,hoc,Ru⟩:=id z
  refine h {s with heap:=h'} ⟨I.ok,I.os,I.bare,⟨λb o e n hb hx=>?_,λb o e n hb hx=>?_,I.base.free,λb o e hx=>?_,I.base.tups,I.base.oX,I.base.qZ⟩,⟨m,hn.sameBut hs (Ne.symm (Ig x c hc)),λj y v' e1 e2 e3=>?_⟩,λy c' e=>?_,I.free,I.eQ,λp hp=>?_,tracked ⟨oc,hoc,I.eQ x c hc⟩ hs,by simpa using I.len⟩ ⟨c,hs,.inr hc⟩
  ·exact(hs.2 b (C7 (B0 (Heap.lt_size e) (I.ok.cab x c hfn hc)))).trans (I.base.keep b o e n hb hx)
  ·obtain⟨sl,e1⟩:=I.base.slot b o e n hb hx
   exact⟨sl,(hs.2 b (C7 (B0 (Heap.lt_size e) (I.ok.cab x c hfn hc)))).trans e1⟩
  ·obtain⟨o',e1⟩:=I.base.there b o e hx
   exact⟨o',(hs.2 b (C7 (B0 (Heap.lt_size e) (I.ok.cab x c hfn hc)))).trans e1⟩
  ·by_cases hj:j=i
   ·subst hj
    rw[hi]at e1;cases e1
    rw[L3 Ui]at e2
    cases e2
    exact⟨u,r,.inr ⟨.inl hk,c,hc,hc'⟩⟩
   ·rw[L9 (Ne.symm hj)]at e2
    obtain⟨u',r',q⟩:=hl j y v' e1 e2 e3
    refine⟨u',r',?_⟩
    rcases q with q | ⟨k,c',e,z'⟩
    ·exact .inl q
    ·refine .inr ⟨k,c',e,z'.sameBut hs ?_⟩
     rintro rfl
     exact hj (rA hN e1 (I.ok.inj _ _ _ e hc▸hi))
  ·by_cases hcc:c'=c
   ·subst hcc;exact⟨_,hc'⟩
   ·obtain⟨w2,z2⟩:=I.cell y c' e
    exact⟨w2,z2.sameBut hs hcc⟩
  ·obtain⟨e,n,ne,nf,d⟩:=I.pin p hp
   refine⟨(hs.2 p.1 ?_).trans e,n,ne,nf,d⟩
   intro q
   rw[q,hoc]at e
   have q':oc=p.2:=C3 e
   exact d w' (by rw[←q'];exact Ru)
theorem rB{M:Model}{A:Around}{E:Value→Shared→Prop}{i:Nat}{x:Str}{v:V}{u:Value}{Q:Unit→Shared→Prop}(I:Inv X pins σ H s)(hN:X.N.Nodup)(hi:X.N[i]?=some x)(hx:Loc X.env.scope x)(r:RelV v u)
  (h:∀s',Inv X pins (σ.set i (some v)) H s'→Q () s') (hf:X.fn x=true∨X.env.scope.names.lookup x=some .local:=by first | exact .inl rfl | exact .inr rfl | assumption):wpAny M A (storeName X.env x u) Q E s:=
 wW I hN hi hx r (λs' I' _=>h s' I') hf
theorem Inv.call'{s':Shared}{ch:List Addr}(I:Inv X pins σ H s)(ho:s'.os=s.os)(u:Un (frs X.stack) ch H H' s.heap s'.heap)(hok:jT X.prog X.w H' s'.heap)(hg:AllBare s'.gens)
  (hch:∀b∈ch,(b∈X.ex∨X.s₀.heap.objs.size≤b)∧b≠X.env.locals∧(∀x c,X.env.cells.lookup x=some c→c≠b)∧∀p∈X.pn++pins,p.1≠b):Inv X pins σ H' s':=by
 obtain⟨h',g',d',t',o'⟩:=s'
 have e:o'=s.os:=ho
 subst e
 exact I.call (g':=g') (t':=t') (d':=d') u hok hg hch
end
abbrev XK:=Value→Option Addr→Hp→Prop
abbrev St:=List (Option V)
abbrev VK:=V→Hp→Prop
abbrev TE:=St→Hp→VK→Prop
abbrev TT:=St→Hp→(Bool→Hp→Prop)→Prop
abbrev TA:=St→Hp→(List V→Hp→Prop)→Prop
structure Ends where
 nx:St→Hp→Prop
 rt:VK
 bk:St→Hp→Prop:=λ_ _=>False
 ct:St→Hp→Prop:=λ_ _=>False
abbrev TS:=Ends→St→Hp→Prop
def EP(X:Cx)(pins:List (Addr×Obj))(σ:St)(Q:VK)(u:Value)(s':Shared):Prop:=∃v H',Inv X pins σ H' s'∧RelV v u∧Q v H'
def TP(X:Cx)(pins:List (Addr×Obj))(σ:St)(Q:Bool→Hp→Prop)(b:Bool)(s':Shared):Prop:=∃H',Inv X pins σ H' s'∧Q b H'
def AP(X:Cx)(pins:List (Addr×Obj))(σ:St)(Q:List V→Hp→Prop)(us:List Value)(s':Shared):Prop:=∃vs H',Inv X pins σ H' s'∧Vals vs us∧Q vs H'
def SP(X:Cx)(pins:List (Addr×Obj))(D:Ends)(f:Flow)(s':Shared):Prop:=
 match f with
 | .next=>∃σ' H',Inv X pins σ' H' s'∧D.nx σ' H'
 | .brk=>∃σ' H',Inv X pins σ' H' s'∧D.bk σ' H'
 | .cont=>∃σ' H',Inv X pins σ' H' s'∧D.ct σ' H'
 | .ret u=>∃v σ' H',Inv X pins σ' H' s'∧RelV v u∧D.rt v H'
def PE(X:Cx)(e:Expr)(t:TE):Prop:=
 ∀(pins:List (Addr×Obj))(s:Shared)(σ:St)(H:Hp)(Q:VK),Inv X pins σ H s→t σ H Q→wpAny (model X.prog X.w) X.A (eval e X.env) (EP X pins σ Q) X.xe s
def PT(X:Cx)(e:Expr)(t:TT):Prop:=
 ∀(pins:List (Addr×Obj))(s:Shared)(σ:St)(H:Hp)(Q:Bool→Hp→Prop),Inv X pins σ H s→t σ H Q→wpAny (model X.prog X.w) X.A (isTrue e X.env (eval e X.env)) (TP X pins σ Q) X.xe s
def PW(X:Cx)(e:Expr)(t:TT):Prop:=
 ∀(whole:Sem Value)(pins:List (Addr×Obj))(s:Shared)(σ:St)(H:Hp)(Q:Bool→Hp→Prop),Inv X pins σ H s→t σ H Q→wpAny (model X.prog X.w) X.A (isTrue e X.env whole) (TP X pins σ Q) X.xe s
theorem PW.pt{X:Cx}{e:Expr}{t:TT}(h:PW X e t):PT X e t:=h _
def PA(X:Cx)(es:List Expr)(t:TA):Prop:=
 ∀(pos:Pos)(pins:List (Addr×Obj))(s:Shared)(σ:St)(H:Hp)(Q:List V→Hp→Prop),Inv X pins σ H s→t σ H Q→wpAny (model X.prog X.w) X.A (spliced (backTo pos (starEach es X.env))) (AP X pins σ Q) X.xe s
def PS(X:Cx)(st:Stmt)(t:TS):Prop:=
 ∀(pins:List (Addr×Obj))(s:Shared)(σ:St)(H:Hp)(D:Ends),Inv X pins σ H s→t D σ H→wpAny (model X.prog X.w) X.A (exec st X.env) (SP X pins D) X.xe s
def tM(X:Cx)(st:List Stmt)(t:TS):Prop:=
 ∀(pins:List (Addr×Obj))(s:Shared)(σ:St)(H:Hp)(D:Ends),Inv X pins σ H s→t D σ H→wpAny (model X.prog X.w) X.A (execs st X.env) (SP X pins D) X.xe s
theorem bY{α:Type}{t:Sem α}{Q Q':α→Shared→Prop}{M:Model}{A:Around}{E:Value→Shared→Prop}{s:Shared}(h:wpAny M A t Q E s)(hQ:∀a s,Q a s→Q' a s):wpAny M A t Q' E s:=wpAny_mono h hQ λ_ _ x=>x
end L2
namespace L2
open PySem PySem.Spec PyProof.Rows
section
variable{X:Cx}
def pB(i:Nat):TE:=λσ H Q=>∃v,σ[i]?=some (some v)∧Q v H
def tC(v:V):TE:=λ_ H Q=>Q v H
theorem Ih{i:Nat}{x:Str}{pos:Pos}(hN:X.N[i]?=some x)(hv:Rc X.env.scope x)(hd:(x==("__debug__" : Str))=false:=by decide) (hcd:(x==("__classdict__" : Str))=false:=by decide):PE X (.Name x pos) (pB i):=by
  intro pins s σ H Q I h
  obtain⟨v,e,h⟩:=h
  obtain⟨m,hn,hl⟩:=I.loc
  obtain⟨u,r,l⟩:=hl i x v hN e hv
  have fin:EP X pins σ Q u s:=⟨v,H,I,r,h⟩
  rcases l with ⟨hk,hm⟩ | ⟨hk,c,hc,hcell⟩
  · exact wpAny_Name (wpAny_loadName_local I.ok.kind hk hn hm fin) hd
  · rcases hk with hk | hk
    · exact wpAny_Name (wpAny_loadName_cell I.ok.kind hk hc hcell fin) hd
    · exact wpAny_Name (wpAny_loadName_free I.ok.kind hk hc hcell fin hcd) hd
theorem Ii{i j pos}:PE X (.Constant (.int i) j pos) (tC (.int i)):=λ_ _ _ H _ I h=>wpAny_Constant_int ⟨.int i,H,I.tok _,⟨_,rfl⟩,h⟩
theorem Np{b j pos}:PE X (.Constant (.bool b) j pos) (tC (.bl b)):=λ_ _ _ H _ I h=>Constant_bool ⟨.bl b,H,I,rfl,h⟩
theorem Ij{x j pos}:PE X (.Constant (.str x) j pos) (tC (.str x)):=λ_ _ _ H _ I h=>Calls.Constant_str ⟨.str x,H,I.tok _,⟨_,rfl⟩,h⟩
def Gl(X:Cx)(x:Str):Prop:=X.env.kindOf x=some .globalImplicit
theorem vG{E:Value→Shared→Prop}{pins:List (Addr×Obj)}{s:Shared}{σ:St}{H:Hp}{x:Str}{u:Value}{pos:Pos}{Q:Value→Shared→Prop}(I:Inv X pins σ H s)(hg:Gl X x)(hm:X.mg x=some u)(h:Q u s)
  (hd:(x==("__debug__" : Str))=false:=by decide):wpAny (model X.prog X.w) X.A (eval (.Name x pos) X.env) Q E s:=
 Calls.Name_function_global I.ok.kind hg (Calls.loadGlobal_global (by rw[I.ok.glob];exact I.mod.glob.keeps I.bk) hm h) hd
theorem pC{E:Value→Shared→Prop}{pins:List (Addr×Obj)}{s:Shared}{σ:St}{H:Hp}{x:Str}{u:Value}{pos:Pos}{Q:Value→Shared→Prop}(I:Inv X pins σ H s)(hg:Gl X x)(hm:X.mg x=none)(hv:bootBuiltins x=some u)(h:Q u s)
  (hn:x ≠ "__name__" := by decide) (hd:(x==("__debug__" : Str))=false:=by decide):wpAny (model X.prog X.w) X.A (eval (.Name x pos) X.env) Q E s:=by
 obtain⟨mb,h1,h2⟩:=I.mod.blt
 exact Calls.Name_function_global I.ok.kind hg (Calls.loadGlobal_builtin (by rw[I.ok.glob];exact I.mod.glob.keeps I.bk) hm (by rw[I.ok.blt];exact h1.keeps I.bk) ((h2 x hn).trans hv) h) hd
theorem vH{x:Str}{v:V}{u:Value}{pos:Pos}(hg:Gl X x)(hm:X.mg x=some u)(r:RelV v u)(hd:(x==("__debug__" : Str))=false:=by decide):PE X (.Name x pos) (tC v):=
 λ_ _ _ H _ I h=>vG I hg hm ⟨v,H,I,r,h⟩ hd
theorem kE{x:Str}{v:V}{u:Value}{pos:Pos}(hg:Gl X x)(hm:X.mg x=none)(hv:bootBuiltins x=some u)(r:RelV v u)(hn:x ≠ "__name__" := by decide) (hd:(x==("__debug__" : Str))=false:=by decide):PE X (.Name x pos) (tC v):=
 λ_ _ _ H _ I h=>pC I hg hm hv ⟨v,H,I,r,h⟩ hn hd
variable{a b:Expr}{ta tb:TE}{pos:Pos}
def tB(t:TE):TT:=λσ H Q=>t σ H λx H1=>∃c,x=.bl c∧Q c H1
theorem Ik{e:Expr}{t:TE}(h:PE X e t)(he:∀whole,isTrue e X.env whole=(do let v ←whole;standAt e.pos;holding [v] (truthy v)):=by intro _;rfl):PT X e (tB t):=by
 intro pins s σ H Q I hw
 refine isTrue_plain (bY (h pins s σ H _ I hw) λv s1 ⟨x,H1,I1,r1,q1⟩=>?_) (he _)
 obtain⟨d,rfl,q⟩:=q1
 cases r1
 exact wpAny_truthy_bool ⟨H1,I1,q⟩
variable{tA Uj:TT}{rest:List Expr}
def Rw(t u:TT):TT:=λσ H Q=>t σ H λc H1=>if c=true then Q true H1 else u σ H1 Q
def Il(t:TT):TT:=λσ H Q=>t σ H λc H1=>Q (!c) H1
theorem Im(ha:PT X a tA):PW X (.BoolOp .Or [a] pos) tA:=by
 intro wh pins s σ H Q I h
 refine isTrue_or (bY (ha pins s σ H Q I h) λc s1 e=>?_)
 cases c with
 | false=>exact isTrue_or_nil e
 | true=>exact e
theorem Nq(ha:PT X a tA)(hb:PW X (.BoolOp .Or (b::rest) pos) Uj):PW X (.BoolOp .Or (a::b::rest) pos) (Rw tA Uj):=by
 intro wh pins s σ H Q I h
 refine isTrue_or (bY (ha pins s σ H _ I h) λc s1 ⟨H1,I1,q1⟩=>?_)
 cases c with
 | true=>exact⟨H1,I1,q1⟩
 | false=>exact hb wh pins s1 σ H1 Q I1 q1
theorem Io(ha:PT X a tA):PT X (.UnaryOp .Not a pos) (Il tA):=by
 intro pins s σ H Q I h
 exact isTrue_not (ha pins s σ H (λc H1=>Q (!c) H1) I h)
def Nr(ta tb:TE):TE:=λσ H Q=>ta σ H λx H1=>∃c,x=.bl c∧if c=true then Q (.bl true) H1 else tb σ H1 Q
theorem Ip{op}{t:TE}(h:PE X a t):PE X (.BoolOp op [a] pos) t:=λpins s σ H Q I hw=>BoolOp_one (h pins s σ H Q I hw)
theorem Nt(ha:PE X a ta)(hb:PE X (.BoolOp .Or (b::rest) pos) tb):PE X (.BoolOp .Or (a::b::rest) pos) (Nr ta tb):=by
 intro pins s σ H Q I h
 refine BoolOp_or (bY (ha pins s σ H _ I h) λv s1 ⟨x,H1,I1,r1,q1⟩=>?_)
 obtain⟨c,rfl,q1⟩:=q1
 cases r1
 refine wpAny_truthy_bool ?_
 cases c with
 | false=>exact hb pins s1 σ H1 Q I1 q1
 | true=>exact⟨.bl true,H1,I1,rfl,q1⟩
def Uk(t:TT)(ta tb:TE):TE:=λσ H Q=>t σ H λc H1=>if c=true then ta σ H1 Q else tb σ H1 Q
theorem yU{c:Expr}(hc:PT X c tA)(ha:PE X a ta)(hb:PE X b tb):PE X (.IfExp c a b pos) (Uk tA ta tb):=by
 intro pins s σ H Q I h
 refine wpAny_IfExp (bY (hc pins s σ H _ I h) λd s1 ⟨H1,I1,q1⟩=>?_)
 cases d with
 | true=>exact ha pins s1 σ H1 Q I1 q1
 | false=>exact hb pins s1 σ H1 Q I1 q1
end
end L2
namespace L2
open PySem PySem.Spec PyProof.Rows
def fW(K:aA)(H:Hp)(a:Addr)(xs:List V):Prop:=
 Rd H a (.lst xs) ∨
  ∃(o:Obj)(its:Array Value)(n:Nat),K.lookup a=some o∧o.cls=.type "list" ∧ o.dict=none∧o.data=.seq its n∧its.size≤sizeLine∧Vals xs its.toList
def jH(K:aA)(H:Hp)(a:Addr)(xs:List V):Prop:=
 Rd H a (.tup xs) ∨
  ∃(o:Obj)(its:Array Value)(n:Nat),K.lookup a=some o∧o.cls=.type "tuple" ∧ o.data=.seq its n∧its.size≤sizeLine∧Vals xs its.toList
def Rx:Value→Option V
 | .none=>some .non
 | .bool b=>some (.bl b)
 | .int i _=>some (.int i)
 | .str x _=>some (.str x)
 | .bytes b _=>some (.byt b)
 | .float b _=>some (.flt b)
 | .ref a=>some (.ref a)
 | .type n=>some (.ty n)
 | _=>none
theorem RelV.abs{x:V}{u:Value}(r:RelV x u):Rx u=some x:=by
 cases x with
 | non=>cases r;rfl
 | bl _=>cases r;rfl
 | int _=>obtain⟨t,rfl⟩:=r;rfl
 | str _=>obtain⟨t,rfl⟩:=r;rfl
 | byt _=>obtain⟨t,rfl⟩:=r;rfl
 | flt _=>obtain⟨t,rfl⟩:=r;rfl
 | ref _=>cases r;rfl
 | ty _=>cases r;rfl
theorem RelV.inj{x y:V}{u:Value}(r:RelV x u)(q:RelV y u):x=y:=C3 (r.abs.symm.trans q.abs)
theorem Vals.inj:∀{xs ys:List V} {us:List Value},Vals xs us→Vals ys us→xs=ys
 | _,_,_,.nil,.nil=>rfl
 | _,_,_,.cons r t,.cons r' t'=>by rw[r.inj r',Vals.inj t t']
section
variable{X:Cx}{pins:List (Addr×Obj)}{σ:St}{H:Hp}{s:Shared}{a:Addr}{xs ys:List V}
theorem fW.of{K:aA}(h:H a=some (.lst xs)):fW K H a xs:=.inl (.inl h)
theorem Inv.list(I:Inv X pins σ H s)(h:fW X.K H a xs):∃its:List Value,Vals xs its∧PlainL s.heap a its.toArray∧xs.length≤sizeLine:=by
 rcases h with h | ⟨o,its,n,hk,hc,hd,hs,hz,r⟩
 ·obtain⟨z,its,n,r,e⟩:=h.ok I.hok
  exact⟨its,r,⟨_,n,e,rfl,rfl,rfl⟩,z⟩
 ·refine⟨its.toList,r,⟨o,n,I.oZ a o hk,hc,hd,by simpa using hs⟩,?_⟩
  have e:=r.length
  simp only[F6]at e
  omega
theorem Inv.tuple(I:Inv X pins σ H s)(h:jH X.K H a xs):∃its:List Value,Vals xs its∧IsTup s.heap a its.toArray∧xs.length≤sizeLine:=by
 rcases h with h | ⟨o,its,n,hk,hc,hs,hz,r⟩
 ·obtain⟨z,its,r,p⟩:=h.ok I.hok
  exact⟨its,r,p,z⟩
 ·refine⟨its.toList,r,⟨o,I.oZ a o hk,hc,n,by simpa using hs⟩,?_⟩
  have e:=r.length
  simp only[F6]at e
  omega
theorem Inv.rC(I:Inv X pins σ H s)(h:fW X.K H a xs)(h':fW X.K H a ys):xs=ys:=by
 obtain⟨its,r,⟨o,n,e,_,_,d⟩,_⟩:=I.list h
 obtain⟨its',r',⟨o',n',e',_,_,d'⟩,_⟩:=I.list h'
 rw[e]at e';cases e'
 rw[d]at d'
 injection d' with d1 _
 have:its=its':=by simpa using congrArg P1 d1
 subst this
 exact r.inj r'
theorem Inv.nM(I:Inv X pins σ H s)(h:jH X.K H a xs)(h':jH X.K H a ys):xs=ys:=by
 obtain⟨its,r,⟨o,e,_,n,d⟩,_⟩:=I.tuple h
 obtain⟨its',r',⟨o',e',_,n',d'⟩,_⟩:=I.tuple h'
 rw[e]at e';cases e'
 rw[d]at d'
 injection d' with d1 _
 have:its=its':=by simpa using congrArg P1 d1
 subst this
 exact r.inj r'
end
abbrev Cx.wish(X:Cx)(E:Value→Shared→Prop):Cx:={X with xe:=E}
abbrev Cx.Ir(X:Cx):Cx:=X.wish λ_ _=>False
theorem Cx.Ok.wish{X:Cx}(ok:X.Ok)(E:Value→Shared→Prop):(X.wish E).Ok:=
 ⟨ok.mod,ok.kind,ok.glob,ok.blt,ok.above,ok.inj,ok.has,ok.cab,ok.hd,ok.frames,ok.Rf,ok.Ue,ok.bs,ok.Gp,ok.yS,ok.Cy,ok.kZ,ok.Nb⟩
theorem Cx.Ok.eU{X:Cx}{E:Value→Shared→Prop}(ok:(X.wish E).Ok):X.Ok:=
 ⟨ok.mod,ok.kind,ok.glob,ok.blt,ok.above,ok.inj,ok.has,ok.cab,ok.hd,ok.frames,ok.Rf,ok.Ue,ok.bs,ok.Gp,ok.yS,ok.Cy,ok.kZ,ok.Nb⟩
section
variable{X:Cx}{pins:List (Addr×Obj)}{σ:St}{H:Hp}{s:Shared}{E:Value→Shared→Prop}
theorem Inv.wish(I:Inv X pins σ H s)(E:Value→Shared→Prop):Inv (X.wish E) pins σ H s:=⟨I.ok.wish E,I.os,I.bare,I.base,I.loc,I.cell,I.free,I.eQ,I.pin,I.hok,I.len⟩
theorem Inv.eU(I:Inv (X.wish E) pins σ H s):Inv X pins σ H s:=⟨I.ok.eU,I.os,I.bare,I.base,I.loc,I.cell,I.free,I.eQ,I.pin,I.hok,I.len⟩
theorem SP.eU{D:Ends}{f:Flow}{s':Shared}(h:SP (X.wish E) pins D f s'):SP X pins D f s':=by
 cases f with
 | next=>obtain⟨σ',H',I,q⟩:=h;exact⟨σ',H',I.eU,q⟩
 | brk=>obtain⟨σ',H',I,q⟩:=h;exact⟨σ',H',I.eU,q⟩
 | cont=>obtain⟨σ',H',I,q⟩:=h;exact⟨σ',H',I.eU,q⟩
 | ret u=>obtain⟨v,σ',H',I,r,q⟩:=h;exact⟨v,σ',H',I.eU,r,q⟩
theorem tM.Ir{st:List Stmt}{t:TS}(h:tM X.Ir st t):tM X st t:=λpins s σ H D I hw=>
 wpAny_mono (h pins s σ H D (I.wish _) hw) (λ_ _ q=>q.eU) λ_ _ z=>False.elim z
end
section
variable{X:Cx}{st:Stmt}{rest:List Stmt}{t u:TS}{e:Expr}{te:TE}{pos:Pos}
def Gr:TS:=λD σ H=>D.nx σ H
def Iu(t u:TS):TS:=λD σ H=>t {D with nx:=u D} σ H
theorem Cz:tM X [] Gr:=λ_ _ σ H _ I h=>wpAny_execs_nil ⟨σ,H,I,h⟩
theorem yV(h1:PS X st t)(h2:tM X rest u):tM X (st::rest) (Iu t u):=by
 intro pins s σ H D I h
 refine wpAny_execs_cons (bY (h1 pins s σ H {D with nx:=u D} I h) λf s1 q=>?_)
 cases f with
 | next=>
  obtain⟨σ',H',I',q⟩:=q
  exact h2 pins s1 σ' H' D I' q
 | ret v=>exact q
 | brk=>exact q
 | cont=>exact q
theorem Dc(h1:PS X st t):tM X [st] t:=by
 intro pins s σ H D I h
 refine wpAny_execs_cons (bY (h1 pins s σ H D I h) λf s1 q=>?_)
 cases f with
 | next=>exact wpAny_execs_nil q
 | ret v=>exact q
 | brk=>exact q
 | cont=>exact q
theorem Inv.quiet{pins:List (Addr×Obj)}{σ:St}{H:Hp}{s:Shared}(I:Inv X pins σ H s):interactive X.env=false:=by simp[interactive,I.ok.kind]
def vI(te:TE):TS:=λD σ H=>te σ H λ_ H1=>D.nx σ H1
theorem Dd(he:PE X e te)(hs:swapsWith e none pos.line X.env=pure false:=by rfl):PS X (.Expr e pos) (vI te):=by
 intro pins s σ H D I h
 exact wpAny_Expr_any (bY (he pins s σ H _ I h) λv s1 ⟨x,H1,I1,r1,q1⟩=>⟨σ,H1,I1,q1⟩) I.quiet hs
def Iv(te:TE):TS:=λD σ H=>te σ H D.rt
theorem yW(he:PE X e te):PS X (.Return (some e) pos) (Iv te):=by
 intro pins s σ H D I h
 exact wpAny_Return_some (bY (he pins s σ H _ I h) λv s1 ⟨x,H1,I1,r1,q1⟩=>⟨x,σ,H1,I1,r1,q1⟩)
def Nu(c:TT)(t u:TS):TS:=λD σ H=>c σ H λb H1=>if b=true then t D σ H1 else u D σ H1
theorem Nv{c:Expr}{a b:List Stmt}{tc:TT}(hc:PT X c tc)(ha:tM X a t)(hb:tM X b u):PS X (.If c a b pos) (Nu tc t u):=by
 intro pins s σ H D I h
 refine wpAny_If (bY (hc pins s σ H _ I h) λd s1 ⟨H1,I1,q1⟩=>?_)
 cases d with
 | true=>exact ha pins s1 σ H1 D I1 q1
 | false=>exact hb pins s1 σ H1 D I1 q1
def yX:TS:=λ_ _ _=>False
theorem yZ:PS X st yX:=λ_ _ _ _ _ _ h=>h.elim
end
abbrev TG:=V→St→Hp→(St→Hp→Prop)→Prop
def PG(X:Cx)(target:Expr)(t:TG):Prop:=
 ∀(pins:List (Addr×Obj))(s:Shared)(σ:St)(H:Hp)(v:V)(u:Value)(Q:St→Hp→Prop),Inv X pins σ H s→RelV v u→t v σ H Q →
  wpAny (model X.prog X.w) X.A (assign target X.env u) (λ_ s'=>∃σ' H',Inv X pins σ' H' s'∧Q σ' H') X.xe s
section
variable{X:Cx}{pos:Pos}
def cR(i:Nat):TG:=λv σ H Q=>Q (σ.set i (some v)) H
theorem pD{i:Nat}{x:Str}(hN:X.N.Nodup)(hi:X.N[i]?=some x)(hx:Loc X.env.scope x)(hf:X.fn x=true∨X.env.scope.names.lookup x=some .local:=by first | exact .inl rfl | exact .inr rfl | assumption):PG X (.Name x pos) (cR i):=by
 intro pins s σ H v u Q I r h
 exact wpAny_assign_Name (rB I hN hi hx r (λs' I'=>⟨_,H,I',h⟩) hf)
def De(te:TE)(g:TG):TS:=λD σ H=>te σ H λx H1=>g x σ H1 D.nx
theorem bD{i:Nat}{x:Str}{e:Expr}{te:TE}{pos':Pos}(hN:X.N.Nodup)(hi:X.N[i]?=some x)(hx:Loc X.env.scope x)(he:PE X e te)(hs:swapsWith e (some (.Name x pos')) pos.line X.env=pure false:=by rfl)(hf:X.fn x=true∨X.env.scope.names.lookup x=some .local:=by first | exact .inl rfl | exact .inr rfl | assumption) :
  PS X (.Assign [.Name x pos'] e pos) (De te (cR i)):=by
 intro pins s σ H D I h
 refine wpAny_Assign_Name (bY (he pins s σ H _ I h) λv s1 ⟨y,H1,I1,r1,q1⟩=>?_) hs
 exact rB I1 hN hi hx r1 (λs2 I2=>⟨_,H1,I2,q1⟩) hf
end
section
variable{X:Cx}{pos:Pos}
def tO(c:TT)(tb:TS):TS:=λD σ H=>∃W:Nat→St→Hp→Prop,(∃m,W m σ H)∧∀m σ H,W m σ H →
 c σ H λb H1=>if b=true then ∃N:St→Hp→Prop,(∀σ' H',N σ' H'→∃m',m'<m∧W m' σ' H')∧tb {D with nx:=N,ct:=N,bk:=D.nx} σ H1 else D.nx σ H1
theorem zA{c:Expr}{body:List Stmt}{tc:TT}{tb:TS}(hp:PassesOwn (model X.prog X.w) X.A X.env X.xe)(hc:PT X c tc)(hb:tM X body tb):PS X (.While c body [] pos) (tO tc tb):=by
 intro pins s σ H D I h
 obtain⟨W,⟨m0,w0⟩,turn⟩:=h
 refine wpAny_While (codeAny_whileLoop (λn s'=>∃σ' H',Inv X pins σ' H' s'∧W n σ' H') ?_ m0 ⟨σ,H,I,w0⟩)
 rintro n s1 ⟨σ1,H1,I1,w1⟩
 refine wpAny_passesOwn hp (bY (hc pins s1 σ1 H1 _ I1 (turn n σ1 H1 w1)) λb s2 ⟨H2,I2,q2⟩=>?_)
 cases b with
 | true=>
  obtain⟨N,hN,q2⟩:=q2
  rw[if_pos rfl]
  refine wpAny_passesOwn hp (bY (hb pins s2 σ1 H2 _ I2 q2) λf s3 q3=>?_)
  cases f with
  | next=>
   obtain⟨σ3,H3,I3,n3⟩:=q3
   obtain⟨m',hm,w3⟩:=hN σ3 H3 n3
   exact⟨m',hm,σ3,H3,I3,w3⟩
  | cont=>
   obtain⟨σ3,H3,I3,n3⟩:=q3
   obtain⟨m',hm,w3⟩:=hN σ3 H3 n3
   exact⟨m',hm,σ3,H3,I3,w3⟩
  | brk=>exact q3
  | ret v=>exact q3
 | false=>
  rw[if_neg B5]
  exact wpAny_execs_nil ⟨σ1,H2,I2,q2⟩
end
structure It where
 go:Nat→Hp→Prop
 Nx:Nat→Hp→V→Hp→Prop
 stop:Nat→Hp→Prop
def mZ(X:Cx)(pins:List (Addr×Obj))(H:Hp)(b:Addr):Prop:=
 H b=none∧b≠X.env.locals∧b∉X.fs∧(b∈X.ex∨X.s₀.heap.objs.size≤b)∧(∀x c,X.env.cells.lookup x=some c→c≠b)∧∀p∈X.pn++pins,p.1≠b
theorem Inv.Df{X:Cx}{pins:List (Addr×Obj)}{σ:St}{H H':Hp}{s:Shared}{b:Addr}(I:Inv X pins σ H s)(hb:s.heap.objs.size≤b)(hn:H' b=none):mZ X pins H' b:=by
 refine⟨hn,J9 (B0 I.lt hb),I.Rt hb,.inr (D7 I.sz hb),λx c e z=>?_,λp hp z=>?_⟩
 ·obtain⟨v,q⟩:=I.cell x c e
  exact absurd (B0 q.lt (by rw[z];exact hb)) (E3 _)
 ·exact absurd (B0 (Heap.lt_size (I.pin p hp).1) (by rw[z];exact hb)) (E3 _)
structure Turn(P:Program)(w:World)(K:aA)(tg:Expr)(J:It)(fp:List Addr)(it:Addr)(tn:Nat→Heap→Prop):Prop where
 mem:it∈fp
 obj:∀i h,tn i h→∀b∈fp,∃o,h.get? b=some o∧∀v,o.data≠.cell v
 keep:∀i h h',tn i h→(∀b∈fp,∀o,h.get? b=some o→h'.get? b=some o)→tn i h'
 item:∀(X:Cx),X.prog=P→X.w=w→X.K=K→X.calm=true→∀(i:Nat)(pins:List (Addr×Obj))(s:Shared)(σ:St)(H:Hp)(E:Value→Shared→Prop),Inv X pins σ H s→(∀b∈fp,mZ X pins H b)→tn i s.heap→J.go i H →
  wpAny (model P w) X.A (pyNext (.ref it)) (λr s1=>∃u,r=some u ∧
   wpAny (model P w) X.A (letOwnedTupleGo tg (.ref it) u) (λ_ s2=>∃x H',Inv X pins σ H' s2∧RelV x u∧J.Nx i H x H'∧tn (i+1) s2.heap∧∀b∈fp,H' b=none) E s1) E s
 done:∀(X:Cx),X.prog=P→X.w=w→X.K=K→X.calm=true→∀(i:Nat)(pins:List (Addr×Obj))(s:Shared)(σ:St)(H:Hp)(E:Value→Shared→Prop),Inv X pins σ H s→(∀b∈fp,mZ X pins H b)→tn i s.heap→J.stop i H →
  wpAny (model P w) X.A (pyNext (.ref it)) (λr s1=>r=none∧Inv X pins σ H s1) E s
 self:∀(A:Around)(i:Nat)(s:Shared)(Q:Value→Shared→Prop)(E:Value→Shared→Prop),tn i s.heap→Q (.ref it) s→wpAny (model P w) A (pyIter (.ref it)) Q E s
abbrev TI:=St→Hp→(It→Hp→Prop)→Prop
def PIE(X:Cx)(pins:List (Addr×Obj))(σ:St)(tg:Expr)(R:It→Hp→Prop)(itv:Value)(s2:Shared):Prop:=
 ∃(it:Addr)(fp:List Addr)(tn:Nat→Heap→Prop)(J:It)(H':Hp),itv=.ref it∧Inv X pins σ H' s2∧Turn X.prog X.w X.K tg J fp it tn∧tn 0 s2.heap∧(∀b∈fp,mZ X pins H' b)∧R J H'
def PI(X:Cx)(tg iter:Expr)(wi:TI):Prop:=
 ∀(pins:List (Addr×Obj))(s:Shared)(σ:St)(H:Hp)(R:It→Hp→Prop),Inv X pins σ H s→wi σ H R →
  wpAny (model X.prog X.w) X.A (eval iter X.env) (λv s1=>wpAny (model X.prog X.w) X.A (pyIter v) (PIE X pins σ tg R) X.xe s1) X.xe s
theorem vJ{M:Model}{A:Around}{E:Value→Shared→Prop}{s:Shared}{tg:Expr}{it:Addr}{u:Value}{o:Obj}{n:String}{vs:Array Value}{Q:Unit→Shared→Prop}(ho:s.heap.get? it=some o)(hc:o.cls=.type n)(hd:o.data=.fields vs)
    (hn:["enumerate", "zip", "dict_itemiterator", "dict_reverseitemiterator", "odict_iterator", "itertools.zip_longest", "itertools.pairwise"].contains n=false) (hQ:Q () s):wpAny M A (letOwnedTupleGo tg (.ref it) u) Q E s:=by
  unfold letOwnedTupleGo
  cases tg<;>first
    | exact wpAny_pure hQ
    | (cases u<;>first
        | exact wpAny_pure hQ
        | (refine wpAny_bind (wpAny_load ho ?_)
           rw[hc,hd]
           show wpAny M A (if(["enumerate", "zip", "dict_itemiterator", "dict_reverseitemiterator", "odict_iterator", "itertools.zip_longest", "itertools.pairwise"].contains n&&vs[0]?==some (rawInt _))=true then _ else _) Q E s
           rw[if_neg (by intro h;rw[hn,Bool.false_and]at h;cases h)]
           exact wpAny_pure hQ))
def Ry(K:aA)(a:Addr):It:=
 ⟨λi H=>∃xs x,fW K H a xs∧xs[i]?=some x,λi H x H'=>H'=H∧∀xs,fW K H a xs→xs[i]?=some x,λi H=>∃xs,fW K H a xs∧xs.length≤i⟩
def Rz(K:aA)(a:Addr):It:=
 ⟨λi H=>∃xs x,jH K H a xs∧xs[i]?=some x,λi H x H'=>H'=H∧∀xs,jH K H a xs→xs[i]?=some x,λi H=>∃xs,jH K H a xs∧xs.length≤i⟩
def Rg(lo:Int)(n:Nat):It:=⟨λi _=>i<n,λi H x H'=>H'=H∧x=.int (lo+i),λi _=>n≤i⟩
theorem wX{P:Program}{w:World}{K:aA}{tg:Expr}(a it:Addr):Turn P w K tg (Ry K a) [it] it (λi h=>h.IsListIter it a i) where
 mem:=by simp
 obj:=λi h st b hb=>by
  have e:b=it:=by simpa using hb
  subst e
  obtain⟨o,e,c,d⟩:=st
  exact⟨o,e,λv z=>by rw[d]at z;cases z⟩
 keep:=λi h h' st k=>st.at λo e=>k it (by simp) o e
 item:=by
  intro X hP hw hK hc i pins s σ H E I hf st hg
  subst hP hw hK
  obtain⟨xs,x,hq,hx⟩:=hg
  obtain⟨its,rv,p,hz⟩:=I.list hq
  obtain⟨u,hu,ru⟩:=rv.get hx
  obtain⟨f0,f1,f2,f3,f4,f5⟩:=hf it (by simp)
  refine wpAny_pyNext_list_item st p.isList (x:=u) (by simpa using hu) λh' st' sb=>?_
  have I1:Inv X pins σ H {s with heap:=h'}:=I.turned (t':=s.toks) (λb o hb e=>(sb.2 b hb).trans e) f0 f1 f3 f4 f5
  obtain⟨o,e,c,d⟩:=id st'
  exact⟨u,rfl,vJ (s:={s with heap:=h'}) e c d (by decide) ⟨x,H,I1,ru,⟨rfl,λys hy=>by rw[I.rC hy hq];exact hx⟩,st',λb hb=>(hf b hb).1⟩⟩
 done:=by
  intro X hP hw hK hc i pins s σ H E I hf st hg
  subst hP hw hK
  obtain⟨xs,hq,hx⟩:=hg
  obtain⟨its,rv,p,hz⟩:=I.list hq
  obtain⟨f0,f1,f2,f3,f4,f5⟩:=hf it (by simp)
  have hl:=rv.length
  exact wpAny_pyNext_list_end (I.ok.hd hc) st p.isList (by simp;omega) λh' eb=>⟨rfl,I.turned (t':=s.toks) (λb o hb e=>eb b o hb e) f0 f1 f3 f4 f5⟩
 self:=λ_ _ _ _ _ st h=>wpAny_pyIter_listiter st h
theorem tQ{P:Program}{w:World}{K:aA}{tg:Expr}(a it:Addr):Turn P w K tg (Rz K a) [it] it (λi h=>h.IsTupleIter it a i) where
 mem:=by simp
 obj:=λi h st b hb=>by
  have e:b=it:=by simpa using hb
  subst e
  obtain⟨o,e,c,d⟩:=st
  exact⟨o,e,λv z=>by rw[d]at z;cases z⟩
 keep:=λi h h' st k=>st.at λo e=>k it (by simp) o e
 item:=by
  intro X hP hw hK hc i pins s σ H E I hf st hg
  subst hP hw hK
  obtain⟨xs,x,hq,hx⟩:=hg
  obtain⟨its,rv,p,hz⟩:=I.tuple hq
  obtain⟨u,hu,ru⟩:=rv.get hx
  obtain⟨f0,f1,f2,f3,f4,f5⟩:=hf it (by simp)
  refine wpAny_pyNext_tuple_item st (show s.heap.IsTuple a its.toArray from p) (x:=u) (by simpa using hu) λh' st' sb=>?_
  have I1:Inv X pins σ H {s with heap:=h'}:=I.turned (t':=s.toks) (λb o hb e=>(sb.2 b hb).trans e) f0 f1 f3 f4 f5
  obtain⟨o,e,c,d⟩:=id st'
  exact⟨u,rfl,vJ (s:={s with heap:=h'}) e c d (by decide) ⟨x,H,I1,ru,⟨rfl,λys hy=>by rw[I.nM hy hq];exact hx⟩,st',λb hb=>(hf b hb).1⟩⟩
 done:=by
  intro X hP hw hK hc i pins s σ H E I hf st hg
  subst hP hw hK
  obtain⟨xs,hq,hx⟩:=hg
  obtain⟨its,rv,p,hz⟩:=I.tuple hq
  obtain⟨f0,f1,f2,f3,f4,f5⟩:=hf it (by simp)
  have hl:=rv.length
  exact wpAny_pyNext_tuple_end (I.ok.hd hc) st (show s.heap.IsTuple a its.toArray from p) (by simp;omega) λh' eb=>⟨rfl,I.turned (t':=s.toks) (λb o hb e=>eb b o hb e) f0 f1 f3 f4 f5⟩
 self:=λ_ _ _ _ _ st h=>wpAny_pyIter_tupleiter st h
theorem tR{P:Program}{w:World}{K:aA}{tg:Expr}(it:Addr)(lo:Int)(n:Nat):Turn P w K tg (Rg lo n) [it] it (λi h=>IsRangeIter h it (lo+(i:Nat)*1) ((n:Int)-(i:Nat)) 1) where
 mem:=by simp
 obj:=λi h st b hb=>by
  have e:b=it:=by simpa using hb
  subst e
  exact⟨_,st,λv z=>by
   have z':Data.fields _=Data.cell v:=z
   cases z'⟩
 keep:=λi h h' st k=>k it (by simp) _ st
 item:=by
  intro X hP hw hK hc i pins s σ H E I hf st hg
  subst hP hw hK
  obtain⟨f0,f1,f2,f3,f4,f5⟩:=hf it (by simp)
  have W:=Walks.range (prog:=X.prog) (w:=X.w) (I.ok.hd hc) it lo 1 n
  refine W.item i s _ _ hg st λv h' tk hv st' kk=>?_
  obtain⟨t,rfl⟩:=hv
  have I1:Inv X pins σ H {s with heap:=h',toks:=tk}:=I.turned (λb o hb e=>kk b o (by simpa using hb) e) f0 f1 f3 f4 f5
  refine⟨_,rfl,vJ (s:={s with heap:=h',toks:=tk}) (n := "range_iterator") st' rfl rfl (by decide) ⟨.int (lo+i),H,I1,⟨t,?_⟩,⟨rfl,rfl⟩,st',λb hb=>(hf b hb).1⟩⟩
  rw[Int.mul_one]
 done:=by
  intro X hP hw hK hc i pins s σ H E I hf st hg
  subst hP hw hK
  obtain⟨f0,f1,f2,f3,f4,f5⟩:=hf it (by simp)
  exact wpAny_pyNext_range_end (I.ok.hd hc) st (by have:n≤i:=hg;omega) λh' eb=>⟨rfl,I.turned (t':=s.toks) (λb o hb e=>eb b o hb e) f0 f1 f3 f4 f5⟩
 self:=λ_ _ _ _ _ st h=>wpAny_pyIter_rangeiter st h
end L2
namespace L2
open PySem PySem.Spec PyProof.Rows
section
variable{X:Cx}{tg:Expr}
def Gs(K:aA)(tl:TE):TI:=λσ H R=>tl σ H λx H1=>∃a,x=.ref a∧(∃xs,fW K H1 a xs)∧R (Ry K a) H1
def Ny(K:aA)(tl:TE):TI:=λσ H R=>tl σ H λx H1=>∃a,x=.ref a∧(∃xs,jH K H1 a xs)∧R (Rz K a) H1
theorem Dg{l:Expr}{tl:TE}(hl:PE X l tl):PI X tg l (Gs X.K tl):=by
 intro pins s σ H R I h
 refine bY (hl pins s σ H _ I h) λv s1 ⟨x,H1,I1,r1,q1⟩=>?_
 obtain⟨a,e,⟨xs,hq⟩,q⟩:=q1
 subst e
 cases r1
 obtain⟨its,rv,p,hz⟩:=I1.list hq
 refine wpAny_pyIter_list p.isList ?_
 refine⟨s1.heap.objs.size,[s1.heap.objs.size],_,_,H1,rfl,I1.kept (t':=s1.toks) λb o e=>Heap.get?_push_of_some _ e,wX a _,⟨_,Heap.get?_push_size _ rfl,rfl,rfl⟩,λb hb=>?_,q⟩
 have e:b=s1.heap.objs.size:=by simpa using hb
 subst e
 exact I1.Df (B4 _) (I1.hok.fresh (B4 _))
theorem Iw{l:Expr}{tl:TE}(hl:PE X l tl):PI X tg l (Ny X.K tl):=by
 intro pins s σ H R I h
 refine bY (hl pins s σ H _ I h) λv s1 ⟨x,H1,I1,r1,q1⟩=>?_
 obtain⟨a,e,⟨xs,hq⟩,q⟩:=q1
 subst e
 cases r1
 obtain⟨its,rv,p,hz⟩:=I1.tuple hq
 refine wpAny_pyIter_tuple (show s1.heap.IsTuple a its.toArray from p) ?_
 refine⟨s1.heap.objs.size,[s1.heap.objs.size],_,_,H1,rfl,I1.kept (t':=s1.toks) λb o e=>Heap.get?_push_of_some _ e,tQ a _,⟨_,Heap.get?_push_size _ rfl,rfl,rfl⟩,λb hb=>?_,q⟩
 have e:b=s1.heap.objs.size:=by simpa using hb
 subst e
 exact I1.Df (B4 _) (I1.hok.fresh (B4 _))
theorem zB{pins:List (Addr×Obj)}{σ:St}{H:Hp}{s:Shared}{R:It→Hp→Prop}{E:Value→Shared→Prop}{lo hi:Int}{t u v:Tok}{tk:Nat}(I:Inv X pins σ H s)(h1:-(2 ^ 62)≤lo)(h2:lo<2 ^ 62)(h3:-(2 ^ 62)≤hi)(h4:hi<2 ^ 62)
  (q:R (Rg lo (hi-lo).toNat) H):wpAny (model X.prog X.w) X.A (pyIter (.ref s.heap.objs.size)) (PIE X pins σ tg R) E {s with heap:=s.heap.push {cls:=.type "range", data:=.fields #[.int lo t,.int hi u,.int 1 v]},toks:=tk}:=by
 refine wpAny_pyIter_range (IsRange.new ..) (small_one h1 h2 h3 h4) ?_
 have I1:Inv X pins σ H {s with heap:=s.heap.push {cls:=.type "range", data:=.fields #[.int lo t,.int hi u,.int 1 v]},toks:=tk}:=I.kept λb o e=>Heap.get?_push_of_some _ e
 refine⟨(s.heap.push {cls:=.type "range", data:=.fields #[.int lo t,.int hi u,.int 1 v]}).objs.size,[(s.heap.push {cls:=.type "range", data:=.fields #[.int lo t,.int hi u,.int 1 v]}).objs.size],_,_,H,rfl,
  I1.kept (t':=tk) λb o e=>Heap.get?_push_of_some _ e,tR _ lo (hi-lo).toNat,?_,λb hb=>?_,q⟩
 ·have e1:lo+((0:Nat):Int)*1=lo:=by simp
  have e2:(((hi-lo).toNat:Nat):Int)-((0:Nat):Int)=Builtin.Range.rangeSize lo hi 1:=by rw[rangeSize_one];split<;>omega
  show IsRangeIter _ _ (lo+((0:Nat):Int)*1) ((((hi-lo).toNat:Nat):Int)-((0:Nat):Int)) 1
  rw[e1,e2]
  exact Heap.get?_push_size _ rfl
 ·have e:b=(s.heap.push {cls:=.type "range", data:=.fields #[.int lo t,.int hi u,.int 1 v]}).objs.size:=by simpa using hb
  subst e
  exact I1.Df (B4 _) (I1.hok.fresh (B4 _))
def Gu(ta:TA):TI:=λσ H R=>ta σ H λvs H1=>∃j:Int,vs=[.int j]∧-(2 ^ 62)≤j∧j<2 ^ 62∧R (Rg 0 j.toNat) H1
theorem wY{a:Expr}{ta:TA}{p pos:Pos}(hg:Gl X "range") (hm:X.mg "range" = none) (ha:PA X [a] ta) (hs:starEach [a] X.env=[(false,eval a X.env)]:=by rfl):PI X tg (.Call (.Name "range" p) [a] [] pos) (Gu ta):=by
 intro pins s σ H R I h
 refine Call_ (pC I hg hm boot_range (I0 (bY (ha pos pins s σ H _ I h) λus s1 ⟨vs,H1,I1,r1,q1⟩=>?_) hs rfl))
 obtain⟨j,e,q1,q2,q⟩:=q1
 subst e
 cases r1 with
 | cons r rr=>
  cases rr
  obtain⟨t,rfl⟩:=r
  exact call_range_1 (zB I1 (by omega) (by omega) q1 q2 (by simpa using q))
def zF(wi:TI)(g:TG)(tb:TS):TS:=λD σ H=>wi σ H λJ H1=>∃W:Nat→Nat→St→Hp→Prop,(∃m,W 0 m σ H1)∧∀i m σ H,W i m σ H →
 (J.stop i H∧D.nx σ H)∨(J.go i H∧∃N:St→Hp→Prop,(∀σ' H',N σ' H'→∃m',m'<m∧W (i+1) m' σ' H')∧∀x H',J.Nx i H x H'→g x σ H' λσ2 H2=>tb {D with nx:=N,ct:=N,bk:=D.nx} σ2 H2)
def lA(fp:List Addr)(h:Heap):List (Addr×Obj):=fp.filterMap λb=>(h.get? b).map λo=>(b,o)
theorem dW{fp:List Addr}{h:Heap}{b:Addr}{o:Obj}(hb:b∈fp)(e:h.get? b=some o):(b,o)∈lA fp h:=M6.mpr ⟨b,hb,by rw[e];rfl⟩
theorem wZ{fp:List Addr}{h:Heap}{p:Addr×Obj}(hp:p∈lA fp h):p.1∈fp∧h.get? p.1=some p.2:=by
 obtain⟨b,hb,e⟩:=M6.mp hp
 cases q:h.get? b with
 | none=>rw[q]at e;cases e
 | some o=>
  rw[q]at e
  have e':(b,o)=p:=C3 e
  subst e'
  exact⟨hb,q⟩
theorem Inv.pinned{pins:List (Addr×Obj)}{σ:St}{H:Hp}{s:Shared}{fp:List Addr}(I:Inv X pins σ H s)(hf:∀b∈fp,mZ X pins H b)(ho:∀b∈fp,∃o,s.heap.get? b=some o∧∀v,o.data≠.cell v):Inv X (pins++lA fp s.heap) σ H s:=
 I.vD λp hp=>(G5.mp hp).elim (λz=>I.pin p (B8 _ z)) λz=>by
  obtain⟨hb,e⟩:=wZ z
  obtain⟨f0,f1,f2,_⟩:=hf p.1 hb
  obtain⟨o,e',d⟩:=ho p.1 hb
  rw[e]at e';cases e'
  exact⟨e,f0,f1,f2,d⟩
theorem Inv.gO{pins pl:List (Addr×Obj)}{σ:St}{H:Hp}{s:Shared}(I:Inv X (pins++pl) σ H s):Inv X pins σ H s:=I.vD λp hp=>I.pin p (B8 _ (L8 _ hp))
theorem zG{iter:Expr}{body:List Stmt}{wi:TI}{g:TG}{tb:TS}{pos:Pos}(hp:PassesOwn (model X.prog X.w) X.A X.env X.xe)(hc:X.calm=true)(hi:PI X tg iter wi)(hg:PG X tg g)(hb:tM X body tb)
  (hs:∀x,foldedSetIterable iter X.env x=pure x:=by intro _;rfl):PS X (.For tg iter body [] pos) (zF wi g tb):=by
 intro pins s σ H D I h
 refine wpAny_For (bY (hi pins s σ H _ I h) λv s1 h1=>bY h1 λitv s2 h2=>?_) hs
 obtain⟨it,fp,tn,J,H2,e,I2,T,st2,f2,W,⟨m0,w0⟩,turn⟩:=h2
 subst e
 have stat:∀{H':Hp},(∀b∈fp,H' b=none)→∀b∈fp,mZ X pins H' b:=λhn b hb=>⟨hn b hb,(f2 b hb).2⟩
 refine codeAny_forLoop_any (λn s'=>∃i σ' H',Inv X pins σ' H' s'∧tn i s'.heap∧(∀b∈fp,H' b=none)∧W i n σ' H') ?_ m0 ⟨0,σ,H2,I2,st2,λb hb=>(f2 b hb).1,w0⟩
 rintro n s3 ⟨i,σ3,H3,I3,st3,fr3,w3⟩
 rcases turn i n σ3 H3 w3 with ⟨stop,qn⟩ | ⟨go,N,hN,step⟩
 ·refine wpAny_passesOwn hp (bY (T.done X rfl rfl rfl hc i pins s3 σ3 H3 X.xe I3 (stat fr3) st3 stop) λr s4 ⟨hr,I4⟩=>?_)
  subst hr
  exact wpAny_execs_nil ⟨σ3,H3,I4,qn⟩
 ·refine wpAny_passesOwn hp (bY (T.item X rfl rfl rfl hc i pins s3 σ3 H3 X.xe I3 (stat fr3) st3 go) λr s4 ⟨u,hr,h4⟩=>?_)
  subst hr
  refine wpAny_passesOwn hp (bY h4 λ_ s5 ⟨x,H5,I5,r5,y5,st5,fr5⟩=>?_)
  have Vh:=I5.pinned (stat fr5) (T.obj _ _ st5)
  refine wpAny_passesOwn hp (bY (hg _ s5 σ3 H5 x u _ Vh r5 (step x H5 y5)) λ_ s6 ⟨σ6,H6,I6,q6⟩=>?_)
  refine wpAny_passesOwn hp (bY (hb _ s6 σ6 H6 _ I6 q6) λf s7 q7=>?_)
  have again:∀{σ7:St} {H7:Hp},Inv X (pins++lA fp s5.heap) σ7 H7 s7→N σ7 H7→∃m,m<n∧∃i σ' H',Inv X pins σ' H' s7∧tn i s7.heap∧(∀b∈fp,H' b=none)∧W i m σ' H':=λ{σ7 H7} I7 n7=>by
   obtain⟨m',hm,w7⟩:=hN σ7 H7 n7
   refine⟨m',hm,i+1,σ7,H7,I7.gO,T.keep _ _ _ st5 λb hb o e=>(I7.pin (b,o) (B8 _ (B8 _ (dW hb e)))).1,λb hb=>?_,w7⟩
   obtain⟨o,e,d⟩:=T.obj _ _ st5 b hb
   exact(I7.pin (b,o) (B8 _ (B8 _ (dW hb e)))).2.1
  cases f with
  | next=>obtain⟨σ7,H7,I7,n7⟩:=q7;exact again I7 n7
  | cont=>obtain⟨σ7,H7,I7,n7⟩:=q7;exact again I7 n7
  | brk=>obtain⟨σ7,H7,I7,q7⟩:=q7;exact⟨σ7,H7,I7.gO,q7⟩
  | ret v=>obtain⟨x7,σ7,H7,I7,r7,q7⟩:=q7;exact⟨x7,σ7,H7,I7.gO,r7,q7⟩
end
end L2
namespace L2
open PySem PySem.Spec PyProof.Rows
abbrev R2:=V→V→Hp→VK→Prop
def eH(X:Cx)(f:Value→Value→Sem Value)(r:R2):Prop:=
 ∀(pins:List (Addr×Obj))(s:Shared)(σ:St)(H:Hp)(x y:V)(v u:Value)(Q:VK),Inv X pins σ H s→RelV x v→RelV y u→r x y H Q →
  wpAny (model X.prog X.w) X.A (f v u) (EP X pins σ Q) X.xe s
def Sd(X:Cx)(f:Value→Sem Value)(r:V→Hp→VK→Prop):Prop:=
 ∀(pins:List (Addr×Obj))(s:Shared)(σ:St)(H:Hp)(x:V)(v:Value)(Q:VK),Inv X pins σ H s→RelV x v→r x H Q →
  wpAny (model X.prog X.w) X.A (f v) (EP X pins σ Q) X.xe s
def cN(X:Cx)(f:Value)(r:List V→Hp→VK→Prop):Prop:=
 ∀(pins:List (Addr×Obj))(s:Shared)(σ:St)(H:Hp)(xs:List V)(us:List Value)(Q:VK),Inv X pins σ H s→Vals xs us→r xs H Q →
  wpAny (model X.prog X.w) X.A (call f us) (EP X pins σ Q) X.xe s
def pF(r:R2)(ta tb:TE):TE:=λσ H Q=>ta σ H λx H1=>tb σ H1 λy H2=>r x y H2 Q
def Sg(r:V→Hp→VK→Prop)(ta:TE):TE:=λσ H Q=>ta σ H λx H1=>r x H1 Q
def rI(C:Int→Int→Prop)(g:Int→Int→V):R2:=λx y H Q=>∃i j,x=.int i∧y=.int j∧C i j∧Q (g i j) H
def yN(g:Int→Int→V):R2:=λx y H Q=>∃i j,x=.int i∧y=.int j∧Q (g i j) H
def rU(g:Int→V):V→Hp→VK→Prop:=λx H Q=>∃i,x=.int i∧Q (g i) H
section
variable{X:Cx}{a b c:Expr}{ta tb tc:TE}{pos:Pos}
theorem Iz(ha:PE X a ta)(hb:PE X b tb){pins:List (Addr×Obj)}{s:Shared}{σ:St}{H:Hp}{R:V→V→Hp→Prop}(I:Inv X pins σ H s)
  (h:ta σ H λx H1=>tb σ H1 λy H2=>R x y H2) {Q:Value→Shared→Prop} {f:Value→Value→Sem Value}
  (hf:∀v u s2 x y H2,Inv X pins σ H2 s2→RelV x v→RelV y u→R x y H2→wpAny (model X.prog X.w) X.A (f v u) Q X.xe s2) :
  wpAny (model X.prog X.w) X.A (eval a X.env) (λv s₁=>wpAny (model X.prog X.w) X.A (eval b X.env) (λu s₂=>wpAny (model X.prog X.w) X.A (f v u) Q X.xe s₂) X.xe s₁) X.xe s:=by
 refine bY (ha pins s σ H _ I h) λv s1 ⟨x,H1,I1,r1,q1⟩=>?_
 refine bY (hb pins s1 σ H1 _ I1 q1) λu s2 ⟨y,H2,I2,r2,q2⟩=>?_
 exact hf v u s2 x y H2 I2 r1 r2 q2
theorem Nz{op:Operator}{r:R2}(ho:eH X (binaryOp op) r)(ha:PE X a ta)(hb:PE X b tb):PE X (.BinOp a op b pos) (pF r ta tb):=by
 intro pins s σ H Q I h
 exact wpAny_BinOp (Iz ha hb I h λv u s2 x y H2 I2 rx ry q=>ho pins s2 σ H2 x y v u Q I2 rx ry q)
theorem Oa{op:UnaryOp}{r:V→Hp→VK→Prop}(ho:Sd X (unaryOp op) r)(ha:PE X a ta):PE X (.UnaryOp op a pos) (Sg r ta):=by
 intro pins s σ H Q I h
 exact UnaryOp_ (bY (ha pins s σ H _ I h) λv s1 ⟨x,H1,I1,r1,q1⟩=>ho pins s1 σ H1 x v Q I1 r1 q1)
theorem Ob{f:Value→Value→Sem Value}{C:Int→Int→Prop}{g:Int→Int→Int}
  (rule:∀(i j:Int)(t u:Tok)(s:Shared)(Q:Value→Shared→Prop)(E:Value→Shared→Prop),C i j→Q (.int (g i j) s.toks) {s with toks:=s.toks+1}→wpAny (model X.prog X.w) X.A (f (.int i t) (.int j u)) Q E s) :
  eH X f (rI C λi j=>.int (g i j)):=by
 intro pins s σ H x y v u Q I rx ry h
 obtain⟨i,j,rfl,rfl,hc,q⟩:=h
 obtain⟨t,rfl⟩:=rx
 obtain⟨t',rfl⟩:=ry
 exact rule i j t t' s _ _ hc ⟨.int (g i j),H,I.tok _,⟨_,rfl⟩,q⟩
theorem Oc{f:Value→Value→Sem Value}{g:Int→Int→Int}
  (rule:∀(i j:Int)(t u:Tok)(s:Shared)(Q:Value→Shared→Prop)(E:Value→Shared→Prop),Q (.int (g i j) s.toks) {s with toks:=s.toks+1}→wpAny (model X.prog X.w) X.A (f (.int i t) (.int j u)) Q E s) :
  eH X f (yN λi j=>.int (g i j)):=by
 intro pins s σ H x y v u Q I rx ry h
 obtain⟨i,j,rfl,rfl,q⟩:=h
 obtain⟨t,rfl⟩:=rx
 obtain⟨t',rfl⟩:=ry
 exact rule i j t t' s _ _ ⟨.int (g i j),H,I.tok _,⟨_,rfl⟩,q⟩
theorem Ja{f:Value→Value→Sem Value}{g:Int→Int→Bool}
  (rule:∀(i j:Int)(t u:Tok)(s:Shared)(Q:Value→Shared→Prop)(E:Value→Shared→Prop),Q (.bool (g i j)) s→wpAny (model X.prog X.w) X.A (f (.int i t) (.int j u)) Q E s) :
  eH X f (yN λi j=>.bl (g i j)):=by
 intro pins s σ H x y v u Q I rx ry h
 obtain⟨i,j,rfl,rfl,q⟩:=h
 obtain⟨t,rfl⟩:=rx
 obtain⟨t',rfl⟩:=ry
 exact rule i j t t' s _ _ ⟨.bl (g i j),H,I,rfl,q⟩
def xF(i j:Int):Prop:=0<j∧j<1073741824
def xG(i j:Int):Prop:=0≤j∧j≤1000000∧i.natAbs<2 ^ 64
def nA(i j:Int):Prop:=(-(2 ^ 64)<i∧i<2 ^ 64)∨(-(2 ^ 64)<j∧j<2 ^ 64)
theorem nA.ok{i j:Int}(h:nA i j):IntMulOk i j:=by
 rcases h with ⟨h1,h2⟩ | ⟨h1,h2⟩
 ·exact .of_left (intBits_le_64 h1 h2)
 ·exact .of_right (intBits_le_64 h1 h2)
theorem Jb:eH X (binaryOp .Add) (yN λi j=>.int (i+j)):=Oc λ_ _ _ _ _ _ _ q=>add_int q
theorem Jc:eH X (binaryOp .Sub) (yN λi j=>.int (i-j)):=Oc λ_ _ _ _ _ _ _ q=>sub_int q
theorem Jd:eH X (binaryOp .Mult) (rI nA λi j=>.int (i*j)):=Ob λ_ _ _ _ _ _ _ hc q=>mul_int q hc.ok
theorem Dh:eH X (binaryOp .FloorDiv) (rI xF λi j=>.int (i/j)):=Ob λi j _ _ _ _ _ hc q=>by
 have h1:(0:Int)<j:=hc.1
 have h2:j<1073741824:=hc.2
 exact floordiv_int (by omega) (by rw[J0 i (by omega)];exact q) (.inl (PyProof.noPylong_small (by omega)))
theorem Je:eH X (binaryOp .Mod) (rI (λ_ j=>0<j) λi j=>.int (i%j)):=Ob λi j _ _ _ _ _ hc q=>by
 have h1:(0:Int)<j:=hc
 exact mod_int' (by omega) (by rw[Int.fmod_eq_emod_of_nonneg i (by omega)];exact q)
theorem Jf:eH X (binaryOp .Pow) (rI xG λi j=>.int (i ^ j.toNat)):=Ob λ_ _ _ _ _ _ _ hc q=>pow_int_small hc.1 hc.2.1 hc.2.2 q
theorem Vi{f:Value→Sem Value}{g:Int→Int}
  (rule:∀(i:Int)(t:Tok)(s:Shared)(Q:Value→Shared→Prop)(E:Value→Shared→Prop),Q (.int (g i) s.toks) {s with toks:=s.toks+1}→wpAny (model X.prog X.w) X.A (f (.int i t)) Q E s) :
  Sd X f (rU λi=>.int (g i)):=by
 intro pins s σ H x v Q I rx h
 obtain⟨i,rfl,q⟩:=h
 obtain⟨t,rfl⟩:=rx
 exact rule i t s _ _ ⟨.int (g i),H,I.tok _,⟨_,rfl⟩,q⟩
theorem Jg:Sd X (unaryOp .USub) (rU λi=>.int (-i)):=Vi λ_ _ _ _ _ q=>neg_int q
end
def rD:V→V→Bool
  | .non,.non=>true | .non,.int _=>true | .int _,.non=>true | .non,.bl _=>true | .bl _,.non=>true | .non,.str _=>true | .str _,.non=>true
  | .int _,.int _=>true | .bl _,.bl _=>true | .str _,.str _=>true | .byt _,.byt _=>true
  | .int _,.str _=>true | .str _,.int _=>true | .bl _,.str _=>true | .str _,.bl _=>true
  | _,_=>false
def Sh:R2:=λx y H Q=>rD x y=true∧Q (.bl (decide (x=y))) H
def Ul:R2:=λx y H Q=>rD x y=true∧Q (.bl (!decide (x=y))) H
theorem vK{i j:Int}:decide (V.int i=V.int j)=(i==j):=by
 rw[E6]
 simp
theorem zH{i j:Bool}:decide (V.bl i=V.bl j)=(i==j):=by
 rw[E6]
 simp
theorem kI{i j:Str}:decide (V.str i=V.str j)=(i==j):=by
 rw[E6]
 simp
theorem vL{i j:Array UInt8}:decide (V.byt i=V.byt j)=(i.toList==j.toList):=by
 rw[E6]
 cases i
 cases j
 simp
section
variable{X:Cx}{a b c:Expr}{ta tb tc:TE}{pos:Pos}
theorem aN{pins:List (Addr×Obj)}{σ:St}{H:Hp}{s:Shared}{Q:VK}{k k':Bool}(I:Inv X pins σ H s)(q:Q (.bl k) H)(e:k=k'):EP X pins σ Q (.bool k') s:=by
 subst e
 exact⟨.bl k,H,I,rfl,q⟩
theorem Od:eH X (compareOp .Eq) Sh:=by
 intro pins s σ H x y v u Q I rx ry h
 obtain⟨hs,q⟩:=h
 cases x with
 | non=>
  cases rx
  cases y with
  | non=>cases ry;exact PySem.EqNone.eq_none_none (aN I q (by simp))
  | bl j=>cases ry;exact PySem.EqNone.eq_none_bool (aN I q (by simp))
  | int j=>obtain⟨t',rfl⟩:=ry;exact PySem.EqNone.eq_none_int (aN I q (by simp))
  | str j=>obtain⟨t',rfl⟩:=ry;exact PySem.EqNone.eq_none_str (aN I q (by simp))
  | _=>exact absurd (show false=true from hs) B5
 | bl i=>
  cases rx
  cases y with
  | non=>cases ry;exact PySem.EqNone.eq_bool_none (aN I q (by simp))
  | bl j=>cases ry;exact eq_bool (aN I q zH)
  | str j=>obtain⟨t',rfl⟩:=ry;exact PySem.EqMixed.eq_bool_str (aN I q (by simp))
  | _=>exact absurd (show false=true from hs) B5
 | int i=>
  obtain⟨t,rfl⟩:=rx
  cases y with
  | non=>cases ry;exact PySem.EqNone.eq_int_none (aN I q (by simp))
  | int j=>obtain⟨t',rfl⟩:=ry;exact eq_int (aN I q vK)
  | str j=>obtain⟨t',rfl⟩:=ry;exact PySem.EqMixed.eq_int_str (aN I q (by simp))
  | _=>exact absurd (show false=true from hs) B5
 | str i=>
  obtain⟨t,rfl⟩:=rx
  cases y with
  | non=>cases ry;exact PySem.EqNone.eq_str_none (aN I q (by simp))
  | bl j=>cases ry;exact PySem.EqMixed.eq_str_bool (aN I q (by simp))
  | int j=>obtain⟨t',rfl⟩:=ry;exact PySem.EqMixed.eq_str_int (aN I q (by simp))
  | str j=>obtain⟨t',rfl⟩:=ry;exact eq_str (aN I q kI)
  | _=>exact absurd (show false=true from hs) B5
 | byt i=>
  obtain⟨t,rfl⟩:=rx
  cases y with
  | byt j=>obtain⟨t',rfl⟩:=ry;exact PySem.W.eq_bytes (aN I q vL)
  | _=>exact absurd (show false=true from hs) B5
 | _=>cases y<;>exact absurd (show false=true from hs) B5
theorem Oe:eH X (compareOp .NotEq) Ul:=by
 intro pins s σ H x y v u Q I rx ry h
 obtain⟨hs,q⟩:=h
 cases x with
 | non=>
  cases rx
  cases y with
  | non=>cases ry;exact PySem.EqNone.ne_none_none (aN I q (by simp))
  | bl j=>cases ry;exact PySem.EqNone.ne_none_bool (aN I q (by simp))
  | int j=>obtain⟨t',rfl⟩:=ry;exact PySem.EqNone.ne_none_int (aN I q (by simp))
  | str j=>obtain⟨t',rfl⟩:=ry;exact PySem.EqNone.ne_none_str (aN I q (by simp))
  | _=>exact absurd (show false=true from hs) B5
 | bl i=>
  cases rx
  cases y with
  | non=>cases ry;exact PySem.EqNone.ne_bool_none (aN I q (by simp))
  | bl j=>cases ry;exact ne_bool (aN I q (congrArg not zH))
  | str j=>obtain⟨t',rfl⟩:=ry;exact PySem.EqMixed.ne_bool_str (aN I q (by simp))
  | _=>exact absurd (show false=true from hs) B5
 | int i=>
  obtain⟨t,rfl⟩:=rx
  cases y with
  | non=>cases ry;exact PySem.EqNone.ne_int_none (aN I q (by simp))
  | int j=>obtain⟨t',rfl⟩:=ry;exact ne_int (aN I q (congrArg not vK))
  | str j=>obtain⟨t',rfl⟩:=ry;exact PySem.EqMixed.ne_int_str (aN I q (by simp))
  | _=>exact absurd (show false=true from hs) B5
 | str i=>
  obtain⟨t,rfl⟩:=rx
  cases y with
  | non=>cases ry;exact PySem.EqNone.ne_str_none (aN I q (by simp))
  | bl j=>cases ry;exact PySem.EqMixed.ne_str_bool (aN I q (by simp))
  | int j=>obtain⟨t',rfl⟩:=ry;exact PySem.EqMixed.ne_str_int (aN I q (by simp))
  | str j=>obtain⟨t',rfl⟩:=ry;exact ne_str (aN I q (congrArg not kI))
  | _=>exact absurd (show false=true from hs) B5
 | byt i=>
  obtain⟨t,rfl⟩:=rx
  cases y with
  | byt j=>obtain⟨t',rfl⟩:=ry;exact PySem.W.ne_bytes (aN I q (congrArg not vL))
  | _=>exact absurd (show false=true from hs) B5
 | _=>cases y<;>exact absurd (show false=true from hs) B5
theorem Og:eH X (compareOp .Lt) (yN λi j=>.bl (decide (i<j))):=Ja λ_ _ _ _ _ _ _ q=>lt_int q
theorem Gv:eH X (compareOp .LtE) (yN λi j=>.bl (decide (i≤j))):=Ja λ_ _ _ _ _ _ _ q=>le_int q
theorem Oh:eH X (compareOp .Gt) (yN λi j=>.bl (decide (j<i))):=Ja λ_ _ _ _ _ _ _ q=>gt_int q
theorem xH:eH X (compareOp .In) (λx y H Q=>∃i j,x=.str i∧y=.str j∧Q (.bl (!(Builtin.Str.occurrences j i 0 j.length 1).isEmpty)) H):=by
 intro pins s σ H x y v u Q I rx ry h
 obtain⟨i,j,rfl,rfl,q⟩:=h
 obtain⟨t,rfl⟩:=rx
 obtain⟨t',rfl⟩:=ry
 exact in_str (aN I q rfl)
theorem eH.or{f:Value→Value→Sem Value}{r r':R2}(h:eH X f r)(h':eH X f r'):eH X f (λx y H Q=>r x y H Q∨r' x y H Q):=by
 intro pins s σ H x y v u Q I rx ry q
 rcases q with q | q
 ·exact h pins s σ H x y v u Q I rx ry q
 ·exact h' pins s σ H x y v u Q I rx ry q
theorem cG(b:Expr){op:CmpOp}(h:op≠.In:=by decide)(h2:op≠.NotIn:=by decide):behindInMarks op b=false:=by
 have e1:(op==CmpOp.In)=false:=by cases op<;>first | rfl | exact absurd rfl h
 have e2:(op==CmpOp.NotIn)=false:=by cases op<;>first | rfl | exact absurd rfl h2
 cases b<;>simp[behindInMarks,e1,e2]
theorem Di{op:CmpOp}{r:R2}(ho:eH X (compareOp op) r)(ha:PE X a ta)(hb:PE X b tb)(hm:behindInMarks op b=false):PE X (.Compare a [op] [b] pos) (pF r ta tb):=by
 intro pins s σ H Q I h
 exact wpAny_Compare1 (Iz ha hb I h λv u s2 x y H2 I2 rx ry q=>ho pins s2 σ H2 x y v u Q I2 rx ry q) hm
def rF(t:TE):TT:=λσ H Q=>t σ H λx H'=>∃k,x=.bl k∧Q k H'
theorem Dj{op:CmpOp}{r:R2}(ho:eH X (compareOp op) r)(ha:PE X a ta)(hb:PE X b tb)(hm:behindInMarks op b=false):PT X (.Compare a [op] [b] pos) (rF (pF r ta tb)):=by
 intro pins s σ H Q I h
 refine wpAny_isTrue_Compare1 (bY (ha pins s σ H _ I h) λv s1 ⟨x,H1,I1,r1,q1⟩=>bY (hb pins s1 σ H1 _ I1 q1) λu s2 ⟨y,H2,I2,r2,q2⟩=>
  bY (ho pins s2 σ H2 x y v u _ I2 r1 r2 q2) λc s3 ⟨z,H3,I3,r3,k,e,q3⟩=>?_) hm
 subst e
 cases r3
 exact wpAny_truthy_bool ⟨H3,I3,q3⟩
def zJ(r r':R2)(ta tb tc:TE):TE:=λσ H Q=>ta σ H λx H1=>tb σ H1 λy H2=>r x y H2 λz H3=>∃k,z=.bl k ∧
 (if k=true then tc σ H3 λw' H4=>r' y w' H4 Q else Q (.bl false) H3)
theorem zK{op op':CmpOp}{r r':R2}(ho:eH X (compareOp op) r)(ho':eH X (compareOp op') r')(ha:PE X a ta)(hb:PE X b tb)(hc:PE X c tc)
  (hm:lastMarks [op,op'] [b,c]=false:=by with_unfolding_all rfl):PT X (.Compare a [op,op'] [b,c] pos) (rF (zJ r r' ta tb tc)):=by
 intro pins s σ H Q I h
 refine isTrue_chain (bY (ha pins s σ H _ I h) λv s1 ⟨x,H1,I1,r1,q1⟩=>test_link (bY (hb pins s1 σ H1 _ I1 q1) λu s2 ⟨y,H2,I2,r2,q2⟩=>
  bY (ho pins s2 σ H2 x y v u _ I2 r1 r2 q2) λd s3 ⟨z,H3,I3,r3,k,e,q3⟩=>?_)) hm
 subst e
 cases r3
 refine wpAny_truthy_bool ?_
 cases k with
 | false=>
  obtain⟨k',e',q'⟩:=q3
  cases e'
  exact ite_ff ⟨H3,I3,q'⟩
 | true=>
  refine ite_tt (test_last (bY (hc pins s3 σ H3 _ I3 q3) λw' s4 ⟨z',H4,I4,r4,q4⟩=>bY (ho' pins s4 σ H4 y z' u w' _ I4 r2 r4 q4) λd' s5 ⟨z2,H5,I5,r5,k2,e2,q5⟩=>?_))
  subst e2
  cases r5
  exact wpAny_truthy_bool ⟨H5,I5,q5⟩
theorem lB:(sizeLine:Nat)<2 ^ 63:=by rw[sizeLine_eq];decide
theorem tU:eH X (binaryOp .Add) (λx y H Q=>∃i j,x=.str i∧y=.str j∧i.length+j.length≤sizeLine∧Q (.str (i++j)) H):=by
 intro pins s σ H x y v u Q I rx ry h
 obtain⟨i,j,rfl,rfl,hz,q⟩:=h
 obtain⟨t,rfl⟩:=rx
 obtain⟨t',rfl⟩:=ry
 exact add_str (λt' tk=>⟨.str (i++j),H,I.tok _,⟨_,rfl⟩,q⟩) hz
theorem vals1{x:V}{us:List Value}(r:Vals [x] us):∃u,us=[u]∧RelV x u:=by
 cases r with
 | cons r1 r2=>cases r2;exact⟨_,rfl,r1⟩
theorem vals2{x y:V}{us:List Value}(r:Vals [x,y] us):∃u w',us=[u,w']∧RelV x u∧RelV y w':=by
 cases r with
 | cons r1 r2=>
  cases r2 with
  | cons r3 r4=>cases r4;exact⟨_,_,rfl,r1,r3⟩
theorem xJ(hc:X.calm=true):cN X (.builtin "min") (λxs H Q=>∃i j,xs=[.int i,.int j]∧Q (.int (if j<i then j else i)) H):=by
 intro pins s σ H xs us Q I r h
 obtain⟨i,j,rfl,q⟩:=h
 obtain⟨u,w',rfl,⟨t,rfl⟩,⟨t',rfl⟩⟩:=vals2 r
 refine min_two_ints (I.ok.hd hc) λh' tk k=>⟨_,H,I.kept k,?_,q⟩
 by_cases hj:j<i
 ·rw[if_pos hj,if_pos hj];exact⟨_,rfl⟩
 ·rw[if_neg hj,if_neg hj];exact⟨_,rfl⟩
theorem pG:cN X (.type "str") (λxs H Q=>∃i,xs=[.int i]∧i.natAbs.log2<1920∧Q (.str (toString i)) H):=by
 intro pins s σ H xs us Q I r h
 obtain⟨i,rfl,hz,q⟩:=h
 obtain⟨u,rfl,t,rfl⟩:=vals1 r
 exact PySem.P.str_of_int hz ⟨.str _,H,I.tok _,⟨_,rfl⟩,q⟩
end
end L2
namespace L2
open PySem PySem.Spec PyProof.Rows
structure Jh(h:Heap)(x dx C:Addr)(mA:Str→Option Value):Prop where
 obj:h.get? x=some (K7 C dx)
 ns:h.Ns1 dx mA
 ne:dx≠x
theorem xK{h:Heap}{dx:Addr}{mA:Str→Option Value}(n:h.Ns1 dx mA):∃od,h.get? dx=some od∧∀name,L5 name od=some (mA name):=by
 obtain⟨o,es,ep,ho,hd,hk,_,hm⟩:=n
 refine⟨o,ho,λname=>?_⟩
 have e:=hm name
 unfold nsFind findBy at e
 rw[←Array.find?_toList]at e
 unfold L5
 rw[hd]
 dsimp only
 split
 ·rename_i y q
  rw[q]at e
  exact congrArg some e
 ·rename_i q
  rw[q]at e
  have a:es.toList.any (·.refKey)=false:=by
   rw[List.any_eq_false]
   intro y hy
   obtain⟨z,t,hkey⟩:=hk y (Array.mem_toList_iff.mp hy)
   simp[DictEntry.refKey,hkey]
  have a':¬es.toList.any (·.refKey)=true:=by rw[a];exact B5
  rw[if_neg a']
  exact congrArg some e
theorem Jh.look{h:Heap}{x dx C:Addr}{mA:Str→Option Value}(I:Jh h x dx C mA):∃od,PySem.W.InstAt h x (K7 C dx) C (some od)∧∀name,L5 name od=some (mA name):=
 let ⟨od,ho,hl⟩:=xK I.ns
 ⟨od,⟨I.obj,rfl,rfl,ho⟩,hl⟩
section
variable{prog:Program}{w:World}{A:Around}{E:Value→Shared→Prop}{s:Shared}{K:aA}{x dx C f:Addr}{mA:Str→Option Value}{name:Str}{v:Value}
end
section
variable{P:Program}{w:World}{H H':Hp}{h h':Heap}{a C dx:Addr}{fs fs':List (Str×V)}
theorem Dk(hok:jT P w H h)(e:H a=some (.ins C dx fs)):∃mA,Jh h a dx C mA∧(∀f,Ie (fs.lookup f) (mA f))∧P0 mA (fs.map (·.1))∧fs.length≤1000∧H dx=some (.own a):=by
 obtain⟨d,z,ne,ob,mA,n,r,q⟩:=(show bV P w H h a (.ins C dx fs)from hok a _ e)
 exact⟨mA,⟨ob,n,ne⟩,r,q,z,d⟩
end
structure Rh(K:aA)(C:Addr):Prop where
 pg:N5 K C Str.empty=true
 hd:PySem.W.hasDictIn K C=true
 po:PySem.W.plainOver K C=true
 sa:F1 K (.ref C) "__setattr__" = some (some (.builtin "object.__setattr__"))
theorem Rh.get{K:aA}{C:Addr}(c:Rh K C)(f:Str):N5 K C f=true:=c.pg
def Ji(K:aA)(C:Addr)(f:Str):Prop:=F1 K (.ref C) f=some none
structure Wr(K:aA)(C:Addr)(f:Str)(v:V)(u:Value):Prop where
 at_:F1 K (.ref C) f=some (some u)
 rel:RelV v u
 get:M9 K u "__get__" = some none
 cp:PySem.W.copiedNames.contains f=false
structure Meth(K:aA)(C:Addr)(m:Str)(f:Addr):Prop where
 at_:F1 K (.ref C) m=some (some (.ref f))
 fn:P2 K (.ref f)=true
 kp:E2 K (.ref f)=true
section
variable{X:Cx}{pins:List (Addr×Obj)}{σ:St}{H:Hp}{s:Shared}{a C dx:Addr}{fs:List (Str×V)}{f:Str}{v:V}{A:Around}{E:Value→Shared→Prop}
end
section
variable{X:Cx}{o e value:Expr}{f:Str}{pos pos' tpos:Pos}{ta tv:TE}
end
section
variable{X:Cx}{pins:List (Addr×Obj)}{σ:St}{H:Hp}{s:Shared}{A:Around}{E:Value→Shared→Prop}{Q:Value→Shared→Prop}{c:Value}{b:Bool}
inductive jU(K:aA)(H:Hp):V→Value→Prop where
 | non:jU K H .non (.type "NoneType")
 | bl (x:Bool):jU K H (.bl x) (.type "bool")
 | int (i:Int):jU K H (.int i) (.type "int")
 | str (x:Str):jU K H (.str x) (.type "str")
 | flt (x:UInt64):jU K H (.flt x) (.type "float")
 | lst {a:Addr} {xs:List V} (e:H a=some (.lst xs)):jU K H (.ref a) (.type "list")
 | jG {a:Addr} {o:Obj} {xs:List V} (e:H a=some (.jG o (.lst xs))):jU K H (.ref a) (.type "list")
 | tup {a:Addr} {xs:List V} (e:H a=some (.tup xs)):jU K H (.ref a) (.type "tuple")
 | dK {a:Addr} {kvs:List (Key×V)} (e:H a=some (.dK kvs)):jU K H (.ref a) (.type "dict")
 | dT {a:Addr} {kvs:List (List Key×V)} (e:H a=some (.dT kvs)):jU K H (.ref a) (.type "dict")
 | ins {a C dx:Addr} {fs:List (Str×V)} (e:H a=some (.ins C dx fs)) (cl:Rh K C) (ha:F1 K (.ref C) "__class__" = some (some (.builtin "object.__class__")))
   (hn:M9 K (.builtin "object.__class__") "__get__" = some (some (.builtin "getset_descriptor.__get__"))) (htk:PySem.W.takesIn K (.builtin "object.__class__")=some true)
   (hm:PySem.W.mroIn K C (.type "object")=some true):jU K H (.ref a) (.ref C)
theorem iR{x:V}{u t:Value}(I:Inv X pins σ H s)(rx:RelV x u)(ty:jU X.K H x t)(e:B7 X.K t c=some b)(h:∀tk,Q (.bool b) {s with toks:=tk}) :
  wpAny (model X.prog X.w) A (call (.builtin "isinstance") [u,c]) Q E s:=by
 cases ty with
 | non=>cases(show u=Value.none from rx);exact C4 PySem.W.kitx_none I.oZ True.intro e (λz=>nomatch z) h
 | bl y=>cases(show u=Value.bool y from rx);exact C4 PySem.W.kitx_bool I.oZ True.intro e (λz=>nomatch z) h
 | int i=>obtain⟨t,q⟩:=(show ∃t,u=Value.int i t from rx);cases q;exact C4 PySem.W.kitx_int I.oZ True.intro e (λz=>nomatch z) h
 | str y=>obtain⟨t,q⟩:=(show ∃t,u=Value.str y t from rx);cases q;exact C4 PySem.W.kitx_str I.oZ True.intro e (λz=>nomatch z) h
 | flt y=>obtain⟨t,q⟩:=(show ∃t,u=Value.float y t from rx);cases q;exact C4 PySem.W.kitx_float I.oZ True.intro e (λz=>nomatch z) h
 | @lst a xs ea=>
  cases(show u=Value.ref a from rx)
  obtain⟨_,_,n,_,h1⟩:=(show bV X.prog X.w H s.heap a (.lst xs)from I.hok a _ ea)
  exact C4 J4 I.oZ ⟨_,h1,rfl⟩ e (λz=>nomatch z) h
 | @jG a ob xs ea=>
  cases(show u=Value.ref a from rx)
  obtain⟨_,_,_,n,_,h1⟩:=(show bV X.prog X.w H s.heap a (.jG ob (.lst xs))from I.hok a _ ea)
  exact C4 J4 I.oZ ⟨_,h1,rfl⟩ e (λz=>nomatch z) h
 | @tup a xs ea=>
  cases(show u=Value.ref a from rx)
  obtain⟨_,_,_,p⟩:=(show bV X.prog X.w H s.heap a (.tup xs)from I.hok a _ ea)
  obtain⟨o,h1,h2,_⟩:=p
  exact C4 M7 I.oZ ⟨o,h1,h2⟩ e (λz=>nomatch z) h
 | @dK a kvs ea=>
  cases(show u=Value.ref a from rx)
  obtain⟨_,_,vs,_,p⟩:=(show bV X.prog X.w H s.heap a (.dK kvs)from I.hok a _ ea)
  obtain⟨o,es,ep,h1,h2,_⟩:=p
  exact C4 N0 I.oZ ⟨o,h1,h2.1⟩ e (λz=>nomatch z) h
 | @dT a kvs ea=>
  cases(show u=Value.ref a from rx)
  obtain⟨_,_,xs,_,o,es,ep,h1,h2,_⟩:=(show bV X.prog X.w H s.heap a (.dT kvs)from I.hok a _ ea)
  exact C4 N0 I.oZ ⟨o,h1,h2.1⟩ e (λz=>nomatch z) h
 | @ins a C dx fs ea cl ha hn htk hm=>
  cases(show u=Value.ref a from rx)
  obtain⟨mA,O,_⟩:=Dk I.hok ea
  obtain⟨od,J,_⟩:=O.look
  exact C4 (PySem.W.kitx_own (cl.get _) cl.hd ha hn htk hm) I.oZ J e (λz=>nomatch z) h
end
end L2
namespace L2
open PySem PySem.Spec PyProof.Rows
structure cT(k:Nat)(A:Around):Prop where
 hd:A.handled=none
 dp:A.depth+3*k+5<recursionLimit
 un:A.units+16*k+200<cLine
theorem cT.mono{j k:Nat}{A:Around}(r:cT k A)(h:j≤k):cT j A:=⟨r.hd,by have:=r.dp;omega,by have:=r.un;omega⟩
theorem cT.deeper{k:Nat}{A:Around}(r:cT (k+1) A)(env:Env):cT k (A.deeper env):=
 ⟨r.hd,by have:=r.dp;show A.depth+1+3*k+5<_;omega,by have:=r.un;show A.units+3+16*k+200<_;omega⟩
theorem cT.depth{k:Nat}{A:Around}(r:cT k A):A.depth<recursionLimit:=by have:=r.dp;omega
theorem cT.units{k:Nat}{A:Around}(r:cT k A):A.units+64<cLine:=by have:=r.un;omega
def jV:TA:=λ_ H Q=>Q [] H
def cZ(ta:TE)(tr:TA):TA:=λσ H Q=>ta σ H λx H1=>tr σ H1 λxs H2=>Q (x::xs) H2
section
variable{X:Cx}{e:Expr}{es:List Expr}{te:TE}{t:TA}{pos:Pos}
theorem iT:PA X [] jV:=λ_ _ _ _ H Q I h=>Calls.spliced_nil ⟨[],H,I,.nil,h⟩
theorem dB(ha:PE X e te)(hr:PA X es t)(hs:starEach (e::es) X.env=(false,eval e X.env)::starEach es X.env:=by rfl):PA X (e::es) (cZ te t):=by
 intro pos pins s σ H Q I h
 rw[hs]
 show wpAny _ _ (spliced ((false,eval e X.env)::backTo pos (starEach es X.env))) _ _ s
 refine Calls.spliced_cons (bY (ha pins s σ H _ I h) λu s1 ⟨x,H1,I1,r1,q1⟩=>?_)
 exact bY (hr pos pins s1 σ H1 _ I1 q1) λus s2 ⟨xs,H2,I2,r2,q2⟩=>⟨x::xs,H2,I2,.cons r1 r2,q2⟩
def Jj(t:TA):TE:=λσ H Q=>t σ H λxs H1=>xs.length≤sizeLine∧∀p,H1 p=none→Q (.ref p) (upd H1 p (.lst xs))
theorem Jk(h:PA X es t):PE X (.List es pos) (Jj t):=by
 intro pins s σ H Q I hq
 refine wpAny_List_spliced (bY (h pos pins s σ H _ I hq) λus s1 ⟨xs,H1,I1,r,z,q⟩=>⟨by rw[←r.length];exact z,?_⟩)
 have hf:H1 s1.heap.objs.size=none:=I1.hok.fresh (B4 _)
 refine⟨.ref s1.heap.objs.size,upd H1 s1.heap.objs.size (.lst xs),I1.laid (t':=s1.toks) (λb u e=>Heap.get?_push_of_some _ e) (B4 _) ?_,rfl,q _ hf⟩
 exact⟨z,us,0,r,Heap.get?_push_size _ rfl⟩
end
abbrev Sp:=List V→Hp→VK→XK→Prop
abbrev zL:=List Env→Hp→Shared→XK→Value→Shared→Prop
structure Dl(P:Program)(w:World)(K:aA)(mg:Str→Option Value)(base:Heap)(A:Around)(outer:List Env)(s:Shared)(H:Hp):Prop where
 frames:A.frames=some outer
 mod:Mod K mg base
 bs:∀b o,base.get? b=some o→s.heap.get? b=some o∧H b=none
 Gp:base.objs.size≤s.heap.objs.size
 kZ:s.heap.FunFrames base outer
 Nb:∀b∈frs outer,H b=none
 hok:jT P w H s.heap
 bare:AllBare s.gens
def CE(outer:List Env)(P:Program)(w:World)(H:Hp)(s:Shared)(Q:VK)(u:Value)(s':Shared):Prop:=
 ∃v H',s'.os=s.os∧AllBare s'.gens∧Un (frs outer) [] H H' s.heap s'.heap∧jT P w H' s'.heap∧RelV v u∧Q v H'
def CR(CX:zL)(outer:List Env)(P:Program)(w:World)(H:Hp)(s:Shared)(Q:VK)(E:XK)(r:Result)(s':Shared):Prop:=
 match r with
 | .ok (.ret u)=>CE outer P w H s Q u s'
 | .ok _=>False
 | .error e=>CX outer H s E e s'
structure lC(P:Program)(w:World)(K:aA)(mg:Str→Option Value)(base:Heap)(CX:zL)(k:Nat)(f:Addr)(fd:FuncData)(ps:List Str)(sp:Sp):Prop where
 len:∀vs H Q E,sp vs H Q E→vs.length=ps.length
 run:∀(A:Around)(outer:List Env)(s:Shared)(H:Hp)(args:Args)(us:List Value)(vs:List V)(Q:VK)(E:XK),cT k A→Dl P w K mg base A outer s H→BindsTo s fd args (ps.zip us)→Vals vs us→sp vs H Q E →
  codeAny (model P w) A (.call (.ref f) args) (CR CX outer P w H s Q E) s
section
variable{X:Cx}{pins:List (Addr×Obj)}{σ:St}{H:Hp}{s s':Shared}
theorem Inv.env0(I:Inv X pins σ H s):Dl X.prog X.w X.K X.mg X.base X.A X.stack s H:=
 ⟨I.ok.frames,I.ok.mod,I.bs,D7 I.ok.Gp I.sz,I.stack,I.vC,I.hok,I.bare⟩
theorem Inv.after{Q:VK}{u:Value}(I:Inv X pins σ H s)(h:CE X.stack X.prog X.w H s Q u s'):EP X pins σ Q u s':=by
 obtain⟨v,H',os,bare,un,hok,r,q⟩:=h
 obtain⟨hh,g,d,t,os'⟩:=s'
 obtain rfl:os'=s.os:=os
 exact⟨v,H',I.call (h':=hh) (g':=g) (d':=d) (t':=t) (ch:=[]) un hok bare (λb z=>absurd z (by simp)),r,q⟩
end
def rG(sp:Sp)(Gw:List V)(E:XK)(t:TA):TE:=λσ H Q=>t σ H λvs H1=>sp (vs++Gw) H1 Q E
def Binds(K:aA)(fd:FuncData)(ps:List Str)(ds:List Value):Prop:=
 ∀(s:Shared)(us:List Value),K.In s.heap→(us++ds).length=ps.length→BindsTo s fd ⟨us,[]⟩ (ps.zip (us++ds))
theorem Binds.all{K:aA}{fd:FuncData}{ps:List Str}(h:∀us:List Value,us.length=ps.length→bindArgs fd ⟨us,[]⟩=pure (ps.zip us)):Binds K fd ps []:=λs us _ hl=>by
 rw[K8]at hl ⊢
 exact .of_eq (h us hl)
def Passes(CX:zL)(X:Cx)(E:XK):Prop:=∀(pins:List (Addr×Obj))(σ:St)(H:Hp)(s:Shared)(e:Value)(s':Shared),Inv X pins σ H s→CX X.stack H s E e s'→X.xe e s'
section
variable{X:Cx}{CX:zL}{k:Nat}{f C:Addr}{fd:FuncData}{ps:List Str}{sp:Sp}{Gw:List V}{ds:List Value}{E:XK}{x m:Str}{p pos apos:Pos}{e o:Expr}{es:List Expr}{ta:TE}{t:TA}
theorem Jl{pins:List (Addr×Obj)}{σ:St}{H:Hp}{s:Shared}{Q:VK}{us:List Value}{vs:List V}(F:lC X.prog X.w X.K X.mg X.base CX k f fd ps sp)(hr:cT k X.A)(hb:Binds X.K fd ps ds)(hd:Vals Gw ds)(hx:Passes CX X E)
  (I:Inv X pins σ H s) (r:Vals vs us) (h:sp (vs++Gw) H Q E):wpAny (model X.prog X.w) X.A (call (.ref f) us) (EP X pins σ Q) X.xe s:=by
 have r2:Vals (vs++Gw) (us++ds):=r.append hd
 have hl:(us++ds).length=ps.length:=by rw[←r2.length];exact F.len _ _ _ _ h
 refine wpAny_call (codeAny_mono (F.run X.A X.stack s H ⟨us,[]⟩ (us++ds) (vs++Gw) Q E hr I.env0 (hb s us I.oZ hl) r2 h) λr s' hq=>?_)
 cases r with
 | error e=>exact hx pins σ H s e s' I hq
 | ok fl=>
  cases fl with
  | ret u=>exact I.after hq
  | next=>exact False.elim hq
  | brk=>exact False.elim hq
  | cont=>exact False.elim hq
theorem Dm(F:lC X.prog X.w X.K X.mg X.base CX k f fd ps sp)(hr:cT k X.A)(hg:Gl X x)(hm:X.mg x=some (.ref f))(hk:E2 X.K (.ref f)=true)(hb:Binds X.K fd ps ds)(hd:Vals Gw ds)(hx:Passes CX X E)
  (ha:PA X (e::es) t) (hdb:(x==("__debug__" : Str))=false:=by decide) (he:starEach (e::es) X.env=(false,eval e X.env)::starEach es X.env:=by rfl) (hpl:(backTo pos (starEach es X.env)).any (·.1)=false:=by rfl) :
  PE X (.Call (.Name x p) (e::es) [] pos) (rG sp Gw E t):=by
 intro pins s σ H Q I h
 refine wpAny_Call_Name_kw (vG I hg hm ?_ hdb)
 refine PySem.W.callWith_K (h₀:=X.base) I.ok.mod.Rq hk (bY (ha pos pins s σ H _ I h) λus s1 ⟨vs,H1,I1,r,q⟩=>⟨I1.oZ,?_⟩) he hpl
 exact Jl F hr hb hd hx I1 r q
structure Mk(K:aA)(C f:Addr):Prop where
 makes:PySem.W.makesIn K C=true
 init:F1 K (.ref C) "__init__" = some (some (.ref f))
 fn:P2 K (.ref f)=true
 kp:E2 K (.ref C)=true
end
section
variable{X:Cx}{CX:zL}{k:Nat}{f C:Addr}{fd:FuncData}{ps ks:List Str}{sp:Sp}{E:XK}{x m:Str}{p pos apos kpos:Pos}{e o:Expr}{es:List Expr}{kws:List Keyword}{te ta:TE}{t tk:TA}{nm:Option Str}
structure Sq(K:aA)(fd:FuncData)(ps ks:List Str)(g:List Value→List Value→List Value)(gV:List V→List V→List V):Prop where
 to:∀(s:Shared)(us ws:List Value),K.In s.heap→(g us ws).length=ps.length→BindsTo s fd ⟨us,ks.zip ws⟩ (ps.zip (g us ws))
 rel:∀{vs:List V} {us:List Value} {zs:List V} {ws:List Value},Vals vs us→Vals zs ws→Vals (gV vs zs) (g us ws)
variable{g:List Value→List Value→List Value}{gV:List V→List V→List V}
end
structure bI(N P:List Str)(sc:Scope):Prop where
 kind:sc.kind=.function
 co:sc.isCoroutine=false
 gen:sc.isGenerator=false
 nd:N.Nodup
 pre:N.take P.length=P
 par:∀x∈P,sc.names.lookup x=some .local∨sc.names.lookup x=some .cell
 Jm:∀y∈sc.names,y.2≠.free
theorem nO{kindOf:Str→Option NameKind}{x:Str}:∀{binds:List (Str×Value)} {m:Str→Option Value},(∀v,(x,v)∉binds)→bindL kindOf binds m x=m x
 | [],_,_=>rfl
 | (n,v)::r,m,h=>by
  unfold bindL
  rw[nO λw hw=>h w (C8 _ hw)]
  split
  ·have:x≠n:=by rintro rfl;exact h v E1
   simp[this]
  ·rfl
theorem nP{kindOf:Str→Option NameKind}{x:Str}:∀{binds:List (Str×Value)} {m:Str→Option Value},(∀v,(x,v)∉binds)→bindC kindOf binds m x=m x
 | [],_,_=>rfl
 | (n,v)::r,m,h=>by
  unfold bindC
  rw[nP λw hw=>h w (C8 _ hw)]
  split
  ·rfl
  ·have:x≠n:=by rintro rfl;exact h v E1
   simp[this]
theorem nQ{kindOf:Str→Option NameKind}{x:Str}{v:Value}:∀{P:List Str} {vs:List Value} {i:Nat} {m:Str→Option Value},P.Nodup→P[i]?=some x→vs[i]?=some v→kindOf x=some .local →
  bindL kindOf (P.zip vs) m x=some v
 | [],_,_,_,_,h,_,_=>by simp at h
 | _::_,[],_,_,_,_,h,_=>by simp at h
 | p::P,w::vs,0,m,nd,h1,h2,hk=>by
  simp at h1 h2;subst h1;subst h2
  show bindL kindOf ((p,w)::P.zip vs) m p=_
  unfold bindL
  rw[nO λv hv=>(G6.mp nd).1 (K9 hv).1,if_pos hk]
  simp
 | p::P,w::vs,i+1,m,nd,h1,h2,hk=>by
  show bindL kindOf ((p,w)::P.zip vs) m x=_
  unfold bindL
  exact nQ (i:=i) (G6.mp nd).2 (by simpa using h1) (by simpa using h2) hk
theorem nR{kindOf:Str→Option NameKind}{x:Str}{v:Value}:∀{P:List Str} {vs:List Value} {i:Nat} {m:Str→Option Value},P.Nodup→P[i]?=some x→vs[i]?=some v→kindOf x≠some .local →
  bindC kindOf (P.zip vs) m x=some v
 | [],_,_,_,_,h,_,_=>by simp at h
 | _::_,[],_,_,_,_,h,_=>by simp at h
 | p::P,w::vs,0,m,nd,h1,h2,hk=>by
  simp at h1 h2;subst h1;subst h2
  show bindC kindOf ((p,w)::P.zip vs) m p=_
  unfold bindC
  rw[nP λv hv=>(G6.mp nd).1 (K9 hv).1,if_neg hk]
  simp
 | p::P,w::vs,i+1,m,nd,h1,h2,hk=>by
  show bindC kindOf ((p,w)::P.zip vs) m x=_
  unfold bindC
  exact nR (i:=i) (G6.mp nd).2 (by simpa using h1) (by simpa using h2) hk
def start(N:List Str)(vs:List V):St:=vs.map some++C6 (N.length-vs.length) none
def pH(CX:zL)(P:Program)(w:World)(K:aA)(mg:Str→Option Value)(base:Heap)(N:List Str)(qual:Str)(scope:Scope)(f:Addr)(cd:Value)(A:Around)(outer:List Env)(s:Shared)(H:Hp)(E:XK):Cx where
 prog:=P
 w:=w
 K:=K
 mg:=mg
 base:=base
 A:=A.deeper (envOfC qual scope s.heap.objs.size f cd)
 N:=N
 s₀:=s
 H₀:=H
 env:=envOfC qual scope s.heap.objs.size f cd
 outer:=outer
 stack:=envOfC qual scope s.heap.objs.size f cd::outer
 ex:=[]
 calm:=true
 fn:=λ_=>true
 pn:=[]
 xe:=λe s'=>wpAny (model P w) (A.deeper (envOfC qual scope s.heap.objs.size f cd)) (leaving (envOfC qual scope s.heap.objs.size f cd) e) (λ_ s''=>CX outer H s E e s'') (λe' s''=>CX outer H s E e' s'') s'
theorem rH{sc:Scope}{n:Nat}{x:Str}(h:sc.names.lookup x=some .cell):∃c,(cellsFrom n sc.names []).lookup x=some c:=by
 have q:=L4 sc.names n [] (.inl h)
 exact Option.isSome_iff_exists.mp q
theorem xM{CX:zL}{P:Program}{w:World}{K:aA}{mg:Str→Option Value}{base:Heap}{N ps:List Str}{qual:Str}{scope:Scope}{f:Addr}{cd:Value}{A:Around}{outer:List Env}{s s1:Shared}{H:Hp}{E:XK}{us:List Value}{vs:List V}
  (S:bI N ps scope) (hd:A.handled=none) (e0:Dl P w K mg base A outer s H) (hl:vs.length=ps.length) (r:Vals vs us)
  (x:InCallC s s.heap.objs.size (bindL (envOfC qual scope s.heap.objs.size f cd).kindOf (ps.zip us) λ_=>none) (cellsFrom (s.heap.objs.size+1) scope.names []) (bindC (envOfC qual scope s.heap.objs.size f cd).kindOf (ps.zip us) λ_=>none) s1) :
  Inv (pH CX P w K mg base N qual scope f cd A outer s H E) [] (start N vs) H s1:=by
 have hpl:ps.length≤N.length:=by have:=congrArg List.length S.pre;rw[List.length_take]at this;omega
 obtain⟨h1,tk,rfl,hk⟩:=x.done
 have Oi:∀b:Addr,b∉(pH CX P w K mg base N qual scope f cd A outer s H E).ex:=λb z=>absurd (show b∈([]:List Addr)from z) (by simp)
 refine⟨⟨e0.mod,S.kind,rfl,rfl,B4 _,λy z c h1 h2=>?_,λy hy=>?_,λy c _ h=>?_,λ_=>hd,Around.frames_deeper e0.frames,.inr ⟨rfl,rfl⟩,λb z=>absurd z (Oi b),e0.bs,e0.Gp,λb _ _=>Oi b,λb z=>absurd z (Oi b),e0.kZ,e0.Nb⟩,
  rfl,e0.bare,Un.kept hk,⟨_,x.toInCall.ns,λi y v h1 h2 h3=>?_⟩,λy c h=>⟨_,x.cell y c h⟩,e0.hok.fresh (B4 _),λy c h=>?_,λp hp=>absurd (show p∈([]:List (Addr×Obj))from hp) (by simp),e0.hok.kept hk,?_⟩
 ·exact name_of_addr x.apart (D6 h1) (D6 h2)
 ·have hy:scope.names.lookup y=some .cell∨scope.names.lookup y=some .free:=hy
  rcases hy with hy | hy
  ·exact rH hy
  ·exact absurd rfl (S.Jm _ (D6 hy))
 ·exact M5 (x.above y c (D6 h))
 ·have hi:i<vs.length:=by
   unfold start at h2
   by_cases hi:i<vs.length
   ·exact hi
   ·rw[J1 (by simpa using hi)]at h2
    rw[K5]at h2
    split at h2<;>cases h2
  have ha:vs[i]?=some v:=by
   unfold start at h2
   rw[J6 (by simpa using hi),B9]at h2
   cases e:vs[i]? with
   | none=>rw[e]at h2;cases h2
   | some a=>rw[e]at h2;cases h2;rfl
  obtain⟨u,hu,rv⟩:=r.get ha
  have hp:ps[i]?=some y:=by
   rw[←S.pre,List.getElem?_take_of_lt (by omega)];exact h1
  have Um:ps.Nodup:=by rw[←S.pre];exact S.nd.sublist (List.take_sublist _ _)
  refine⟨u,rv,?_⟩
  rcases S.par y (G7 hp)with k | k
  ·exact .inl ⟨k,nQ Um hp hu k⟩
  ·obtain⟨c,e⟩:=rH (n:=s.heap.objs.size+1) k
   refine .inr ⟨.inl k,c,e,?_⟩
   have q:=x.cell y c e
   rw[nR Um hp hu (by show scope.names.lookup y≠_;rw[k];decide)]at q
   exact q
 ·exact e0.hok.fresh (M5 (x.above y c (D6 h)))
 ·unfold start
  show _=N.length
  rw[E4,D5,L6]
  omega
theorem Oj{CX:zL}{P:Program}{w:World}{K:aA}{mg:Str→Option Value}{base:Heap}{k:Nat}{f:Addr}{name qual:Str}{params:Arguments}{body:List Stmt}{scope:Scope}{dV kV doc pm cdv ct oc:Value}{an od:Option Addr}
  {osl:Array (Option Value)} {N ps:List Str} {sp:Sp} (lk:K.lookup f=some ⟨oc,od,.func (C9 name qual params body scope dV kV doc pm an cdv ct),osl⟩) (hcd:F2 K cdv qual=true) (S:bI N ps scope)
  (len:∀vs H Q E,sp vs H Q E→vs.length=ps.length)
  (hbody:∀(A:Around)(outer:List Env)(s:Shared)(H:Hp)(vs:List V)(Q:VK)(E:XK),cT k (A.deeper (envOfC qual scope s.heap.objs.size f cdv))→sp vs H Q E →
   ∃t,tM (pH CX P w K mg base N qual scope f cdv A outer s H E) body t∧t {nx:=λ_ H'=>Q .non H',rt:=Q} (start N vs) H) :
  lC P w K mg base CX (k+1) f (C9 name qual params body scope dV kV doc pm an cdv ct) ps sp:=by
 refine⟨len,λA outer s H args us vs Q E hr e0 hb r hsp=>?_⟩
 have hl:=len _ _ _ _ hsp
 have KX:K.In s.heap:=e0.mod.Rq.keeps λb o e=>(e0.bs b o e).1
 have lim:s.heap.NoLimit:=e0.mod.nolimit.keeps λb o e=>(e0.bs b o e).1
 have hkind:∀y∈ps.zip us,scope.names.lookup y.1=some .local∨(scope.names.lookup y.1=some .cell∧((cellsFrom (s.heap.objs.size+1) scope.names []).lookup y.1).isSome=true):=λ⟨n,v⟩ hy=>by
  rcases S.par n (K9 hy).1 with q | q
  ·exact .inl q
  ·exact .inr ⟨q,L4 _ _ _ (.inl q)⟩
 refine codeAny_call_function hr.depth (KX _ _ lk) rfl S.co S.gen rfl (PySem.W.codeRec_of KX hcd) (hb _ _ _ _ ?_)
 refine wpAny_newFunctionEnv_cells S.kind hkind λenv he s1 x=>?_
 subst he
 refine⟨lim.keeps x.toInCall.keep,codeAny_func ?_⟩
 obtain⟨t,ht,hq⟩:=hbody A outer s H vs Q E (hr.deeper _) hsp
 have I:Inv (pH CX P w K mg base N qual scope f cdv A outer s H E) [] (start N vs) H s1:=xM S hr.hd e0 hl r x
 refine wpAny_mono (ht [] s1 (start N vs) H _ I hq) (λfl s' hs=>?_) λe s' hs=>hs
 have fin:∀{σ':St} {H':Hp} {v:V} {u:Value},Inv (pH CX P w K mg base N qual scope f cdv A outer s H E) [] σ' H' s'→RelV v u→Q v H'→CE outer P w H s Q u s':=
  λ{σ' H' v u} J rv q=>⟨v,H',J.os,J.bare,J.base,J.hok,rv,q⟩
 cases fl with
 | ret u=>
  obtain⟨v,σ',H',J,rv,q⟩:=hs
  exact fin J rv q
 | next=>
  obtain⟨σ',H',J,q⟩:=hs
  exact fin (v:=V.non) (u:=Value.none) J rfl q
 | brk=>
  obtain⟨_,_,_,q⟩:=hs
  exact False.elim q
 | cont=>
  obtain⟨_,_,_,q⟩:=hs
  exact False.elim q
end L2
namespace L2
open PySem PySem.Spec PyProof.Rows
section
variable{X:Cx}{x:Str}{p pos:Pos}{e:Expr}{es:List Expr}{t:TA}{id T:String}{r:List V→Hp→VK→Prop}
def Jo(r:List V→Hp→VK→Prop)(t:TA):TE:=λσ H Q=>t σ H λvs H1=>r vs H1 Q
theorem lD(hc:cN X (.builtin id) r)(hg:Gl X x)(hm:X.mg x=none)(hv:bootBuiltins x=some (.builtin id))(ha:PA X (e::es) t)(hn:x ≠ "__name__" := by decide) (hdb:(x==("__debug__" : Str))=false:=by decide)
  (he:starEach (e::es) X.env=(false,eval e X.env)::starEach es X.env:=by rfl) (hpl:(backTo pos (starEach es X.env)).any (·.1)=false:=by rfl):PE X (.Call (.Name x p) (e::es) [] pos) (Jo r t):=by
 intro pins s σ H Q I h
 refine wpAny_Call_Name_kw (pC I hg hm hv ?_ hn hdb)
 exact PyProof.Rows.callWith_builtin1 (bY (ha pos pins s σ H _ I h) λus s1 ⟨vs,H1,I1,r1,q1⟩=>hc pins s1 σ H1 vs us Q I1 r1 q1) he hpl
theorem xN(hc:cN X (.type T) r)(hg:Gl X x)(hm:X.mg x=none)(hv:bootBuiltins x=some (.type T))(ha:PA X (e::es) t)(hn:x ≠ "__name__" := by decide) (hdb:(x==("__debug__" : Str))=false:=by decide)
  (he:starEach (e::es) X.env=(false,eval e X.env)::starEach es X.env:=by rfl) (hpl:(backTo pos (starEach es X.env)).any (·.1)=false:=by rfl):PE X (.Call (.Name x p) (e::es) [] pos) (Jo r t):=by
 intro pins s σ H Q I h
 refine wpAny_Call_Name_kw (pC I hg hm hv ?_ hn hdb)
 exact I0 (bY (ha pos pins s σ H _ I h) λus s1 ⟨vs,H1,I1,r1,q1⟩=>hc pins s1 σ H1 vs us Q I1 r1 q1) he hpl
end
end L2
namespace HT
open PySem PyProof.Rows
section
open PySem.SeqAt
open PySem.AutoSeq1 (wpAny_loadPart')
open PySem.MeetsSeq PySem.MeetsSeq2 PySem.MeetsSeq3
end
section
variable{prog:Program}{w:World}{A:Around}{E:Value→Shared→Prop}{s:Shared}
end
end HT
namespace L2
open PySem PySem.Spec PyProof.Rows
abbrev TO:=St→Hp→(Option Int→Hp→Prop)→Prop
def PO(X:Cx)(e:Option Expr)(t:TO):Prop:=
 ∀(pins:List (Addr×Obj))(s:Shared)(σ:St)(H:Hp)(Q:Option Int→Hp→Prop),Inv X pins σ H s→t σ H Q →
  wpAny (model X.prog X.w) X.A (evalPart e X.env) (λu s'=>∃o H',Inv X pins σ H' s'∧IsPart u o∧Q o H') X.xe s
def vM:TO:=λ_ H Q=>Q none H
def Gx(t:TE):TO:=λσ H Q=>t σ H λx H1=>∃i,x=.int i∧Q (some i) H1
section
variable{X:Cx}{e:Expr}{te:TE}{lo hi:Option Expr}{tl th:TO}{pos p2:Pos}
theorem Dn:PO X none vM:=by
 intro pins s σ H Q I h
 rw[evalPart_none]
 exact wpAny_pure ⟨none,H,I,.none,h⟩
theorem Dp(h:PE X e te):PO X (some e) (Gx te):=by
 intro pins s σ H Q I hw
 rw[evalPart_some]
 refine bY (h pins s σ H _ I hw) λu s1 ⟨x,H1,I1,r1,q1⟩=>?_
 obtain⟨i,rfl,q⟩:=q1
 obtain⟨t,rfl⟩:=r1
 exact⟨some i,H1,I1,.int i t,q⟩
def Uo(X:Cx)(r:V→Option Int→Option Int→Hp→VK→Prop):Prop:=
 ∀(pins:List (Addr×Obj))(s:Shared)(σ:St)(H:Hp)(x:V)(v vl vu:Value)(lo hi:Option Int)(sl:Addr)(Q:VK),Inv X pins σ H s→RelV x v→s.heap.IsSliceOf sl vl vu .none→IsPart vl lo→IsPart vu hi→r x lo hi H Q →
  ∃T id,typeLookup (.type T) "__getitem__" = pure (some (.builtin id))∧s.TypeIs v T∧wpAny (model X.prog X.w) X.A (getItem v (.ref sl)) (EP X pins σ Q) X.xe s
def Up(r:V→Option Int→Option Int→Hp→VK→Prop)(te:TE)(tl th:TO):TE:=λσ H Q=>te σ H λx H1=>tl σ H1 λl H2=>th σ H2 λu H3=>r x l u H3 Q
theorem zM{r:V→Option Int→Option Int→Hp→VK→Prop}(hr:Uo X r)(he:PE X e te)(hl:PO X lo tl)(hu:PO X hi th):PE X (.Subscript e (.Slice lo hi none p2) pos) (Up r te tl th):=by
 intro pins s σ H Q I h
 refine Subscript_ (bY (he pins s σ H _ I h) λv s1 ⟨x,H1,I1,r1,q1⟩=>?_)
 refine wpAny_Slice (bY (hl pins s1 σ H1 _ I1 q1) λvl s2 ⟨l,H2,I2,pl,q2⟩=>bY (hu pins s2 σ H2 _ I2 q2) λvu s3 ⟨u,H3,I3,pu,q3⟩=>?_)
 rw[evalPart_none]
 refine wpAny_pure ?_
 have I4:Inv X pins σ H3 {s3 with heap:=s3.heap.push {cls:=.type "slice", data:=.fields #[vl,vu,.none]}}:=I3.kept (t':=s3.toks) λb ob q=>Heap.get?_push_of_some _ q
 obtain⟨T,id,hT,ht,hg⟩:=hr pins {s3 with heap:=s3.heap.push {cls:=.type "slice", data:=.fields #[vl,vu,.none]}} σ H3 x v vl vu l u s3.heap.objs.size Q I4 r1 (Heap.IsSliceOf.new ..) pl pu q3
 show wpAny (model X.prog X.w) X.A (subscriptTail e (.Slice lo hi none p2) v (.ref s3.heap.objs.size)) (EP X pins σ Q) X.xe {s3 with heap:=s3.heap.push {cls:=.type "slice", data:=.fields #[vl,vu,.none]}}
 exact tail_any (ops:=[.ref s3.heap.objs.size,v]) ht hT hg (by with_unfolding_all rfl)
end
end L2
namespace L2
open PySem PySem.Spec PyProof.Rows
def Ol(n:Nat)(i:Int):Option Nat:=if 0≤i then(if i<n then some i.toNat else none)else if -(n:Int)≤i then some (i+n).toNat else none
def yO{α:Type}(xs:List α)(i:Int):Option α:=(Ol xs.length i).bind λj=>xs[j]?
theorem Dq{n:Nat}{i:Int}{j:Nat}(h:Ol n i=some j):seqIndex? i n=some j∧j<n∧-(n:Int)≤i∧i<n:=by
 unfold Ol at h
 by_cases h0:0≤i
 ·rw[if_pos h0]at h
  by_cases h1:i<n
  ·rw[if_pos h1]at h
   have e:i.toNat=j:=C3 h
   exact⟨by rw[seqIndex_of h0 h1,e],by omega,by omega,h1⟩
  ·rw[if_neg h1]at h;cases h
 ·rw[if_neg h0]at h
  by_cases h1:-(n:Int)≤i
  ·rw[if_pos h1]at h
   have e:(i+n).toNat=j:=C3 h
   exact⟨by rw[seqIndex_neg (by omega) h1,e],by omega,h1,by omega⟩
  ·rw[if_neg h1]at h;cases h
theorem pI{α:Type}{xs:List α}{i:Int}{v:α}(h:yO xs i=some v):∃j,seqIndex? i xs.length=some j∧xs[j]?=some v∧j<xs.length∧-(xs.length:Int)≤i∧i<xs.length:=by
 unfold yO at h
 cases e:Ol xs.length i with
 | none=>rw[e]at h;cases h
 | some j=>
  rw[e]at h
  obtain⟨h1,h2,h3,h4⟩:=Dq e
  exact⟨j,h1,h,h2,h3,h4⟩
def pJ(b:Expr):Prop:=∀o i,subscripted b false o i=operate [o,i] (getItem o i)
def Cp(X:Cx)(r:R2):Prop:=
 ∀(value slice:Expr)(pins:List (Addr×Obj))(s:Shared)(σ:St)(H:Hp)(x y:V)(v u:Value)(Q:VK),Inv X pins σ H s→RelV x v→RelV y u→r x y H Q →
  subscripted slice false v u=operate [v,u] (getItem v u)→wpAny (model X.prog X.w) X.A (subscriptTail value slice v u) (EP X pins σ Q) X.xe s
def Uq(X:Cx)(id:String)(r:V→List V→Hp→VK→Prop):Prop:=
 ∀(pins:List (Addr×Obj))(s:Shared)(σ:St)(H:Hp)(x:V)(xs:List V)(v:Value)(us:List Value)(Q:VK),Inv X pins σ H s→RelV x v→Vals xs us→r x xs H Q →
  wpAny (model X.prog X.w) X.A (call (.builtin id) (v::us)) (EP X pins σ Q) X.xe s
section
variable{X:Cx}{a b:Expr}{ta tb:TE}{pos:Pos}
theorem Cp.or{r r':R2}(h:Cp X r)(h':Cp X r'):Cp X (λx y H Q=>r x y H Q∨r' x y H Q):=by
 intro value slice pins s σ H x y v u Q I rx ry q hs
 rcases q with q | q
 ·exact h value slice pins s σ H x y v u Q I rx ry q hs
 ·exact h' value slice pins s σ H x y v u Q I rx ry q hs
theorem Gy{r:R2}(hr:Cp X r)(ha:PE X a ta)(hb:PE X b tb)(hs:pJ b):PE X (.Subscript a b pos) (pF r ta tb):=by
 intro pins s σ H Q I h
 exact Subscript_ (Iz ha hb I h λv u s2 x y H2 I2 rx ry q=>hr a b pins s2 σ H2 x y v u Q I2 rx ry q (hs _ _))
def Om(K:aA):R2:=λx y H Q=>∃p xs i v,x=.ref p∧y=.int i∧fW K H p xs∧yO xs i=some v∧Q v H
def Oo(K:aA):R2:=λx y H Q=>∃p xs i v,x=.ref p∧y=.int i∧jH K H p xs∧yO xs i=some v∧Q v H
def Jp:R2:=λx y H Q=>∃z i c,x=.str z∧y=.int i∧z.length≤sizeLine∧yO z.cps.toList i=some c∧Q (.str ⟨#[c]⟩) H
theorem Dr:Cp X (Om X.K):=by
 intro value slice pins s σ H x y v u Q I rx ry h hs
 obtain⟨p,xs,i,z,rfl,rfl,hq,he,q⟩:=h
 cases rx
 obtain⟨t,rfl⟩:=ry
 obtain⟨its,r,pl,hz⟩:=I.list hq
 obtain⟨j,h1,h2,h3,h4,h5⟩:=pI he
 obtain⟨w,ew,Oq⟩:=r.get h2
 have hl:=r.length
 have hn:=lB
 have fin:EP X pins σ Q w s:=⟨z,H,I,Oq,q⟩
 by_cases h0:0≤i
 ·have hj:i.toNat=j:=by
   rw[seqIndex_of h0 h5]at h1
   exact C3 h1
  exact item_listR pl.isList h0 (by omega) (by rw[hj];simpa using ew) fin hs
 ·have hj:(i+(its.toArray.size:Int)).toNat=j:=by
   rw[seqIndex_neg (by omega) h4]at h1
   rw[A9,←hl]
   exact C3 h1
  exact subscriptTail_builtinR (x:=w) pl.isList.typeIs slot_list_getitem.lookup
   (wpAny_getItem_list_neg (Q:=λr s'=>r=w∧EP X pins σ Q r s') pl.isList (by omega) (by rw[A9]<;>omega) (by omega) (by rw[hj];simpa using ew) ⟨rfl,fin⟩) hs
theorem Jq:Cp X (Oo X.K):=by
 intro value slice pins s σ H x y v u Q I rx ry h hs
 obtain⟨p,xs,i,z,rfl,rfl,hq,he,q⟩:=h
 cases rx
 obtain⟨t,rfl⟩:=ry
 obtain⟨its,r,pl,hz⟩:=I.tuple hq
 obtain⟨j,h1,h2,h3,h4,h5⟩:=pI he
 obtain⟨w,ew,Oq⟩:=r.get h2
 have hl:=r.length
 have hn:=lB
 have fin:EP X pins σ Q w s:=⟨z,H,I,Oq,q⟩
 exact subscriptTail_builtinR (x:=w) pl.typeIs slot_tuple_getitem.lookup
  (getItem_tuple (j:=j) (Q:=λr s'=>r=w∧EP X pins σ Q r s') pl (by omega) (by omega) (by rw[A9,←hl];exact h1) (by simpa using ew) ⟨rfl,fin⟩) hs
theorem zN:Cp X Jp:=by
 intro value slice pins s σ H x y v u Q I rx ry h hs
 obtain⟨z,i,c,rfl,rfl,hz,he,q⟩:=h
 obtain⟨t,rfl⟩:=rx
 obtain⟨t',rfl⟩:=ry
 obtain⟨j,h1,h2,h3,h4,h5⟩:=pI he
 have hl:z.cps.toList.length=z.length:=by simp[Str.length]
 rw[hl]at h1 h4 h5
 have hn:=lB
 exact tail_any (typeIs_str s z t) slot_str_getitem.lookup (getItem_str (c:=c) (by
  have e1:decide (i < -(2 ^ 63:Int))=false:=decide_eq_false (by omega)
  have e2:decide (i≥2 ^ 63)=false:=decide_eq_false (by omega)
  rw[e1,e2,Bool.or_false]) (by rw[h1];simpa using h2) ⟨.str ⟨#[c]⟩,H,I.tok _,⟨_,rfl⟩,q⟩) hs
def Ss(K:aA):R2:=λx y H Q=>Om K x y H Q∨Oo K x y H Q∨Jp x y H Q
theorem Jr:Cp X (Ss X.K):=Dr.or (Jq.or zN)
theorem pK:cN X (.builtin "len") (λxs H Q=>∃p ys,xs=[.ref p]∧(fW X.K H p ys∨jH X.K H p ys)∧Q (.int ys.length) H):=by
 intro pins s σ H xs us Q I r h
 obtain⟨p,ys,rfl,hq,q⟩:=h
 obtain⟨u,rfl,rx⟩:=vals1 r
 cases rx
 have hn:=lB
 rcases hq with hq | hq
 ·obtain⟨its,r',pl,hz⟩:=I.list hq
  have hlen:=r'.length
  exact Calls.call_len_list pl.isList (by simp only[A9]<;>omega) ⟨.int ys.length,H,I.tok _,⟨s.toks+1,by rw[A9,hlen]⟩,q⟩
 ·obtain⟨its,r',pl,hz⟩:=I.tuple hq
  have hlen:=r'.length
  exact len_tuple pl (by simp only[A9]<;>omega) ⟨.int ys.length,H,I.tok _,⟨s.toks+1,by rw[A9,hlen]⟩,q⟩
theorem pL:cN X (.builtin "len") (λxs H Q=>∃z,xs=[.str z]∧z.length≤sizeLine∧Q (.int z.length) H):=by
 intro pins s σ H xs us Q I r h
 obtain⟨z,rfl,hz,q⟩:=h
 obtain⟨u,rfl,t,rfl⟩:=vals1 r
 have hn:=lB
 exact len_str (by omega) ⟨.int z.length,H,I.tok _,⟨_,rfl⟩,q⟩
def Ur(K:aA)(T:String)(x:V)(H:Hp):Prop:=match x with
 | .str _=>T = "str"
 | .int _=>T = "int"
 | .ref p=>(T = "list" ∧ ∃xs,fW K H p xs)∨(T = "tuple" ∧ ∃o,K.lookup p=some o∧o.cls=.type "tuple" ∧ o.dict=none) ∨
   (T = "dict" ∧ ((∃kvs,H p=some (.dK kvs))∨∃kvs,H p=some (.dT kvs)))∨(T = "set" ∧ ∃S n,H p=some (.set S n))
 | _=>False
theorem Js{pins:List (Addr×Obj)}{σ:St}{H:Hp}{s:Shared}{T:String}{x:V}{v:Value}(I:Inv X pins σ H s)(r:RelV x v)(ty:Ur X.K T x H) :
  s.TypeIs v T∧∀a,v=.ref a→∃ob,s.heap.get? a=some ob∧ob.dict=none:=by
 cases x with
 | str z=>
  obtain⟨t,rfl⟩:=r
  cases(show T = "str" from ty)
  exact⟨typeIs_str s z t,λ_ e=>nomatch e⟩
 | int i=>
  obtain⟨t,rfl⟩:=r
  cases(show T = "int" from ty)
  exact⟨typeIs_int s i t,λ_ e=>nomatch e⟩
 | ref p=>
  cases r
  rcases ty with ⟨rfl,xs,hq⟩ | ⟨rfl,o,hk,hc,hd⟩ | ⟨rfl,hk⟩ | ⟨rfl,S,n,hk⟩
  ·obtain⟨its,_,pl,_⟩:=I.list hq
   refine⟨pl.isList.typeIs,λa e=>?_⟩
   cases e
   obtain⟨o,n,e,c,hd,_⟩:=pl
   exact⟨o,e,hd⟩
  ·refine⟨⟨o,I.oZ p o hk,hc⟩,λa e=>?_⟩
   cases e
   exact⟨o,I.oZ _ o hk,hd⟩
  ·have z:∃o,s.heap.get? p=some o∧o.ExactDict:=by
    rcases hk with ⟨kvs,hk⟩ | ⟨kvs,hk⟩
    ·obtain⟨_,_,_,_,o,_,_,e,ex,_⟩:=I.hok p _ hk
     exact⟨o,e,ex⟩
    ·obtain⟨_,_,_,_,o,_,_,e,ex,_⟩:=I.hok p _ hk
     exact⟨o,e,ex⟩
   obtain⟨o,e,ex⟩:=z
   refine⟨⟨o,e,ex.1⟩,λa e2=>?_⟩
   cases e2
   exact⟨o,e,ex.2.1⟩
  ·obtain⟨o,_,_,_,e,ex,_⟩:=I.hok p _ hk
   refine⟨⟨o,e,ex.1⟩,λa e2=>?_⟩
   cases e2
   exact⟨o,e,ex.2.1⟩
 | _=>exact False.elim ty
def Ng(K:aA)(T:String)(r:V→List V→Hp→VK→Prop)(to:TE)(t:TA):TE:=λσ H Q=>to σ H λx H1=>Ur K T x H1∧t σ H1 λxs H2=>r x xs H2 Q
variable{o e:Expr}{es:List Expr}{to:TE}{t:TA}{name:Str}{apos cpos:Pos}{T id:String}{r:V→List V→Hp→VK→Prop}
theorem Gz(pa:PlainAttrs T)(slot:Slot T name id)(hty:typeOf (.builtin id)=pure (.type "method_descriptor")) (hm:Uq X id r) (ho:PE X o to) (ha:PA X (e::es) t)
  (hbase:attributeBase o name X.env (eval o X.env)=eval o X.env:=by rfl)
  (hfew:((backTo cpos (starEach (e::es) X.env)).all (λx=>!x.1)&&(backToKw cpos (keywordEach [] X.env)).all (λx=>x.1.isSome)
   && decide ((e::es).length+([]:List Keyword).length+(if([]:List Keyword).isEmpty then 0 else 1)<30))=true:=by rfl)
  (hline:(apos.endLine==cpos.line)=true:=by rfl) (hs:starEach (e::es) X.env=(false,eval e X.env)::starEach es X.env:=by rfl) (hplain:(backTo cpos (starEach es X.env)).any (·.1)=false:=by rfl) :
  PE X (.Call (.Attribute o name apos) (e::es) [] cpos) (Ng X.K T r to t):=by
 intro pins s σ H Q I h
 refine wpAny_Call_method_late hbase hfew hline rfl (bY (ho pins s σ H _ I h) λv s1 ⟨x,H1,I1,r1,ty,q1⟩=>?_)
 obtain⟨h1,h2⟩:=Js I1 r1 ty
 refine⟨T,id,pa,slot,hty,h1,h2,?_⟩
 have hA:=ha cpos pins s1 σ H1 _ I1 q1
 rw[hs]at hA ⊢
 refine Calls.callWith_builtin (by show (false||(backTo cpos (starEach es X.env)).any (·.1))=false;rw[hplain]<;>rfl) (Calls.evalArgs_plain ?_)
 exact bY hA λus s2 ⟨vs,H2,I2,r2,q2⟩=>hm pins s2 σ H2 x vs v us Q I2 r1 r2 q2
end
end L2
namespace L2
open PySem PySem.Spec PyProof.Rows
def Vj(X:Cx)(id:String)(r:V→List V→Hp→VK→Prop):Prop:=
 ∀(pins:List (Addr×Obj))(s:Shared)(σ:St)(H:Hp)(x:V)(xs:List V)(v:Value)(us:List Value)(Q:VK),Inv X pins σ H s→RelV x v→Vals xs us→r x xs H Q →
  wpAny (model X.prog X.w) X.A (call (.builtin id) (v::us)) (EP X pins σ Q) X.xe s
theorem Vals.one:∀{x:V} {us:List Value},Vals [x] us→∃u,us=[u]∧RelV x u
 | _,_,.cons r .nil=>⟨_,rfl,r⟩
section
variable{X:Cx}{pins:List (Addr×Obj)}{σ:St}{H:Hp}{s:Shared}{l b:Addr}{xs ys zs:List V}
theorem Inv.Su{its its':List Value}{n:Nat}{f:Array Value→Array Value}{t':Nat}(I:Inv X pins σ H s)(hH:H l=some (.lst xs))
  (e:s.heap.get? l=some {cls:=.type "list", data:=.seq its.toArray n}) (hf:f its.toArray=its'.toArray) (hv:Vals ys its') (hz:ys.length≤sizeLine) :
  Inv X pins σ (upd H l (.lst ys)) {s with heap:=s.heap.update l (Obj.mapSeq f),toks:=t'}:=by
 have q:=PySem.IsL.update e f
 rw[hf]at q
 refine I.write (x:=l) (e:=l) (by rw[hH];exact trivial) (.inl rfl) (λb' u hb hu=>(Heap.get?_update_other s.heap (Obj.mapSeq f) (Ne.symm hb)).trans hu) ⟨_,q⟩ ?_
 exact⟨hz,its',_,hv,q⟩
theorem Inv.Ot{its:List Value}{t':Nat}(I:Inv X pins σ H s)(hv:Vals ys its)(hz:ys.length≤sizeLine) :
  Inv X pins σ (upd H s.heap.objs.size (.lst ys)) {s with heap:=s.heap.push {cls:=.type "list", data:=.seq its.toArray},toks:=t'}:=
 I.laid (λ_ _ q=>Heap.get?_push_of_some _ q) (B4 _) ⟨hz,its,0,hv,Heap.get?_push_size _ rfl⟩
theorem Inv.fresh(I:Inv X pins σ H s):H s.heap.objs.size=none:=I.hok.fresh (B4 _)
theorem Inv.Sv(I:Inv X pins σ H s)(hH:H l=some (.lst xs)):xs.length≤sizeLine∧∃(its:List Value)(n:Nat),Vals xs its∧xs.length=its.length∧s.heap.get? l=some {cls:=.type "list", data:=.seq its.toArray n}:=by
 obtain⟨z,its,n,r,e⟩:=I.hok l _ hH
 exact⟨z,its,n,r,r.length,e⟩
end
section
variable{X:Cx}
def kJ:V→List V→Hp→VK→Prop:=λx vs H Q=>∃l xs y,x=.ref l∧vs=[y]∧H l=some (.lst xs)∧xs.length<sizeLine∧Q .non (upd H l (.lst (xs++[y])))
theorem nT:Vj X "list.append" kJ:=by
 intro pins s σ H x vs v us Q I rx rv h
 obtain⟨l,xs,y,rfl,rfl,hH,hz,q⟩:=h
 cases rx
 obtain⟨u,rfl,ru⟩:=rv.one
 obtain⟨z,its,n,r,hl,e⟩:=I.Sv hH
 refine call_meets F.slot_list_append ⟨_,e,rfl⟩ F.entry_list_append (F.args_list_append_2 _ _) (PySem.list_append l its.toArray n u (by rw[A9];omega)) ⟨e,?_⟩
 refine⟨.non,_,I.Su (its':=its++[u]) hH e (by simp) (r.append (.cons ru .nil)) ?_,rfl,q⟩
 rw[E4,F3]
 omega
end
section
variable{prog:Program}{w:World}{A:Around}{E:Value→Shared→Prop}{s:Shared}
end
section
variable{X:Cx}
end
end L2
namespace L2
open PySem PySem.Spec PyProof.Rows
section
variable{κ:Type} [DecidableEq κ]
def xO(kvs:List (κ×V))(k:κ):Option V:=(kvs.find? λkv=>decide (kv.1=k)).map (·.2)
def putK(kvs:List (κ×V))(k:κ)(v:V):List (κ×V):=
 if(kvs.any λkv=>decide (kv.1=k))=true then kvs.map (λkv=>if kv.1=k then(kv.1,v)else kv)else kvs++[(k,v)]
def Us(kvs:List (κ×V))(k:κ):List (κ×V):=kvs.filter λkv=>decide (kv.1≠k)
end
abbrev KT(H:Hp):List (List Key×V)→List (List Key×Addr×Value)→Prop:=Paired λp q=>p.1=q.1∧H q.2.1=some (.tup (p.1.map kV))∧RelV p.2 q.2.2
section
variable{P:Program}{w:World}{H:Hp}{h:Heap}{a:Addr}
end
def Vk(H:Hp)(a:Addr)(y:V)(r:Option V):Prop:=
 (∃kvs k,Rd H a (.dK kvs)∧y=kV k∧r=xO kvs k)∨∃kvs k b,Rd H a (.dT kvs)∧y=.ref b∧H b=some (.tup (k.map kV))∧r=xO kvs k
def Vl(H:Hp)(a:Addr)(y v:V)(H':Hp):Prop:=
 (∃kvs k,H a=some (.dK kvs)∧y=kV k∧kvs.length<sizeLine∧H'=upd H a (.dK (putK kvs k v))) ∨
 ∃kvs k b,H a=some (.dT kvs)∧y=.ref b∧H b=some (.tup (k.map kV))∧kvs.length<sizeLine∧H'=upd H a (.dT (putK kvs k v))
section
variable{X:Cx}{pins:List (Addr×Obj)}{σ:St}{H:Hp}{s:Shared}{a:Addr}{y v:V}{u r:Value}{o:Option V}{A:Around}{E:Value→Shared→Prop}
end
section
variable{X:Cx}{pins:List (Addr×Obj)}{σ:St}{H:Hp}{s:Shared}{a:Addr}{kvs:List (Key×V)}{k:Key}{u:Value}{A:Around}{E:Value→Shared→Prop}
end
section
variable{X:Cx}{o i e value:Expr}{pos pos' tpos:Pos}{td ty tv:TE}
end
section
variable{X:Cx}{pos:Pos}
end
def tV:List (TE×TE)→St→Hp→(List (V×V)→Hp→Prop)→Prop
 | [],_,H,Q=>Q [] H
 | (tk,tv)::r,σ,H,Q=>tk σ H λx H1=>tv σ H1 λy H2=>tV r σ H2 λps H3=>Q ((x,y)::ps) H3
abbrev VV:List (V×V)→List (Value×Value)→Prop:=Paired λp q=>RelV p.1 q.1∧RelV p.2 q.2
def Vm(X:Cx)(pos:Pos)(keys:List (Option Expr))(values:List Expr)(Vn:List (TE×TE)):Prop:=
 ∀(pins:List (Addr×Obj))(s:Shared)(σ:St)(H:Hp)(Q:List (V×V)→Hp→Prop),Inv X pins σ H s→tV Vn σ H Q →
  wpAny (model X.prog X.w) X.A (evalPairs (pairTrees keys values X.env pos)) (λvs s'=>∃ps H',Inv X pins σ H' s'∧VV ps vs∧Q ps H') X.xe s
structure M1(X:Cx)(o:Expr)(m:Str)(apos:Pos)(e:Expr)(cpos:Pos):Prop where
 base:attributeBase o m X.env (eval o X.env)=eval o X.env
 few:((backTo cpos (starEach [e] X.env)).all (λx=>!x.1)&&(backToKw cpos (keywordEach [] X.env)).all (λx=>x.1.isSome)
  && decide (([e]:List Expr).length+([]:List Keyword).length+(if([]:List Keyword).isEmpty then 0 else 1)<30))=true
 line:(apos.endLine==cpos.line)=true
 trees:backTo cpos (starEach [e] X.env)=[(false,eval e X.env)]
structure M2(X:Cx)(o:Expr)(m:Str)(apos:Pos)(e f:Expr)(cpos:Pos):Prop where
 base:attributeBase o m X.env (eval o X.env)=eval o X.env
 few:((backTo cpos (starEach [e,f] X.env)).all (λx=>!x.1)&&(backToKw cpos (keywordEach [] X.env)).all (λx=>x.1.isSome)
  && decide (([e,f]:List Expr).length+([]:List Keyword).length+(if([]:List Keyword).isEmpty then 0 else 1)<30))=true
 line:(apos.endLine==cpos.line)=true
 trees:backTo cpos (starEach [e,f] X.env)=[(false,eval e X.env),(false,eval f X.env)]
section
variable{X:Cx}{pins:List (Addr×Obj)}{σ:St}{H:Hp}{s:Shared}{a:Addr}{y d:V}{u r:Value}{o:Option V}{A:Around}{E:Value→Shared→Prop}
end
section
variable{X:Cx}{o e f:Expr}{apos cpos:Pos}{td ty tx:TE}
end
section
variable{X:Cx}{pins:List (Addr×Obj)}{σ:St}{H:Hp}{s:Shared}{a:Addr}{kvs:List (Key×V)}{A:Around}{E:Value→Shared→Prop}
end
section
variable{X:Cx}{pins:List (Addr×Obj)}{σ:St}{H:Hp}{s:Shared}{a:Addr}{y:V}{u:Value}{A:Around}{E:Value→Shared→Prop}
end
end L2
namespace Att
open PySem PySem.W PySem.Calls PyProof.Rows
theorem jW{P:Params}{h:Heap}:∀(ns:List Int)(vs:List Value),WellAll P h vs (ns.map WData.int)→IntsAre vs ns:=by
 intro ns
 induction ns with
 | nil=>
  intro vs w
  rw[F4]at w
  cases w
  exact .nil
 | cons n ns ih=>
  intro vs w
  rw[E7]at w
  cases w with
  | cons a b=>
   cases a
   exact .cons _ _ (ih _ b)
theorem xP{l:OpenLaw}{n:Nat}(hn:l.most=some n){P:Params}{h:Heap}{args:List WData}{vals:List Value}
  (hpre:l.row.toRowW.claim.pre args=true) (hwl:WellAll P h vals args) :
  ∃a vs ns,vals=[Value.ref a]∧args=[WData.list (ns.map WData.int)]∧h.get? a=some {cls:=.type "list", data:=.seq vs.toArray}∧IntsAre vs ns∧ns.length≤n:=by
 have hsh:WShape.hasAll [] args [.list .int]=true:=(pre_splitW hpre).1
 have hc:l.pre.holds [] {args:=args}=true:=(pre_splitW hpre).2
 obtain⟨d,r,rfl,h1,h2⟩:=hasAllW_cons hsh
 obtain rfl:=hasAllW_nil h2
 obtain⟨xs,rfl,h3⟩:=hasW_list h1
 obtain⟨ns,rfl⟩:=items_int h3
 have hlen:ns.length≤n:=by
  unfold OpenLaw.pre at hc
  have h4:(WTm.not (.lt (.lit (.int (n:Int))) (.len (.arg 0)))).holds [] {args:=[.list (ns.map .int)]}=true:=by
   have h4:=(holds_andW hc).1
   rw[hn]at h4
   exact h4
  have h5:=condW_of h4 (w_not (w_lt w_lit (w_len_list (w_arg rfl))))
  rw[D5]at h5
  refine Nat.le_of_not_lt λq=>?_
  have q':(n:Int)<((ns.length:Nat):Int):=by omega
  first
   | (rw[decide_eq_true q']at h5;exact absurd h5 (by decide))
   | (simp at h5;omega)
 cases hwl with
 | cons w1 w2=>
  cases w2
  cases w1 with
  | list ho hall=>exact⟨_,_,ns,rfl,rfl,ho,jW ns _ hall,hlen⟩
theorem xQ(l:OpenLaw)(args:List WData):l.row.toRowW.claim.post args (.bool true) args=true:=
 postW_of (r:=l.row.toRowW) (X:=(true==true))
  (show WShape.has [] (.bool true) .bool=true by first | rfl | decide | simp[WShape.has,WShape.arms,WShape.armsAll])
  (show (WTm.eq .res (.lit (.bool true))).value [] {args:=args,res:=some (.bool true),after:=args}=some (.bool (true==true))from w_eq_bool (w_res rfl) w_lit) rfl
theorem rJ{l:OpenLaw}{n:Nat}{q:Program}{loose:List Str}{XP:(Str→Option Value)→Heap→Prop}{YP:World→Heap→Prop}{d:DefRec}
  (hn:l.most=some n) (hdf:d.params.defaults=[])
  (call:∀(w:World)(s₀ s₁:Shared)(mg mb:Str→Option Value)(fa:Addr)(o:Obj)(pm cd doc:Value)(a:Addr)(vs:List Value)(ns:List Int),
   Ground q loose [] XP w s₀ mg mb s₁.heap→YP w s₁.heap →
   s₁.heap.get? fa=some o→o.data=.func (docDef d.name d.params d.body d.scope pm cd doc)→s₁.heap.CodeRec cd d.name→mg d.name=some (.ref fa) →
   s₁.heap.get? a=some {cls:=.type "list", data:=.seq vs.toArray}→IntsAre vs ns→ns.length≤n→s₁.gens=#[] →
   codeAny (model l.prog w) callerA (.call (.ref fa) ⟨[.ref a],[]⟩) (λr s'=>r=.ok (.ret (.bool true))∧OldK s₁.heap s'.heap∧s'.os=s₁.os∧AllBare s'.gens) s₁) :
  WalkO q loose XP YP l.row.toRowW d [] (λf vs=>O2 f vs):=by
 intro w s₀ s₁ mg mb G Y fa o pm cd doc dV kV ho hd hcd hD hmg hg args vals as hpre hlay hrd hwl hlo
 obtain rfl:dV=.none:=Dflts.none hD hdf
 obtain rfl:kV=.none:=Dflts.noKw hD
 obtain⟨a,vs,ns,rfl,rfl,hobj,hints,hlen⟩:=xP hn hpre hwl
 refine enter_call (codeAny_mono (call w s₀ s₁ mg mb fa o pm cd doc a vs ns G Y ho (fd_plain hd) hcd hmg hobj hints hlen hg) λr s' hq=>?_)
 obtain⟨rfl,h2,h3,h4⟩:=hq
 exact⟨.inl ⟨.bool true,.bool true,[],rfl,λ_=>rfl,.bool true,xQ l _,λ_=>⟨List.Pairwise.nil,λ_ hm=>(nomatch hm)⟩⟩,h2,h3,h4⟩
section
variable{prog:Program}{w:World}{A:Around}{E:Value→Shared→Prop}{s:Shared}{K:Frag}
end
end Att
namespace L2
open PySem PySem.Spec PyProof.Rows
theorem nU:∀{vs:List Value} {ns:List Int},IntsAre vs ns→Vals (ns.map V.int) vs
 | _,_,.nil=>.nil
 | _,_,.cons n t h=>.cons ⟨t,rfl⟩ (nU h)
def Only(H:Hp):Prop:=∀b,H b=none∨∃o xs,H b=some (.jG o (.lst xs))
theorem zO{P:Program}{w:World}{K:aA}{mg mb:Str→Option Value}{CX:zL}{k:Nat}{fa a:Addr}{fd:FuncData}{x:Str}{sp:Sp}{s₁:Shared}{vs:List Value}{ns:List Int}
  (KX:K.In s₁.heap) (hns:s₁.heap.Ns mainGlobals mg) (hb:s₁.heap.Ns builtinsNs mb) (hbb:∀x:Str,x ≠ "__name__" → mb x=bootBuiltins x) (hlim:s₁.heap.NoLimit) (hg:s₁.gens=#[])
  (ha:s₁.heap.get? a=some {cls:=.type "list", data:=.seq vs.toArray}) (hi:IntsAre vs ns) (hl:ns.length≤sizeLine) (hr:cT k callerA)
  (F:∀base:Heap,K.In base→base.Ns mainGlobals mg→lC P w K mg base CX k fa fd [x] sp) (hbind:∀(s:Shared)(u:Value),BindsTo s fd ⟨[u],[]⟩ [(x,u)])
  (hsp:∀H:Hp,Only H→fW K H a (ns.map V.int)→sp [.ref a] H (λv _=>v=.bl true) λ_ _ _=>False)
  (Sw:∀H e s',CX [] H s₁ (λ_ _ _=>False) e s'→False) :
  codeAny (model P w) callerA (.call (.ref fa) ⟨[.ref a],[]⟩) (λr s'=>r=.ok (.ret (.bool true))∧OldK s₁.heap s'.heap∧s'.os=s₁.os∧AllBare s'.gens) s₁:=by
 have rv:=nU hi
 have lenV:=hi.length
 have core:∀H:Hp,Only H→fW K H a (ns.map V.int)→jT P w H s₁.heap→(∀b,H b≠none→b=a)→(H a≠none→K.lookup a=none) →
   codeAny (model P w) callerA (.call (.ref fa) ⟨[.ref a],[]⟩) (λr s'=>r=.ok (.ret (.bool true))∧OldK s₁.heap s'.heap∧s'.os=s₁.os∧AllBare s'.gens) s₁:=by
  intro H hO hS hok hA hK
  have vN:∀{b:Addr} {o:Obj},s₁.heap.get? b=some o→H b=none→(oY s₁.heap H).get? b=some o:=λe n=>yR e n
  have Oi:∀{b:Addr} {o:Obj} {es:Array DictEntry} {ep:Nat},s₁.heap.get? b=some o→o.data=.dict es ep→H b=none:=λ{b o es ep} e d=>by
   cases q:H b with
   | none=>rfl
   | some u=>
    have e':b=a:=hA b (by rw[q];simp)
    subst e'
    rw[ha]at e;cases e
    have d':Data.seq vs.toArray _=Data.dict es ep:=d
    cases d'
  have Ri:∀{b:Addr} {m:Str→Option Value},s₁.heap.Ns b m→(oY s₁.heap H).Ns b m:=λ{b m} ⟨o,es,ep,e,d,r⟩=>⟨o,es,ep,vN e (Oi e d),d,r⟩
  have Ut:K.In (oY s₁.heap H):=λb o e=>vN (KX b o e) (by
   cases q:H b with
   | none=>rfl
   | some u=>
    have e':b=a:=hA b (by rw[q];simp)
    subst e'
    rw[hK (by rw[q];simp)]at e;cases e)
  have hM:Mod K mg (oY s₁.heap H):=⟨Ut,Ri hns,⟨mb,Ri hb,hbb⟩,let ⟨mc,h1,h2⟩:=hlim;⟨mc,Ri h1,h2⟩⟩
  have e0:Dl P w K mg (oY s₁.heap H) callerA [] s₁ H:=⟨rfl,hM,λb o e=>Cv e,Nat.le_of_eq (wV _ _),trivial,λb hb=>absurd (show b∈([]:List Addr)from hb) (by simp),hok,.of_eq hg⟩
  refine codeAny_mono ((F _ Ut (Ri hns)).run callerA [] s₁ H ⟨[.ref a],[]⟩ [.ref a] [.ref a] _ _ hr e0 (hbind s₁ (.ref a)) (.cons rfl .nil) (hsp H hO hS)) λr s' h=>?_
  cases r with
  | error e=>exact(Sw H e s' h).elim
  | ok fl=>
   cases fl with
   | next=>exact False.elim h
   | brk=>exact False.elim h
   | cont=>exact False.elim h
   | ret u=>
    obtain⟨v,H',os,bare,un,hok',r',q⟩:=h
    have q':v=.bl true:=q
    subst q'
    obtain rfl:u=Value.bool true:=r'
    refine⟨rfl,OldK.of_keep λb o e=>?_,os,bare⟩
    cases q:H b with
    | none=>exact un.keep b o e q (by intro z;exact absurd (show b∈([]:List Addr)from z) (by simp)) (by simp)
    | some u=>
     rcases hO b with z | ⟨ob,xs,z⟩
     ·rw[q]at z;cases z
     ·have z2:=un.oX b ob _ z
      obtain⟨e1,_⟩:=hok b _ z
      obtain⟨e2,_⟩:=hok' b _ z2
      rw[e]at e1;cases e1
      exact e2
 cases hk:K.lookup a with
 | some o=>
  have e:=KX a o hk
  rw[ha]at e
  cases e
  refine core (λ_=>none) (λ_=>.inl rfl) (.inr ⟨_,vs.toArray,_,hk,rfl,rfl,rfl,by rw[A9,lenV];exact hl,by simpa using rv⟩) (λb u z=>by have z':(none:Option HO)=some u:=z;cases z') (λb z=>absurd rfl z) λz=>absurd rfl z
 | none=>
  refine core (λb=>if b=a then some (.jG {cls:=.type "list", data:=.seq vs.toArray} (.lst (ns.map V.int)))else none) (λb=>?_) (.inl (.inr ⟨{cls:=.type "list", data:=.seq vs.toArray},if_pos rfl⟩)) (λb u z=>?_) (λb z=>?_) λ_=>hk
  ·by_cases hb:b=a
   ·exact .inr ⟨_,_,if_pos hb⟩
   ·exact .inl (if_neg hb)
  ·by_cases hb:b=a
   ·have z':=(if_pos hb).symm.trans z
    cases z'
    subst hb
    exact⟨ha,by rw[D5];exact hl,vs,_,rv,ha⟩
   ·have z':=(if_neg hb).symm.trans z
    cases z'
  ·by_cases hb:b=a
   ·exact hb
   ·exact absurd (if_neg hb) z
end L2
namespace L2
open PySem PySem.Spec PyProof.Rows
theorem Ds{l:O3}{n k:Nat}{q:Program}{loose:List Str}{XP:(Str→Option Value)→Heap→Prop}{YP:World→Heap→Prop}{d:DefRec}{K:Params→aA}{CX:World→zL}{sp:World→Sp}{x:Str}
  (hn:l.most=some n) (hn2:n≤sizeLine) (hdf:d.params.defaults=[]) (hr:cT k callerA)
  (hY:∀(w:World)(h:Heap),YP w h→(K w.params).In h)
  (F:∀(w:World)(mg:Str→Option Value)(fa:Addr)(h:Heap),(K w.params).In h→h.Ns mainGlobals mg→mg d.name=some (.ref fa) →
   ∃fd:FuncData,(∀(s:Shared)(u:Value),BindsTo s fd ⟨[u],[]⟩ [(x,u)]) ∧
    ∀base:Heap,(K w.params).In base→base.Ns mainGlobals mg→lC l.prog w (K w.params) mg base (CX w) k fa fd [x] (sp w))
  (hsp:∀(w:World)(H:Hp)(a:Addr)(ns:List Int),ns.length≤n→Only H→fW (K w.params) H a (ns.map V.int)→sp w [.ref a] H (λv _=>v=.bl true) λ_ _ _=>False)
  (Sw:∀(w:World)(H:Hp)(s:Shared)(e:Value)(s':Shared),CX w [] H s (λ_ _ _=>False) e s'→False) :
  O9 q loose XP YP l.row.toRowW d [] (λf vs=>O2 f vs):=by
 refine Att.rJ hn hdf λw s₀ s₁ mg mb fa o pm cd doc a vs ns G Y ho hd hcd hmg hobj hints hlen hg=>?_
 have KX:=hY w _ Y
 obtain⟨fd,hb,hF⟩:=F w mg fa _ KX G.T.g hmg
 exact zO KX G.T.g G.T.b G.T.builtins G.T.nolimit hg hobj hints (D7 hlen hn2) hr hF hb (λH hO hS=>hsp w H a ns hlen hO hS) λH e s'=>Sw w H s₁ e s'
end L2
namespace L2
open PySem PySem.Spec PyProof.Rows
def bJ(s:Stmt):Arguments:=match s with
 | .FunctionDef _ a _ _ _ _ _ _ _ _=>a
 | _=>{posonlyargs:=[],args:=[],vararg:=none,kwonlyargs:=[],kw_defaults:=[],kwarg:=none,defaults:=[]}
def aW(s:Stmt):List Stmt:=match s with
 | .FunctionDef _ _ b _ _ _ _ _ _ _=>b
 | _=>[]
def aC(s:Stmt):Scope:=match s with
 | .FunctionDef _ _ _ _ _ _ sc _ _ _=>sc
 | _=>{kind:=.function,names:=[],isGenerator:=false,isCoroutine:=false}
abbrev yP:zL:=λ_ _ _ _ _ _=>False
abbrev E0:XK:=λ_ _ _=>False
theorem Ou{X:Cx}:Passes yP X E0:=λ_ _ _ _ _ _ _ h=>h.elim
structure Cq(K:aA)(x qual:Str)(st:Stmt)(f:Addr)(fd:FuncData):Prop where
 ex:∃(oc:Value)(od:Option Addr)(kV doc pm:Value)(an:Option Addr)(cdv ct:Value)(osl:Array (Option Value)),
  fd=C9 x qual (bJ st) (aW st) (aC st) .none kV doc pm an cdv ct∧K.lookup f=some ⟨oc,od,.func fd,osl⟩∧F2 K cdv qual=true
 kp:E2 K (.ref f)=true
section
variable{P:Program}{w:World}{K:aA}{mg:Str→Option Value}{base:Heap}
theorem Cq.ok{x qual:Str}{st:Stmt}{f:Addr}{fd:FuncData}{N ps:List Str}{k:Nat}{sp:Sp}(F:Cq K x qual st f fd)(S:bI N ps (aC st))(len:∀vs H Q E,sp vs H Q E→vs.length=ps.length)
  (hbody:∀(cdv:Value)(A:Around)(outer:List Env)(s:Shared)(H:Hp)(vs:List V)(Q:VK)(E:XK),cT k (A.deeper (envOfC qual (aC st) s.heap.objs.size f cdv))→sp vs H Q E →
   ∃t,tM (pH yP P w K mg base N qual (aC st) f cdv A outer s H E).Ir (aW st) t∧t {nx:=λ_ H'=>Q .non H',rt:=Q} (start N vs) H):lC P w K mg base yP (k+1) f fd ps sp:=by
 obtain⟨oc,od,kV,doc,pm,an,cdv,ct,osl,rfl,lk,hcd⟩:=F.ex
 refine Oj lk hcd S len λA outer s H vs Q E hr hsp=>?_
 obtain⟨t,h,q⟩:=hbody cdv A outer s H vs Q E hr hsp
 exact⟨t,h.Ir,q⟩
theorem Cq.binds{x qual:Str}{st:Stmt}{f:Addr}{fd:FuncData}{ps:List Str}(F:Cq K x qual st f fd)
  (h:∀(kV doc pm:Value)(an:Option Addr)(cdv ct:Value)(us:List Value),us.length=ps.length→bindArgs (C9 x qual (bJ st) (aW st) (aC st) .none kV doc pm an cdv ct) ⟨us,[]⟩=pure (ps.zip us)):Binds K fd ps []:=by
 obtain⟨oc,od,kV,doc,pm,an,cdv,ct,osl,rfl,lk,hcd⟩:=F.ex
 exact .all (h kV doc pm an cdv ct)
theorem Jt{x qual:Str}{st:Stmt}{f:Addr}{oc:Value}{od an:Option Addr}{osl:Array (Option Value)}{kV doc pm cdv ct:Value}(l:K.lookup f=some ⟨oc,od,.func (C9 x qual (bJ st) (aW st) (aC st) .none kV doc pm an cdv ct),osl⟩)
  (c:F2 K cdv qual=true) (k:E2 K (.ref f)=true):Cq K x qual st f (C9 x qual (bJ st) (aW st) (aC st) .none kV doc pm an cdv ct):=⟨⟨oc,od,kV,doc,pm,an,cdv,ct,osl,rfl,l,c⟩,k⟩
end
theorem lE{A:Around}{k:Nat}(hr:cT k A):A.units+1<cLine:=Nat.lt_of_le_of_lt (Nat.add_le_add_left (by decide:1≤64) _) hr.units
section
variable{X:Cx}
theorem pv(i:Nat){x:Str}{pos:Pos}(hN:X.N[i]?=some x:=by rfl)(hv:Rc X.env.scope x:=by first | exact D4 rfl | exact D2 (D4 rfl) | exact D2 (D2 rfl))(hd:(x==("__debug__" : Str))=false:=by decide)
  (hcd:(x==("__classdict__" : Str))=false:=by decide):PE X (.Name x pos) (pB i):=Ih hN hv hd hcd
end
def aB(H H':Hp):Prop:=∀b o,H b=some o→H' b=some o
theorem aB.refl(H:Hp):aB H H:=λ_ _ h=>h
theorem aB.trans{H H1 H2:Hp}(a:aB H H1)(b:aB H1 H2):aB H H2:=λc o h=>b c o (a c o h)
theorem aB.free{H H':Hp}(e:aB H H'){l:Addr}(h:H' l=P4):H l=P4:=by
 cases q:H l with
 | none=>rfl
 | some o=>
  rw[e l o q]at h
  cases h
theorem aB.seq{K:aA}{H H':Hp}{a:Addr}{xs:List V}(e:aB H H')(h:fW K H a xs):fW K H' a xs:=by
 rcases h with (h | ⟨o,h⟩) | h
 ·exact .inl (.inl (e _ _ h))
 ·exact .inl (.inr ⟨o,e _ _ h⟩)
 ·exact .inr h
section
variable{κ:Type} [DecidableEq κ]
end
end L2


namespace L2
open PySem PySem.Spec PyProof.Rows
theorem gD(env:Env):∀(names:List (Str×NameKind))(acc:List (Str×Addr)),(∀x∈names,x.2=.free→∃c,env.cells.lookup x.1=some c) →
    ∃cl:List (Str×Addr),(forIn names acc (λ(x:Str×NameKind) (r:List (Str×Addr))=>(match x with
      | (name,kind)=>if(kind==.free)=true then do let c ←cellOf env name;pure (ForInStep.yield ((name,c)::r))else pure (ForInStep.yield r):Sem (ForInStep (List (Str×Addr))))))=pure cl ∧
      (∀x c,cl.lookup x=some c→(∃k,(x,k)∈names∧k=.free∧env.cells.lookup x=some c)∨acc.lookup x=some c) ∧
      (∀x,(x,NameKind.free)∈names→∃c,cl.lookup x=some c)∧(∀x c,acc.lookup x=some c→∃c',cl.lookup x=some c')
  | [],acc,_=>⟨acc,rfl,λx c h=>.inr h,λx h=>by simp at h,λx c h=>⟨c,h⟩⟩
  | (n,k)::r,acc,h=>by
    rw[List.forIn_cons]
    by_cases hk:k=.free
    · subst hk
      obtain⟨c,hc⟩:=h (n,.free) E1 rfl
      obtain⟨cl,e,h1,h2,h3⟩:=gD env r ((n,c)::acc) λx hx=>h x (C8 _ hx)
      refine⟨cl,?_,λx d hd=>?_,λx hx=>?_,λx d hd=>?_⟩
      · have e0:cellOf env n=pure c:=by unfold cellOf;rw[hc]
        simp only[beq_self_eq_true,if_true,e0,pure_bind]
        exact e
      · rcases h1 x d hd with ⟨k',m,q⟩ | q
        · exact .inl ⟨k',C8 _ m,q⟩
        · rw[G1]at q
          by_cases e:x==n
          · rw[e]at q
            have e':=eq_of_beq e
            subst e'
            cases q
            exact .inl ⟨.free,E1,rfl,hc⟩
          · have e':(x==n)=false:=by simpa using e
            rw[e']at q
            exact .inr q
      · rcases C5.mp hx with q | q
        · cases q
          exact h3 n c (by simp)
        · exact h2 x q
      · by_cases e:x==n
        · exact h3 x c (by rw[G1,e])
        · have e':(x==n)=false:=by simpa using e
          exact h3 x d (by rw[G1,e'];exact hd)
    · obtain⟨cl,e,h1,h2,h3⟩:=gD env r acc λx hx=>h x (C8 _ hx)
      have hb:(k==NameKind.free)=false:=by simpa using hk
      refine⟨cl,?_,λx d hd=>?_,λx hx=>?_,h3⟩
      · simp only[hb,Bool.false_eq_true,if_false,pure_bind]
        exact e
      · rcases h1 x d hd with ⟨k',m,q⟩ | q
        · exact .inl ⟨k',C8 _ m,q⟩
        · exact .inr q
      · rcases C5.mp hx with q | q
        · cases q
          exact absurd rfl hk
        · exact h2 x q
theorem nC(scope:Scope)(env:Env)(h:∀x∈scope.names,x.2=.free→∃c,env.cells.lookup x.1=some c) :
    ∃cl,closureFor scope env=pure cl∧(∀x c,cl.lookup x=some c→(x,NameKind.free)∈scope.names∧env.cells.lookup x=some c)∧∀x,(x,NameKind.free)∈scope.names→∃c,cl.lookup x=some c:=by
  obtain⟨cl,e,h1,h2,_⟩:=gD env scope.names [] h
  refine⟨cl,?_,λx c hx=>?_,h2⟩
  · unfold closureFor
    exact(congrArg (λt=>t >>= pure) e).trans (pure_bind _ _)
  · rcases h1 x c hx with ⟨k,m,rfl,q⟩ | q
    · exact⟨m,q⟩
    · simp at q
theorem pM{scope:Scope}{env:Env}(hcell:∀y∈scope.names,y.2≠.cell){x:Str}(h:(relabel scope env).names.lookup x=some .cell∨(relabel scope env).names.lookup x=some .free):(x,NameKind.free)∈scope.names:=by
 have m:(x,NameKind.cell)∈(relabel scope env).names∨(x,NameKind.free)∈(relabel scope env).names:=by
  rcases h with h | h
  ·exact .inl (D6 h)
  ·exact .inr (D6 h)
 unfold relabel at m
 rcases m with m | m
 all_goals
  obtain⟨⟨n,k⟩,hm,e⟩:=List.mem_map.mp m
  dsimp only at e
  split at e
  ·rename_i hc
   simp only[G2,beq_iff_eq]at hc
   cases e
   first
    | (rw[hc.1.1]at hm;exact hm)
    | skip
  ·cases e
   first
    | exact hm
    | exact absurd rfl (hcell _ hm)
def cH(X:Cx)(scope:Scope)(N:List Str)(cl:List (Str×Addr))(fp:List Addr)(s:Shared)(H:Hp)(C:Addr):Cx where
 prog:=X.prog
 w:=X.w
 K:=X.K
 mg:=X.mg
 base:=X.base
 A:=X.A
 N:=N
 s₀:=s
 H₀:=H
 env:=compEnvC scope cl C X.env
 outer:=X.stack
 stack:=X.stack
 ex:=fp
 calm:=X.calm
 fn:=λ_=>false
 pn:=[]
 xe:=λ_ _=>False
def tW(σ:St)(fr:List Nat):St:=fr.map λi=>σ.getD i none
def blk(k:Nat)(σ:St)(fr:List Nat):St:=C6 k none++tW σ fr
def Kp(k:Nat)(σ:St)(fr:List Nat)(σ2:St):Prop:=σ2.length=(blk k σ fr).length∧∀(j:Nat) v,(blk k σ fr)[j]?=some (some v)→σ2[j]?=some (some v)
def Ov(X:Cx)(ifs:List Expr)(t:TT):Prop:=
 ∀(pins:List (Addr×Obj))(s:Shared)(σ:St)(H:Hp)(Q:Bool→Hp→Prop),Inv X pins σ H s→t σ H Q →
  wpAny (model X.prog X.w) X.A (forIn ifs true λc r=>if r=true then do let ok ←isTrue c X.env (eval c X.env);pure (ForInStep.yield ok)else pure (ForInStep.yield r)) (TP X pins σ Q) X.xe s
def Ox:TT:=λ_ H Q=>Q true H
theorem Dt{X:Cx}:Ov X [] Ox:=λ_ _ _ H _ I h=>wpAny_tests_nil ⟨H,I,h⟩
theorem fU{prog:Program}{w:World}{A:Around}{R:Result→Shared→Prop}{s:Shared}{elt target iter:Expr}{ifs:List Expr}{scope:Scope}{pos:Pos}{it acc:Value}{env:Env}(I:Nat→Shared→Prop)
  (turn:∀n s,I n s→wpAny (model prog w) A (pyNext it) (λr s₁=>match r with
   | none=>R (.ok .next) s₁
   | some v=>wpAny (model prog w) A (letOwnedTupleGo target it v) (λ_ s₀=>wpAny (model prog w) A (assign target env v) (λ_ s₂=>
     wpAny (model prog w) A (forIn ifs true λc r=>if r=true then do let ok ←isTrue c env (eval c env);pure (ForInStep.yield ok)else pure (ForInStep.yield r)) (λok s₃=>
      if ok=true then wpAny (model prog w) A (eval elt env) (λx s₄=>
       wpAny (model prog w) A (call (.builtin "list.append") [acc,x]) (λ_ s₅=>∃m,m<n∧I m s₅) (λ_ _=>False) s₄) (λ_ _=>False) s₃
      else ∃m,m<n∧I m s₃) (λ_ _=>False) s₂) (λ_ _=>False) s₀) (λ_ _=>False) s₁) (λ_ _=>False) s)
  (n:Nat) (h:I n s) :
  codeAny (model prog w) A (.compLoop (.ListComp elt [⟨target,iter,ifs,0⟩] scope pos) 0 it acc env) R s:=by
 refine codeAny_loop rfl I (λn s hI=>?_) n h
 show wpAny _ A ((compTurn (.ListComp elt [⟨target,iter,ifs,0⟩] scope pos) 0 it acc env).onRaise (λx=>do noteFrame x env;theTreesLotGoes x)) _ _ s
 refine wpAny_noted ?_
 rw[compTurn_list]
 refine wpAny_mono (E:=λ_ _=>False) ?_ (λ_ _ q=>q) λ_ _ x=>x.elim
 refine wpAny_bind (wpAny_standAt (wpAny_bind (wpAny_mono (turn n s hI) (λr s₁ h₁=>?_) λ_ _ h'=>h')))
 cases r with
 | none=>exact wpAny_pure h₁
 | some v=>
  refine wpAny_bind (wpAny_mono h₁ (λ_ s₀ h₀=>?_) λ_ _ h'=>h')
  refine wpAny_bind (wpAny_mono h₀ (λ_ s₂ h₂=>wpAny_bind (wpAny_mono h₂ (λok s₃ h₃=>?_) λ_ _ h'=>h')) λ_ _ h'=>h')
  cases ok with
  | false=>exact wpAny_pure ⟨rfl,h₃⟩
  | true=>
   exact wpAny_bind (wpAny_bind (wpAny_mono h₃ (λx s₄ h₄=>wpAny_bind (wpAny_mono h₄ (λ_ s₅ h₅=>wpAny_pure (wpAny_pure ⟨rfl,h₅⟩)) λ_ _ h'=>h')) λ_ _ h'=>h'))
def Hf(J:It)(k:Nat)(fr:List Nat)(g:TG)(tc:TT)(te:TE)(σ:St)(H1:Hp)(Q:VK)(D:Addr):Prop:=∃W:Nat→Nat→List V→Hp→Prop,(∃m,W 0 m [] (upd H1 D (.lst []))) ∧
 ∀i m ys H,W i m ys H→H D=some (.lst ys)∧((J.stop i H∧Q (.ref D) H)∨(J.go i H∧∀x H',J.Nx i H x H'→g x (blk k σ fr) H' λσ2 H2=>Kp k σ fr σ2∧tc σ2 H2 λok H3=>if ok=true then
  te σ2 H3 λy H4=>H4 D=some (.lst ys)∧ys.length<sizeLine∧∃m',m'<m∧W (i+1) m' (ys++[y]) (upd H4 D (.lst (ys++[y])))else ∃m',m'<m∧W (i+1) m' ys H3))
def zP(wi:TI)(k:Nat)(fr:List Nat)(g:TG)(tc:TT)(te:TE):TE:=λσ H Q=>wi σ H λJ H1=>∀D,H1 D=none→Hf J k fr g tc te σ H1 Q D
def eV(scope qY:Scope):Scope:=
 {scope with names:=scope.names.map λ(n,k)=>if(k==.free&&qY.kind==.function&&qY.names.lookup n==some .cell)then(n,.cell)else(n,k)}
structure bQ(qY scope:Scope)(oN N:List Str)(k:Nat)(fr:List Nat):Prop where
 kind:scope.kind=.function
 cell:∀y∈scope.names,y.2≠.cell
 loc:∀y∈scope.names,y.2=.local→scope.names.lookup y.1=some .local
 free:∀y∈scope.names,y.2=.free→qY.names.lookup y.1=some .cell∨qY.names.lookup y.1=some .free
 len:N.length=k+fr.length
 slots:∀j∈D8 fr.length,oN[fr.getD j 0]?=N[k+j]?
 from_:∀x∈N.drop k,(x,NameKind.free)∈scope.names∧((eV scope qY).names.lookup x=some .cell∨(eV scope qY).names.lookup x=some .free)
def zQ(qY scope:Scope)(oN N:List Str)(k:Nat)(fr:List Nat):Bool:=
 decide (scope.kind=.function)&&decide (∀y∈scope.names,y.2≠.cell)&&decide (∀y∈scope.names,y.2=.local→scope.names.lookup y.1=some .local) &&
 decide (∀y∈scope.names,y.2=.free→qY.names.lookup y.1=some .cell∨qY.names.lookup y.1=some .free)&&decide (N.length=k+fr.length) &&
 decide (∀j∈D8 fr.length,oN[fr.getD j 0]?=N[k+j]?) &&
 decide (∀x∈N.drop k,(x,NameKind.free)∈scope.names∧((eV scope qY).names.lookup x=some .cell∨(eV scope qY).names.lookup x=some .free))
theorem bQ.of{qY scope:Scope}{oN N:List Str}{k:Nat}{fr:List Nat}(h:zQ qY scope oN N k fr=true):bQ qY scope oN N k fr:=by
 unfold zQ at h
 simp only[G2,decide_eq_true_eq]at h
 obtain⟨⟨⟨⟨⟨⟨h1,h2⟩,h3⟩,h4⟩,h5⟩,h6⟩,h7⟩:=h
 exact⟨h1,h2,h3,h4,h5,h6,h7⟩
section
variable{X:Cx}
theorem Du{k:Nat}{σ:St}{fr:List Nat}{i:Nat}{v:V}(h:(blk k σ fr)[i]?=some (some v)):∃j o,i=k+j∧fr[j]?=some o∧σ[o]?=some (some v):=by
 unfold blk at h
 by_cases hi:i<k
 ·rw[J6 (by simpa using hi),K5]at h
  rw[if_pos hi]at h
  cases h
 ·rw[J1 (by simpa using hi),L6]at h
  unfold tW at h
  rw[B9]at h
  cases e:fr[i-k]? with
  | none=>rw[e]at h;cases h
  | some o=>
   rw[e]at h
   refine⟨i-k,o,by omega,e,?_⟩
   have h:some (σ.getD o none)=some (some v):=h
   have h:=C3 h
   rw[E8]at h
   cases e2:σ[o]? with
   | none=>rw[e2]at h;cases h
   | some z=>rw[e2]at h;exact congrArg some h
theorem tX{pins:List (Addr×Obj)}{σ:St}{H:Hp}{s:Shared}{scope:Scope}{N:List Str}{k:Nat}{fr:List Nat}{cl:List (Str×Addr)}{fp:List Addr}{h₁:Heap}{tk:Nat}{m:Str→Option Value}
    (I:Inv X pins σ H s) (B:bQ X.env.scope scope X.N N k fr) (hf:∀b∈fp,mZ X pins H b) (hfo:∀b∈fp,b<s.heap.objs.size)
    (hcl:∀x c,cl.lookup x=some c→(x,NameKind.free)∈scope.names∧X.env.cells.lookup x=some c) (Dv:∀x,(x,NameKind.free)∈scope.names→∃c,cl.lookup x=some c)
    (hn:h₁.Ns (s.heap.objs.size+1) m) (hs:Heap.SameBut (s.heap.objs.size+1) ((s.heap.push {cls:=.type "list", data:=.seq ([]:List Value).toArray}).push {cls:=.type "dict", data:=.dict #[]}) h₁) :
    Inv (cH X scope N cl fp s H (s.heap.objs.size+1)) [] (blk k σ fr) (upd H s.heap.objs.size (.lst [])) {s with heap:=h₁,toks:=tk}:=by
  have I3:=I.Ot (ys:=[]) (its:=[]) (t':=tk) .nil (N2 _)
  have hD:H s.heap.objs.size=none:=I.fresh
  have hC:H (s.heap.objs.size+1)=none:=I.hok.fresh (N3 _)
  have Nf:∀b o,(s.heap.push {cls:=.type "list", data:=.seq ([]:List Value).toArray}).get? b=some o→b≠s.heap.objs.size+1:=λb o e=>by
    have:=Heap.lt_size e
    rw[Heap.size_push]at this
    exact C7 this
  have Hg:∀b o,(s.heap.push {cls:=.type "list", data:=.seq ([]:List Value).toArray}).get? b=some o→h₁.get? b=some o:=λb o e=>
    hs.extBut b o (Nf b o e) (Heap.get?_push_of_some _ e)
  have kept:∀b o,s.heap.get? b=some o→h₁.get? b=some o:=λb o e=>Hg b o (Heap.get?_push_of_some _ e)
  refine⟨⟨I.ok.mod,B.kind,I.ok.glob,I.ok.blt,N3 _,λx y c h1 h2=>I.ok.inj x y c (hcl x c h1).2 (hcl y c h2).2,λx hx=>Dv x (pM B.cell hx),λx c h _=>(nomatch h),
      I.ok.hd,I.ok.frames,.inl rfl,λb hb=>⟨?_,λx c e=>(hf b hb).2.2.2.2.1 x c (hcl x c e).2⟩,λb o e=>I.bs b o e,D7 I.ok.Gp I.sz,λb o e hb=>?_,λb hb hb2=>?_,I.stack,I.vC⟩,
    rfl,I.bare,Un.laid kept (B4 _) hD,⟨m,hn,λi x v h1 h2 h3=>?_⟩,λx c e=>?_,?_,λx c e=>?_,λp hp=>absurd (show p∈([]:List (Addr×Obj))from hp) (by simp),?_,?_⟩
  · exact C7 (J5 (hfo b hb))
  · rcases(hf b hb).2.2.2.1 with z | z
    · exact I.ok.yS b o e z
    · exact absurd (B0 (Heap.lt_size e) (D7 I.ok.Gp z)) (E3 _)
  · rcases C5.mp (I.pA b hb2)with z | z
    · exact(hf b hb).2.1 z
    · exact(hf b hb).2.2.1 z
  · obtain⟨j,o,rfl,h4,h5⟩:=Du h2
    have h1:N[k+j]?=some x:=h1
    have hj:j<fr.length:=(B6.mp h4).1
    have hx:X.N[o]?=some x:=by
      have q:=B.slots j (F0.mpr hj)
      rw[E8,h4]at q
      exact q.trans h1
    obtain⟨hfr,Vo⟩:=B.from_ x (G7 (i:=j) (by rw[List.getElem?_drop];exact h1))
    have hk:=B.free _ hfr rfl
    obtain⟨m0,hn0,hl0⟩:=I.loc
    have hv:Rc X.env.scope x:=by
      rcases hk with q | q
      · exact .inr (.inl q)
      · exact .inr (.inr q)
    obtain⟨u,r,l⟩:=hl0 o x v hx h5 hv
    refine⟨u,r,.inr ?_⟩
    rcases l with ⟨q,_⟩ | ⟨_,c,e,z⟩
    · rcases hk with q' | q'
      · exact absurd (q.symm.trans q') (by intro z;cases z)
      · exact absurd (q.symm.trans q') (by intro z;cases z)
    · obtain⟨c',e'⟩:=Dv x hfr
      have e2:=(hcl x c' e').2
      rw[e]at e2
      cases e2
      refine⟨Vo,c,e',?_⟩
      obtain⟨oc,hoc,hd⟩:=z
      exact⟨oc,kept c oc hoc,hd⟩
  · obtain⟨v,oc,hoc,hd⟩:=I.cell x c (hcl x c e).2
    exact⟨v,oc,kept c oc hoc,hd⟩
  · show upd H s.heap.objs.size (.lst []) (s.heap.objs.size+1)=none
    rw[aU (J9 (K0 _))]
    exact hC
  · have hc:=(hcl x c e).2
    obtain⟨v,oc,hoc,hd⟩:=I.cell x c hc
    show upd H s.heap.objs.size (.lst []) c=none
    rw[aU (C7 (Heap.lt_size hoc))]
    exact I.eQ x c hc
  · exact jT.kept I3.hok Hg
  · show (blk k σ fr).length=N.length
    rw[B.len]
    unfold blk tW
    simp
theorem zR{tg elt iter:Expr}{ifs:List Expr}{scope:Scope}{pos:Pos}{N:List Str}{k:Nat}{fr:List Nat}{g:TG}{tc:TT}{te:TE}{cl:List (Str×Addr)}{pins:List (Addr×Obj)}{σ:St}{H:Hp}{s:Shared}{it:Addr}{fp:List Addr}{tn:Nat→Heap→Prop}{J:It}{Q:VK}
    {RR:Value→Addr→Result→Shared→Prop} {E:Value→Shared→Prop} (hcalm:X.calm=true) (I:Inv X pins σ H s) (T:Turn X.prog X.w X.K tg J fp it tn) (st:tn 0 s.heap) (hf:∀b∈fp,mZ X pins H b) (B:bQ X.env.scope scope X.N N k fr)
    (hcl:∀x c,cl.lookup x=some c→(x,NameKind.free)∈scope.names∧X.env.cells.lookup x=some c) (Dv:∀x,(x,NameKind.free)∈scope.names→∃c,cl.lookup x=some c)
    (hg:∀cl fp s H C,PG (cH X scope N cl fp s H C) tg g) (hc:∀cl fp s H C,Ov (cH X scope N cl fp s H C) ifs tc) (he:∀cl fp s H C,PE (cH X scope N cl fp s H C) elt te)
    (hw:∀D,H D=none→Hf J k fr g tc te σ H Q D)
    (hRR:∀D C m s' H',s'.heap.Ns C m→s.heap.objs.size≤C→H' C=none→C≠D→Inv X pins σ H' s'→Q (.ref D) H'→RR (.ref D) C (.ok .next) s') :
    wpAny (model X.prog X.w) X.A (newList []) (λacc s₃=>wpAny (model X.prog X.w) X.A (newFunctionEnv scope X.env.globals cl [] X.env.qual none .none (some X.env)) (λcenv s₄=>
      codeAny (model X.prog X.w) X.A (.compStart (.ListComp elt [⟨tg,iter,ifs,0⟩] scope pos) 0 (.ref it) acc {cenv with scope:=relabel scope X.env}) (RR acc cenv.locals) s₄) E s₃) E s:=by
  refine wpAny_newObj_type (wpAny_newFunctionEnv B.cell (by intro y hy;simp at hy) (λh₁ hns₁ hsb₁=>?_) B.kind)
  dsimp only at hns₁ hsb₁ ⊢
  rw[Heap.size_push]at hns₁ hsb₁ ⊢
  have hfo:∀b∈fp,b<s.heap.objs.size:=λb hb=>by
    obtain⟨o,e,_⟩:=T.obj 0 _ st b hb
    exact Heap.lt_size e
  have I4:=tX (tk:=s.toks+([]:List (Str×Value)).length) I B hf hfo hcl Dv hns₁ hsb₁
  generalize hD:s.heap.objs.size=D at *
  have Vp:H D=none:=by rw[←hD];exact I.fresh
  obtain⟨W,⟨m0,w0⟩,turn⟩:=hw D Vp
  have st1:tn 0 h₁:=T.keep 0 _ _ st λb hb o e=>hsb₁.extBut b o (C7 (J5 (by have:=hfo b hb;exact this))) (Heap.get?_push_of_some _ (Heap.get?_push_of_some _ e))
  have Vq:∀b∈fp,(upd H D (.lst [])) b=none:=λb hb=>by
    rw[aU (C7 (hfo b hb))]
    exact(hf b hb).1
  generalize hX':cH X scope N cl fp s H (D+1)=X' at I4
  have stat:∀{H':Hp},(∀b∈fp,H' b=none)→∀b∈fp,mZ X' [] H' b:=λ{H'} hn b hb=>by
    subst hX'
    refine⟨hn b hb,?_,λz=>?_,.inl hb,λx c e=>(hf b hb).2.2.2.2.1 x c (hcl x c e).2,λp hp=>absurd (show p∈([]:List (Addr×Obj))from hp) (by simp)⟩
    · exact C7 (J5 (hfo b hb))
    · rcases C5.mp (I.pA b z)with z | z
      · exact(hf b hb).2.1 z
      · exact(hf b hb).2.2.1 z
  have loop:∀s₃:Shared,s₃={s with heap:=h₁,toks:=s.toks+([]:List (Str×Value)).length} →
      codeAny (model X.prog X.w) X.A (.compLoop (.ListComp elt [⟨tg,iter,ifs,0⟩] scope pos) 0 (.ref it) (.ref D) (compEnvC scope cl (D+1) X.env)) (RR (.ref D) (D+1)) s₃:=by
    rintro s₃ rfl
    refine fU (λn s'=>∃i ys H',Inv X' [] (blk k σ fr) H' s'∧tn i s'.heap∧(∀b∈fp,H' b=none)∧W i n ys H') ?_ m0 ⟨0,[],_,I4,st1,Vq,w0⟩
    rintro n s5 ⟨i,ys,H5,I5,st5,fr5,w5⟩
    obtain⟨hys,way⟩:=turn i n ys H5 w5
    have e1:X'.prog=X.prog:=by rw[←hX'];rfl
    have e2:X'.w=X.w:=by rw[←hX'];rfl
    have e3:X'.K=X.K:=by rw[←hX'];rfl
    have e4:X'.A=X.A:=by rw[←hX'];rfl
    have e5:X'.calm=true:=by rw[←hX'];exact hcalm
    have e6:X'.env=compEnvC scope cl (D+1) X.env:=by rw[←hX'];rfl
    have e7:X'.xe=λ_ _=>False:=by rw[←hX'];rfl
    rcases way with ⟨stop,q⟩ | ⟨go,step⟩
    · have d:=T.done X' e1 e2 e3 e5 i [] s5 _ H5 (λ_ _=>False) I5 (stat fr5) st5 stop
      rw[e4]at d
      refine bY d λr s6 ⟨hr,I6⟩=>?_
      subst hr
      subst hX'
      obtain⟨m6,Vr,_⟩:=I6.loc
      refine hRR D (D+1) m6 s6 H5 Vr (N3 _) I6.free (J9 (K0 _)) ?_ q
      exact I.call' I6.os I6.base I6.hok I6.bare λb hb=>⟨(hf b hb).2.2.2.1,(hf b hb).2.1,(hf b hb).2.2.2.2.1,(hf b hb).2.2.2.2.2⟩
    · have d:=T.item X' e1 e2 e3 e5 i [] s5 _ H5 (λ_ _=>False) I5 (stat fr5) st5 go
      rw[e4]at d
      refine bY d λr s6 ⟨u,hr,h6⟩=>?_
      subst hr
      refine bY h6 λ_ s7 ⟨x,H7,I7,r7,y7,st7,fr7⟩=>?_
      have Vs:=I7.pinned (stat fr7) (T.obj _ _ st7)
      have hg':PG X' tg g:=by rw[←hX'];exact hg _ _ _ _ _
      have hc':Ov X' ifs tc:=by rw[←hX'];exact hc _ _ _ _ _
      have he':PE X' elt te:=by rw[←hX'];exact he _ _ _ _ _
      have a1:=hg' _ s7 _ H7 x u _ Vs r7 (step x H7 y7)
      rw[e1,e2,e4,e6,e7]at a1
      refine bY a1 λ_ s8 ⟨σ8,H8,I8,⟨kl,kk⟩,q8⟩=>?_
      have a2:=hc' _ s8 σ8 H8 _ I8 q8
      rw[e1,e2,e4,e6,e7]at a2
      refine bY a2 λok s9 ⟨H9,I9,q9⟩=>?_
      have again:∀{Ha:Hp} {ya:List V} {sa:Shared},Inv X' ([]++lA fp s7.heap) σ8 Ha sa→(∃m',m'<n∧W (i+1) m' ya Ha) →
          ∃m,m<n∧∃i ys H',Inv X' [] (blk k σ fr) H' sa∧tn i sa.heap∧(∀b∈fp,H' b=none)∧W i m ys H':=λ{Ha ya sa} Ia ⟨m',hm,w'⟩=>by
        refine⟨m',hm,i+1,ya,Ha,(Ia.weak kl.symm kk).gO,T.keep _ _ _ st7 λb hb o e=>(Ia.pin (b,o) (B8 _ (B8 _ (dW hb e)))).1,λb hb=>?_,w'⟩
        obtain⟨o,e,d⟩:=T.obj _ _ st7 b hb
        exact(Ia.pin (b,o) (B8 _ (B8 _ (dW hb e)))).2.1
      cases ok with
      | false=>exact again I9 q9
      | true=>
        have a3:=he' _ s9 σ8 H9 _ I9 q9
        rw[e1,e2,e4,e6,e7]at a3
        show wpAny _ _ _ _ _ s9
        refine bY a3 λv Vt ⟨y,H10,I10,r10,hD10,hz,q10⟩=>?_
        have a4:=nT (X:=X') _ Vt σ8 H10 (.ref D) [y] (.ref D) [v] (λ_ Uu=>Uu=upd H10 D (.lst (ys++[y]))) I10 rfl (.cons r10 .nil) ⟨D,ys,y,rfl,rfl,hD10,hz,rfl⟩
        rw[e1,e2,e4,e7]at a4
        refine bY a4 λ_ Ws ⟨_,Uu,I11,_,e11⟩=>?_
        subst e11
        exact again I11 q10
  exact codeAny_compStart_list (loop _ rfl) (T.self _ 0 _ _ _ st1 (loop _ rfl))
theorem Dw{tg elt iter:Expr}{ifs:List Expr}{scope:Scope}{pos:Pos}{wi:TI}{g:TG}{tc:TT}{te:TE}(N:List Str)(k:Nat)(fr:List Nat)(hcalm:X.calm=true)(B:bQ X.env.scope scope X.N N k fr)(hi:PI X tg iter wi)
  (hg:∀cl fp s H C,PG (cH X scope N cl fp s H C) tg g) (hc:∀cl fp s H C,Ov (cH X scope N cl fp s H C) ifs tc) (he:∀cl fp s H C,PE (cH X scope N cl fp s H C) elt te)
  (hs:∀x,foldedSetIterable iter X.env x=pure x:=by intro _;rfl):PE X (.ListComp elt [⟨tg,iter,ifs,0⟩] scope pos) (zP wi k fr g tc te):=by
 intro pins s σ H Q I h
 obtain⟨cl,e,h1,h2⟩:=nC scope X.env λy hy hk=>I.ok.has y.1 (B.free y hy hk)
 rw[eval_ListComp]
 refine wpAny_comprehension_free (use:=none) rfl hs e B.kind B.loc (wpAny_mono (hi pins s σ H _ I h) (λxv s₁ q₁=>wpAny_mono q₁ (λitv s₂ q₂=>?_) λ_ _ x=>x) λ_ _ x=>x)
 obtain⟨it,fp,tn,J,H2,rfl,I2,T,st2,f2,hw⟩:=q₂
 refine zR (Q:=Q) (RR:=λacc C=>compPost (model X.prog X.w) X.A X.xe none (EP X pins σ Q) acc C) hcalm I2 T st2 f2 B h1 h2 hg hc he hw ?_
 intro D C m s' H' hn hC hf hne I' q
 refine⟨m,hn,λh' hs'=>⟨.ref D,H',?_,rfl,q⟩⟩
 exact I'.turned (t':=s'.toks) (λb o hb eb=>(hs'.2 b hb).trans eb) hf (J9 (B0 I2.lt hC)) (.inr (D7 I2.sz hC)) (λx c ec z=>by
  obtain⟨v,q⟩:=I2.cell x c ec
  exact absurd (B0 q.lt (by rw[z];exact hC)) (E3 _)) λp hp z=>absurd (B0 (Heap.lt_size (I2.pin p hp).1) (by rw[z];exact hC)) (E3 _)
end
end L2


set_option maxHeartbeats 4000000
namespace L2
open PySem PySem.Spec PyProof.Rows
def Ju(J:It)(P:Hp→Prop)(xs:List V):Prop:=
 ∀i H,P H→(i<xs.length→J.go i H)∧(∀x H',J.Nx i H x H'→H'=H∧(i<xs.length→xs[i]?=some x))∧(xs.length≤i→J.stop i H)
theorem zT{K:aA}{a:Addr}{xs:List V}:Ju (Ry K a) (λH=>fW K H a xs) xs:=λi H hq=>
 ⟨λh=>⟨xs,xs[i],hq,by simp[h]⟩,λx H' ⟨e,y⟩=>⟨e,λ_=>y xs hq⟩,λh=>⟨xs,hq,h⟩⟩
theorem Dy{K:aA}{a:Addr}{xs:List V}:Ju (Rz K a) (λH=>jH K H a xs) xs:=λi H hq=>
 ⟨λh=>⟨xs,xs[i],hq,by simp[h]⟩,λx H' ⟨e,y⟩=>⟨e,λ_=>y xs hq⟩,λh=>⟨xs,hq,h⟩⟩
theorem xR{lo:Int}{n:Nat}:Ju (Rg lo n) (λ_=>True) ((D8 n).map λi:Nat=>V.int (lo+(i:Int))):=λi H _=>
 ⟨λh=>show i<n by simpa using h,λx H' ⟨e,y⟩=>⟨e,λh=>by
  have h:i<n:=by simpa using h
  subst y
  simp[h]⟩,λh=>show n≤i by simpa using h⟩
section
variable{X:Cx}
theorem Dz{scope:Scope}{N:List Str}{x:Str}{pos:Pos}(hN:N.Nodup)(hi:N[0]?=some x)(hx:(eV scope X.env.scope).names.lookup x=some .local) :
  ∀cl fp s H C,PG (cH X scope N cl fp s H C) (.Name x pos) (cR 0):=λ_ _ _ _ _=>pD hN hi (D4 hx) (D2 hx)
theorem vO{J:It}{P:Hp→Prop}{xs:List V}(hJ:Ju J P xs){g:TG}{tb:TS}{D:Ends}{σ:St}{H:Hp}(Pv:Nat→St→Hp→Prop)(h0:Pv 0 σ H)(hl:∀i σ H,i≤xs.length→Pv i σ H→P H)
  (hs:∀i x σ H,xs[i]?=some x→Pv i σ H→g x σ H λσ2 H2=>tb {D with nx:=Pv (i+1),ct:=Pv (i+1),bk:=D.nx} σ2 H2) (hd:∀σ H,Pv xs.length σ H→D.nx σ H) :
  ∃W:Nat→Nat→St→Hp→Prop,(∃m,W 0 m σ H)∧∀i m σ H,W i m σ H →
   (J.stop i H∧D.nx σ H)∨(J.go i H∧∃N:St→Hp→Prop,(∀σ' H',N σ' H'→∃m',m'<m∧W (i+1) m' σ' H')∧∀x H',J.Nx i H x H'→g x σ H' λσ2 H2=>tb {D with nx:=N,ct:=N,bk:=D.nx} σ2 H2):=by
 refine⟨λi m σ H=>m=xs.length-i∧i≤xs.length∧Pv i σ H,⟨xs.length,by simp,N2 _,h0⟩,?_⟩
 rintro i m σ H ⟨rfl,hi,p⟩
 obtain⟨j1,j2,j3⟩:=hJ i H (hl i σ H hi p)
 by_cases hlt:i<xs.length
 ·refine .inr ⟨j1 hlt,Pv (i+1),λσ' H' p'=>⟨xs.length-(i+1),by omega,rfl,hlt,p'⟩,λx H' y=>?_⟩
  obtain⟨e,ex⟩:=j2 x H' y
  subst e
  exact hs i x σ _ (ex hlt) p
 ·have e:i=xs.length:=by omega
  subst e
  exact .inl ⟨j3 (B4 _),hd σ H p⟩
end
end L2


namespace L2
open PySem PySem.Spec PyProof.Rows
section
variable{X:Cx}
theorem jJ:∀{bs:List Bool} {us:List Value},Vals (bs.map V.bl) us→us=bs.map Value.bool
 | [],us,r=>by rw[F4]at r;cases r;rfl
 | b::bs,us,r=>by
  rw[E7]at r
  cases r with
  | cons r1 r2=>
   cases(show _=Value.bool b from r1)
   rw[jJ r2]
   rfl
theorem tY(bs:List Bool):((D8 bs.length).all λi=>(bs[i]?).getD true)=bs.all id:=by
 rw[E6,K1,K1]
 constructor
 ·intro h b hb
  obtain⟨i,hi,rfl⟩:=List.getElem_of_mem hb
  have:=h i (F0.mpr hi)
  simpa[hi]using this
 ·intro h i hi
  have hi':=F0.mp hi
  simp only[B3 hi',N6]
  exact h _ (List.getElem_mem hi')
theorem Ea{s:Shared}{h':Heap}{o:Obj}(hk:∀b x,b∉[s.heap.objs.size]→(s.heap.push o).get? b=some x→h'.get? b=some x):∀b x,s.heap.get? b=some x→h'.get? b=some x:=
 λb x e=>hk b x (λhm=>by rw[F8.mp hm]at e;exact E3 _ (Heap.lt_size e)) (Heap.get?_push_of_some _ e)
theorem zU(hc:X.calm=true):cN X (.builtin "all") (λxs H Q=>∃(p:Addr)(bs:List Bool),xs=[.ref p]∧fW X.K H p (bs.map V.bl)∧Q (.bl (bs.all id)) H):=by
 intro pins s σ H xs us Q I r h
 obtain⟨p,bs,rfl,hq,q⟩:=h
 obtain⟨u,rfl,rx⟩:=vals1 r
 cases rx
 obtain⟨its,rv,pl,hz⟩:=I.list hq
 have hb:=jJ rv
 subst hb
 have hl:=pl.isList
 have hlt:p<s.heap.objs.size:=by obtain⟨_,e,_⟩:=hl;exact Heap.lt_size e
 refine call_all_walk (wpAny_pyIter_list hl ?_)
 refine⟨s.heap.objs.size,[s.heap.objs.size,p],[s.heap.objs.size],_,_,_,λi=>(bs[i]?).getD true,rfl,Walks.list (A:=X.A.in1) (I.ok.hd hc) _ p (C7 hlt) _,
  ⟨⟨_,Heap.get?_push_size _ rfl,rfl,rfl⟩,hl.push _⟩,λi v s' Q' E' hP hQ=>?_,λh' tk hk=>?_⟩
 ·have e:(bs.map Value.bool)[i]?=some v:=by simpa using hP
  rw[B9]at e
  cases e2:bs[i]? with
  | none=>rw[e2]at e;cases e
  | some b=>
   rw[e2]at e
   cases e
   simp only[e2,N6]at hQ
   exact wpAny_truthy_bool hQ
 ·have e:((D8 (bs.map Value.bool).toArray.size).all λi=>(bs[i]?).getD true)=bs.all id:=by
   rw[A9,D5];exact tY bs
  rw[e]
  exact⟨.bl _,H,I.kept (Ea hk),rfl,q⟩
end
inductive DV where
  | int (i:Int) | non | lst (ds:List DV) | tup (ds:List DV)
mutual
def Reads(K:aA)(H:Hp):DV→V→Prop
 | .int i,x=>x=.int i
 | .non,x=>x=.non
 | .lst ds,x=>∃a xs,x=.ref a∧fW K H a xs∧aO K H ds xs
 | .tup ds,x=>∃a xs,x=.ref a∧jH K H a xs∧aO K H ds xs
def aO(K:aA)(H:Hp):List DV→List V→Prop
 | [],xs=>xs=[]
 | d::ds,xs=>∃y ys,xs=y::ys∧Reads K H d y∧aO K H ds ys
end
mutual
def DV.depth:DV→Nat
 | .int _=>0
 | .non=>0
 | .lst ds=>aZ ds+1
 | .tup ds=>aZ ds+1
def aZ:List DV→Nat
 | []=>0
 | d::ds=>max d.depth (aZ ds)
end
theorem aO.length{K:aA}{H:Hp}:∀{ds:List DV} {xs:List V},aO K H ds xs→xs.length=ds.length
 | [],xs,h=>by
  unfold aO at h
  rw[h]
  rfl
 | d::ds,xs,h=>by
  unfold aO at h
  obtain⟨y,ys,rfl,_,h2⟩:=h
  simp[aO.length h2]
theorem aO.get{K:aA}{H:Hp}:∀{ds:List DV} {xs:List V} {i:Nat} {d:DV},aO K H ds xs→ds[i]?=some d→∃x,xs[i]?=some x∧Reads K H d x
 | [],xs,i,d,h,e=>by simp at e
 | d'::ds,xs,0,d,h,e=>by
  unfold aO at h
  obtain⟨y,ys,rfl,h1,_⟩:=h
  simp at e
  subst e
  exact⟨y,rfl,h1⟩
 | d'::ds,xs,i+1,d,h,e=>by
  unfold aO at h
  obtain⟨y,ys,rfl,_,h2⟩:=h
  obtain⟨x,e1,e2⟩:=aO.get h2 (by simpa using e)
  exact⟨x,by simpa using e1,e2⟩
theorem lF:∀{ds:List DV} {i:Nat} {d:DV},ds[i]?=some d→d.depth≤aZ ds
 | [],i,d,e=>by simp at e
 | d'::ds,0,d,e=>by
  simp at e
  subst e
  unfold aZ
  exact Nat.le_max_left _ _
 | d'::ds,i+1,d,e=>by
  have:=lF (ds:=ds) (i:=i) (d:=d) (by simpa using e)
  unfold aZ
  exact D7 this (Nat.le_max_right _ _)
theorem tZ(A:Around):A.in1.units=A.units+1:=rfl
section
open SeqAt
open Classical in
noncomputable def eX(d e:DV):Bool:=decide (d=e)
theorem gP{d e:DV}:eX d e=true↔d=e:=by unfold eX;simp
theorem eY(d:DV):eX d d=true:=gP.mpr rfl
theorem bA{d e:DV}(h:d≠e):eX d e=false:=by unfold eX;simp[h]
theorem Eb(a b:Int):eX (.int a) (.int b)=(a==b):=by
 by_cases h:a=b
 ·subst h;simp[eY]
 ·rw[bA (by simpa using h)];simp[h]
open Classical in
theorem bZ{ds es:List DV}(hl:ds.length=es.length):((D8 ds.length).all λi=>match ds[i]?,es[i]? with | some d,some e=>eX d e | _,_=>true)=decide (ds=es):=by
 rw[E6,K1,decide_eq_true_iff]
 constructor
 ·intro h
  apply List.ext_getElem hl
  intro i h1 h2
  have:=h i (F0.mpr h1)
  simp only[B3 h1,B3 h2]at this
  exact gP.mp this
 ·rintro rfl i hi
  have hi':=F0.mp hi
  simp only[B3 hi']
  exact eY _
variable{X:Cx}{pins:List (Addr×Obj)}{σ:St}{H:Hp}{s:Shared}
open Classical in
theorem vP(ds es:List DV):eX (.lst ds) (.lst es)=decide (ds=es):=by
 by_cases h:ds=es
 ·subst h;simp[eY]
 ·rw[bA (by intro z;cases z;exact h rfl)];simp[h]
open Classical in
theorem vQ(ds es:List DV):eX (.tup ds) (.tup es)=decide (ds=es):=by
 by_cases h:ds=es
 ·subst h;simp[eY]
 ·rw[bA (by intro z;cases z;exact h rfl)];simp[h]
theorem nW(I:Inv X pins σ H s):∀(n:Nat)(d e:DV)(x:V),d.depth≤n→Reads X.K H d x→Reads X.K H e x→d=e:=by
 have lists:∀(n:Nat),(∀(d e:DV)(x:V),d.depth≤n→Reads X.K H d x→Reads X.K H e x→d=e)→∀(ds es:List DV)(xs:List V),aZ ds≤n→aO X.K H ds xs→aO X.K H es xs→ds=es:=by
  intro n ih ds
  induction ds with
  | nil=>
   intro es xs _ h1 h2
   have l1:=h1.length
   have l2:=h2.length
   cases es with
   | nil=>rfl
   | cons _ _=>rw[l1]at l2;simp at l2
  | cons d ds ihl=>
   intro es xs hd h1 h2
   have hd1:d.depth≤n:=by unfold aZ at hd;omega
   have hd2:aZ ds≤n:=by unfold aZ at hd;omega
   unfold aO at h1
   obtain⟨y,ys,rfl,a1,a2⟩:=h1
   cases es with
   | nil=>have:=h2.length;simp at this
   | cons e es=>
    unfold aO at h2
    obtain⟨y',ys',q,b1,b2⟩:=h2
    cases q
    rw[ih d e y hd1 a1 b1,ihl es ys hd2 a2 b2]
 have kinds:∀{a:Addr} {xs ys:List V},fW X.K H a xs→jH X.K H a ys→False:=λ{a xs ys} h1 h2=>by
  obtain⟨_,_,p1,_⟩:=I.list h1
  obtain⟨_,_,p2,_⟩:=I.tuple h2
  exact ne_of_list_tuple p1.isList (show s.heap.IsTuple a _ from p2) rfl
 intro n
 induction n with
 | zero=>
  intro d e x hd h1 h2
  cases d with
  | int i=>
   unfold Reads at h1
   subst h1
   cases e with
   | int j=>unfold Reads at h2;cases h2;rfl
   | non=>unfold Reads at h2;cases h2
   | lst es=>unfold Reads at h2;obtain⟨_,_,q,_⟩:=h2;cases q
   | tup es=>unfold Reads at h2;obtain⟨_,_,q,_⟩:=h2;cases q
  | non=>
   unfold Reads at h1
   subst h1
   cases e with
   | non=>rfl
   | int j=>unfold Reads at h2;cases h2
   | lst es=>unfold Reads at h2;obtain⟨_,_,q,_⟩:=h2;cases q
   | tup es=>unfold Reads at h2;obtain⟨_,_,q,_⟩:=h2;cases q
  | lst ds=>unfold DV.depth at hd;omega
  | tup ds=>unfold DV.depth at hd;omega
 | succ n ih=>
  intro d e x hd h1 h2
  cases d with
  | int i=>
   unfold Reads at h1
   subst h1
   cases e with
   | int j=>unfold Reads at h2;cases h2;rfl
   | non=>unfold Reads at h2;cases h2
   | lst es=>unfold Reads at h2;obtain⟨_,_,q,_⟩:=h2;cases q
   | tup es=>unfold Reads at h2;obtain⟨_,_,q,_⟩:=h2;cases q
  | non=>
   unfold Reads at h1
   subst h1
   cases e with
   | non=>rfl
   | int j=>unfold Reads at h2;cases h2
   | lst es=>unfold Reads at h2;obtain⟨_,_,q,_⟩:=h2;cases q
   | tup es=>unfold Reads at h2;obtain⟨_,_,q,_⟩:=h2;cases q
  | lst ds=>
   unfold Reads at h1
   obtain⟨a,xs,rfl,hq,r⟩:=h1
   cases e with
   | int j=>unfold Reads at h2;cases h2
   | non=>unfold Reads at h2;cases h2
   | lst es=>
    unfold Reads at h2
    obtain⟨b,ys,q,hq2,r2⟩:=h2
    cases q
    have:=I.rC hq hq2
    subst this
    rw[lists n ih ds es xs (by unfold DV.depth at hd;omega) r r2]
   | tup es=>
    unfold Reads at h2
    obtain⟨b,ys,q,hq2,r2⟩:=h2
    cases q
    exact(kinds hq hq2).elim
  | tup ds=>
   unfold Reads at h1
   obtain⟨a,xs,rfl,hq,r⟩:=h1
   cases e with
   | int j=>unfold Reads at h2;cases h2
   | non=>unfold Reads at h2;cases h2
   | lst es=>
    unfold Reads at h2
    obtain⟨b,ys,q,hq2,r2⟩:=h2
    cases q
    exact(kinds hq2 hq).elim
   | tup es=>
    unfold Reads at h2
    obtain⟨b,ys,q,hq2,r2⟩:=h2
    cases q
    have:=I.nM hq hq2
    subst this
    rw[lists n ih ds es xs (by unfold DV.depth at hd;omega) r r2]
theorem zV(I:Inv X pins σ H s)(i:Int)(e:DV)(y:V)(u v:Value)(A:Around)(hu:A.units<cLine)(r2:Reads X.K H e y)(rx:RelV (.int i) u)(ry:RelV y v):RcAt A s u v (eX (.int i) e)∧EqAt A s u v (eX (.int i) e):=by
 obtain⟨t,rfl⟩:=rx
 cases e with
 | int j=>
  unfold Reads at r2
  subst r2
  obtain⟨t',rfl⟩:=ry
  rw[Eb]
  exact⟨RcAt.int_int _ _ _ _,EqAt.int_int _ _ _ _⟩
 | non=>
  unfold Reads at r2
  subst r2
  cases ry
  rw[bA (by intro z;cases z)]
  exact⟨RcAt.int_none _ _,EqAt.int_none _ _⟩
 | lst es=>
  unfold Reads at r2
  obtain⟨b,ys,rfl,hq,_⟩:=r2
  cases ry
  obtain⟨its,_,pl,_⟩:=I.list hq
  rw[bA (by intro z;cases z)]
  exact⟨RcAt.int_list _ _ pl.isList (hu),EqAt.int_list _ _ pl.isList (hu)⟩
 | tup es=>
  unfold Reads at r2
  obtain⟨b,ys,rfl,hq,_⟩:=r2
  cases ry
  obtain⟨its,_,pl,_⟩:=I.tuple hq
  rw[bA (by intro z;cases z)]
  exact⟨RcAt.int_tuple _ _ pl (hu),EqAt.int_tuple _ _ pl (hu)⟩
theorem zW(I:Inv X pins σ H s)(e:DV)(y:V)(u v:Value)(A:Around)(hu:A.units<cLine)(r2:Reads X.K H e y)(rx:RelV .non u)(ry:RelV y v):RcAt A s u v (eX .non e)∧EqAt A s u v (eX .non e):=by
 cases rx
 cases e with
 | non=>
  unfold Reads at r2
  subst r2
  cases ry
  rw[eY]
  exact⟨RcAt.none_none,EqAt.same _⟩
 | int j=>
  unfold Reads at r2
  subst r2
  obtain⟨t',rfl⟩:=ry
  rw[bA (by intro z;cases z)]
  exact⟨RcAt.none_int _ _,EqAt.none_int _ _⟩
 | lst es=>
  unfold Reads at r2
  obtain⟨b,ys,rfl,hq,_⟩:=r2
  cases ry
  obtain⟨its,_,pl,_⟩:=I.list hq
  rw[bA (by intro z;cases z)]
  exact⟨RcAt.none_list pl.isList hu,EqAt.none_list pl.isList hu⟩
 | tup es=>
  unfold Reads at r2
  obtain⟨b,ys,rfl,hq,_⟩:=r2
  cases ry
  obtain⟨its,_,pl,_⟩:=I.tuple hq
  rw[bA (by intro z;cases z)]
  exact⟨RcAt.none_tuple pl hu,EqAt.none_tuple pl hu⟩
theorem lG(I:Inv X pins σ H s):∀(n:Nat)(A:Around),(∀(d e:DV)(x y:V)(u v:Value)(A:Around),d.depth≤n→A.units+n<cLine→Reads X.K H d x→Reads X.K H e y→RelV x u→RelV y v→RcAt A s u v (eX d e)∧EqAt A s u v (eX d e)) →
  ∀(ds es:List DV)(xs ys:List V)(us vs:List Value),aZ ds≤n→A.units+(n+1)<cLine→aO X.K H ds xs→aO X.K H es ys→Vals xs us→Vals ys vs →
  ∀j (h1:j<us.toArray.size) (h2:j<vs.toArray.size),EqAt A.in1 s us.toArray[j] vs.toArray[j] (match ds[j]?,es[j]? with | some d,some e=>eX d e | _,_=>true):=by
 intro n A ih ds es xs ys us vs hd hu r1 r2 v1 v2 j h1 h2
 have l1:j<ds.length:=by rw[←r1.length,v1.length];simpa using h1
 have l2:j<es.length:=by rw[←r2.length,v2.length];simpa using h2
 obtain⟨x,ex,rx⟩:=r1.get (i:=j) (d:=ds[j]) (by simp)
 obtain⟨y,ey,ry⟩:=r2.get (i:=j) (d:=es[j]) (by simp)
 obtain⟨u,eu,ru⟩:=v1.get ex
 obtain⟨v,ev,rv⟩:=v2.get ey
 have e1:us.toArray[j]=u:=by
  rw[B6]at eu
  obtain⟨_,eu⟩:=eu
  simpa using eu
 have e2:vs.toArray[j]=v:=by
  rw[B6]at ev
  obtain⟨_,ev⟩:=ev
  simpa using ev
 rw[e1,e2]
 simp only[B3 l1,B3 l2]
 exact(ih _ _ x y u v A.in1 (D7 (lF (i:=j) (by simp)) hd) (by rw[tZ];omega) rx ry ru rv).2
theorem pN(I:Inv X pins σ H s):∀(n:Nat)(d e:DV)(x y:V)(u v:Value)(A:Around),d.depth≤n→A.units+n<cLine→Reads X.K H d x→Reads X.K H e y→RelV x u→RelV y v→RcAt A s u v (eX d e)∧EqAt A s u v (eX d e):=by
 have items:=lG I
 have seqs:∀(n:Nat)(A:Around),(∀(d e:DV)(x y:V)(u v:Value)(A:Around),d.depth≤n→A.units+n<cLine→Reads X.K H d x→Reads X.K H e y→RelV x u→RelV y v→RcAt A s u v (eX d e)∧EqAt A s u v (eX d e)) →
   ∀(d e:DV)(x y:V)(u v:Value),d.depth≤n+1→A.units+(n+1)<cLine→Reads X.K H d x→Reads X.K H e y→RelV x u→RelV y v→RcAt A s u v (eX d e)∧EqAt A s u v (eX d e):=by
  intro n A ih d e x y u v hd hu r1 r2 rx ry
  have of_same:∀{a b:Addr} {k:Bool},(a=b→k=true)→RcAt A s (.ref a) (.ref b) k→EqAt A s (.ref a) (.ref b) k:=λ{a b k} hk h=>by
   by_cases hab:a=b
   ·subst hab
    rw[hk rfl]
    exact EqAt.same _
   ·exact EqAt.of_refs hab h
  cases d with
  | int i=>
   unfold Reads at r1
   subst r1
   exact zV I i e y u v A (by omega) r2 rx ry
  | non=>
   unfold Reads at r1
   subst r1
   exact zW I e y u v A (by omega) r2 rx ry
  | lst ds=>
   unfold Reads at r1
   obtain⟨a,xs,rfl,hq1,xT⟩:=r1
   cases rx
   obtain⟨lH,v1,nD,_⟩:=I.list hq1
   have hd':aZ ds≤n:=by unfold DV.depth at hd;omega
   cases e with
   | int j=>
    unfold Reads at r2
    subst r2
    obtain⟨t',rfl⟩:=ry
    rw[bA (by intro z;cases z)]
    exact⟨RcAt.list_int _ _ nD.isList (by omega),EqAt.list_int _ _ nD.isList (by omega)⟩
   | non=>
    unfold Reads at r2
    subst r2
    cases ry
    rw[bA (by intro z;cases z)]
    exact⟨RcAt.list_none nD.isList (by omega),EqAt.list_none nD.isList (by omega)⟩
   | lst es=>
    unfold Reads at r2
    obtain⟨b,ys,rfl,hq2,uA⟩:=r2
    cases ry
    obtain⟨its2,v2,rK,_⟩:=I.list hq2
    have e1:lH.toArray.size=ds.length:=by rw[A9,←v1.length,xT.length]
    have e2:its2.toArray.size=es.length:=by rw[A9,←v2.length,uA.length]
    have rc:RcAt A s (.ref a) (.ref b) (eX (.lst ds) (.lst es)):=by
     by_cases hl:ds.length=es.length
     ·have q:=RcAt.lists (A:=A) (s:=s) nD.isList rK.isList (by rw[e1,e2];exact hl) (by omega) (items n A ih ds es xs ys lH its2 hd' hu xT uA v1 v2)
      rw[e1,bZ hl]at q
      rw[vP]
      exact q
     ·rw[bA (by intro z;cases z;exact hl rfl)]
      exact RcAt.lists_lengths nD.isList rK.isList (by rw[e1,e2];simpa using hl) (by omega)
    exact⟨rc,of_same (λhab=>by
     subst hab
     refine gP.mpr (nW I (n+1) _ _ (.ref a) hd ?_ ?_)
     ·unfold Reads
      exact⟨a,xs,rfl,hq1,xT⟩
     ·unfold Reads
      exact⟨a,ys,rfl,hq2,uA⟩) rc⟩
   | tup es=>
    unfold Reads at r2
    obtain⟨b,ys,rfl,hq2,uA⟩:=r2
    cases ry
    obtain⟨its2,v2,rK,_⟩:=I.tuple hq2
    rw[bA (by intro z;cases z)]
    exact⟨RcAt.list_tuple nD.isList rK (by omega),EqAt.list_tuple nD.isList rK (by omega)⟩
  | tup ds=>
   unfold Reads at r1
   obtain⟨a,xs,rfl,hq1,xT⟩:=r1
   cases rx
   obtain⟨lH,v1,nD,_⟩:=I.tuple hq1
   have hd':aZ ds≤n:=by unfold DV.depth at hd;omega
   cases e with
   | int j=>
    unfold Reads at r2
    subst r2
    obtain⟨t',rfl⟩:=ry
    rw[bA (by intro z;cases z)]
    exact⟨RcAt.tuple_int _ _ nD (by omega),EqAt.tuple_int _ _ nD (by omega)⟩
   | non=>
    unfold Reads at r2
    subst r2
    cases ry
    rw[bA (by intro z;cases z)]
    exact⟨RcAt.tuple_none nD (by omega),EqAt.tuple_none nD (by omega)⟩
   | lst es=>
    unfold Reads at r2
    obtain⟨b,ys,rfl,hq2,uA⟩:=r2
    cases ry
    obtain⟨its2,v2,rK,_⟩:=I.list hq2
    rw[bA (by intro z;cases z)]
    exact⟨RcAt.tuple_list nD rK.isList (by omega),EqAt.tuple_list nD rK.isList (by omega)⟩
   | tup es=>
    unfold Reads at r2
    obtain⟨b,ys,rfl,hq2,uA⟩:=r2
    cases ry
    obtain⟨its2,v2,rK,_⟩:=I.tuple hq2
    have e1:lH.toArray.size=ds.length:=by rw[A9,←v1.length,xT.length]
    have e2:its2.toArray.size=es.length:=by rw[A9,←v2.length,uA.length]
    have rc:RcAt A s (.ref a) (.ref b) (eX (.tup ds) (.tup es)):=by
     have q:=RcAt.tuples (A:=A) (s:=s) (l:=a) (b:=b) nD rK (by omega) (items n A ih ds es xs ys lH its2 hd' hu xT uA v1 v2)
     rw[e1,e2]at q
     by_cases hl:ds.length=es.length
     ·rw[←hl,Nat.min_self,bZ hl]at q
      rw[vQ]
      simpa using q
     ·rw[bA (by intro z;cases z;exact hl rfl)]
      have z:(ds.length==es.length)=false:=by simpa using hl
      rw[z,O5]at q
      exact q
    exact⟨rc,of_same (λhab=>by
     subst hab
     refine gP.mpr (nW I (n+1) _ _ (.ref a) hd ?_ ?_)
     ·unfold Reads
      exact⟨a,xs,rfl,hq1,xT⟩
     ·unfold Reads
      exact⟨a,ys,rfl,hq2,uA⟩) rc⟩
 intro n
 induction n with
 | zero=>
  intro d e x y u v A hd hu r1 r2 rx ry
  cases d with
  | int i=>
   unfold Reads at r1
   subst r1
   exact zV I i e y u v A (by omega) r2 rx ry
  | non=>
   unfold Reads at r1
   subst r1
   exact zW I e y u v A (by omega) r2 rx ry
  | lst ds=>unfold DV.depth at hd;omega
  | tup ds=>unfold DV.depth at hd;omega
 | succ n ih=>
  intro d e x y u v A hd hu r1 r2 rx ry
  exact seqs n A ih d e x y u v hd hu r1 r2 rx ry
end
section
variable{X:Cx}
def Jv(K:aA)(neg:Bool):R2:=λx y H Q=>∃d e,Reads K H d x∧Reads K H e y∧d.depth≤32∧Q (.bl (if neg then !eX d e else eX d e)) H
theorem Jw(hu:X.A.units+64<cLine):eH X (compareOp .Eq) (Jv X.K false):=by
 intro pins s σ H x y v u Q I rx ry h
 obtain⟨d,e,r1,r2,hd,q⟩:=h
 exact(pN I 32 d e x y v u X.A hd (by omega) r1 r2 rx ry).1 X.prog X.w X.xe _ ⟨.bl _,H,I,rfl,q⟩
open SeqAt in
theorem Jx(hu:X.A.units+64<cLine):eH X (compareOp .NotEq) (λx y H Q=>∃ds es,Reads X.K H (.lst ds) x∧Reads X.K H (.lst es) y∧aZ ds≤32∧Q (.bl (!eX (.lst ds) (.lst es))) H):=by
 intro pins s σ H x y v u Q I rx ry h
 obtain⟨ds,es,r1,r2,hd,q⟩:=h
 unfold Reads at r1 r2
 obtain⟨a,xs,rfl,hq1,xT⟩:=r1
 obtain⟨b,ys,rfl,hq2,uA⟩:=r2
 cases rx
 cases ry
 obtain⟨lH,v1,nD,_⟩:=I.list hq1
 obtain⟨its2,v2,rK,_⟩:=I.list hq2
 have e1:lH.toArray.size=ds.length:=by rw[A9,←v1.length,xT.length]
 have e2:its2.toArray.size=es.length:=by rw[A9,←v2.length,uA.length]
 have rc:RcNeAt X.A s (.ref a) (.ref b) (!eX (.lst ds) (.lst es)):=by
  by_cases hl:ds.length=es.length
  ·have z:=RcNeAt.lists (A:=X.A) (s:=s) nD.isList rK.isList (by rw[e1,e2];exact hl) (by omega) (lG I 32 X.A (λd e x y u v A a1 a2 a3 a4 a5 a6=>pN I 32 d e x y u v A a1 a2 a3 a4 a5 a6) ds es xs ys lH its2 hd (by omega) xT uA v1 v2)
   rw[e1,bZ hl]at z
   rw[vP]
   exact z
  ·rw[bA (by intro z;cases z;exact hl rfl)]
   exact RcNeAt.lists_lengths nD.isList rK.isList (by rw[e1,e2];simpa using hl) (by omega)
 exact rc X.prog X.w X.xe _ ⟨.bl _,H,I,rfl,q⟩
end
end L2


namespace L2
open PySem PySem.Spec PyProof.Rows
structure Raw(K:aA)(mg:Str→Option Value)(x:Str)(st:Stmt):Prop where
 ex:∃f fd,Cq K x x st f fd∧mg x=some (.ref f)
theorem Jy{K:aA}{h:Heap}{mg:Str→Option Value}{x:Str}{st:Stmt}{f:Addr}{oc:Value}{od an:Option Addr}{osl:Array (Option Value)}{kV doc pm cdv ct:Value}(X:K.In h)(G:h.Ns mainGlobals mg)
  (a:K2 K mainGlobals x=some (some (.ref f))) (l:K.lookup f=some ⟨oc,od,.func (C9 x x (bJ st) (aW st) (aC st) .none kV doc pm an cdv ct),osl⟩)
  (c:F2 K cdv x=true) (k:E2 K (.ref f)=true):Raw K mg x st:=⟨⟨f,_,Jt l c k,M3 X G a⟩⟩
structure tL(P:Program)(w:World)(K:aA)(mg:Str→Option Value)(base:Heap)(x:Str)(k:Nat)(n:Nat)(sp:Sp):Prop where
 ex:∃f fd ps,ps.length=n∧lC P w K mg base yP k f fd ps sp∧Binds K fd ps []∧E2 K (.ref f)=true∧mg x=some (.ref f)
theorem Raw.cal{P:Program}{w:World}{K:aA}{mg:Str→Option Value}{base:Heap}{x:Str}{st:Stmt}{N ps:List Str}{k:Nat}{sp:Sp}(R:Raw K mg x st)(S:bI N ps (aC st))(len:∀vs H Q E,sp vs H Q E→vs.length=ps.length)
  (hb:∀(kV doc pm:Value)(an:Option Addr)(cdv ct:Value)(us:List Value),us.length=ps.length→bindArgs (C9 x x (bJ st) (aW st) (aC st) .none kV doc pm an cdv ct) ⟨us,[]⟩=pure (ps.zip us))
  (hbody:∀(f:Addr)(cdv:Value)(A:Around)(outer:List Env)(s:Shared)(H:Hp)(vs:List V)(Q:VK)(E:XK),cT k (A.deeper (envOfC x (aC st) s.heap.objs.size f cdv))→sp vs H Q E →
   ∃t,tM (pH yP P w K mg base N x (aC st) f cdv A outer s H E).Ir (aW st) t∧t {nx:=λ_ H'=>Q .non H',rt:=Q} (start N vs) H):tL P w K mg base x (k+1) ps.length sp:=by
 obtain⟨f,fd,F,m⟩:=R.ex
 exact⟨f,fd,ps,rfl,F.ok S len λcdv A outer s H vs Q E hr h=>hbody f cdv A outer s H vs Q E hr h,F.binds hb,F.kp,m⟩
theorem Jz{X:Cx}{x:Str}{k n:Nat}{sp:Sp}{e:Expr}{es:List Expr}{p pos:Pos}{t:TA}(C:tL X.prog X.w X.K X.mg X.base x k n sp)(hr:cT k X.A)(hg:Gl X x)
  (ha:PA X (e::es) t) (hdb:(x==("__debug__" : Str))=false:=by decide) (he:starEach (e::es) X.env=(false,eval e X.env)::starEach es X.env:=by rfl) (hpl:(backTo pos (starEach es X.env)).any (·.1)=false:=by rfl) :
  PE X (.Call (.Name x p) (e::es) [] pos) (rG sp [] E0 t):=by
 obtain⟨f,fd,ps,_,F,hb,hk,hm⟩:=C.ex
 exact Dm F hr hg hm hk hb .nil Ou ha hdb he hpl
theorem call_of{sp:Sp}{E:XK}{t:TA}{σ:St}{H:Hp}{Q:VK}(h:t σ H λvs H1=>sp vs H1 Q E):rG sp [] E t σ H Q:=by
 unfold rG
 have e:(λ(vs:List V) (H1:Hp)=>sp (vs++[]) H1 Q E)=λvs H1=>sp vs H1 Q E:=by funext vs H1;rw[K8]
 rw[e]
 exact h
theorem gQ{H:Hp}{p:Addr}(h:H p=none)(o:HO):aB H (upd H p o):=λb u q=>by rw[aU (bN q h)];exact q
theorem aB.tup{K:aA}{H H':Hp}{a:Addr}{xs:List V}(e:aB H H')(h:jH K H a xs):jH K H' a xs:=by
 rcases h with (h | ⟨o,h⟩) | h
 ·exact .inl (.inl (e _ _ h))
 ·exact .inl (.inr ⟨o,e _ _ h⟩)
 ·exact .inr h
mutual
theorem aB.reads{K:aA}{H H':Hp}(e:aB H H'):∀(d:DV)(x:V),Reads K H d x→Reads K H' d x
 | .int i,x,h=>by unfold Reads at h ⊢;exact h
 | .non,x,h=>by unfold Reads at h ⊢;exact h
 | .lst ds,x,h=>by
  unfold Reads at h ⊢
  obtain⟨a,xs,r,hq,l⟩:=h
  exact⟨a,xs,r,e.seq hq,aB.uB e ds xs l⟩
 | .tup ds,x,h=>by
  unfold Reads at h ⊢
  obtain⟨a,xs,r,hq,l⟩:=h
  exact⟨a,xs,r,e.tup hq,aB.uB e ds xs l⟩
theorem aB.uB{K:aA}{H H':Hp}(e:aB H H'):∀(ds:List DV)(xs:List V),aO K H ds xs→aO K H' ds xs
 | [],xs,h=>by unfold aO at h ⊢;exact h
 | d::ds,xs,h=>by
  unfold aO at h ⊢
  obtain⟨y,ys,r,h1,h2⟩:=h
  exact⟨y,ys,r,aB.reads e d y h1,aB.uB e ds ys h2⟩
end
end L2
namespace L2
theorem bQ.at{scope:PySem.Scope}{N:List PySem.Str}{k:Nat}{fr:List Nat}(qY:PySem.Scope)(oN:List PySem.Str)(h:zQ qY scope oN N k fr=true):bQ qY scope oN N k fr:=bQ.of h
end L2
namespace L2
open PySem PySem.Spec PyProof.Rows
def gR(H:Hp)(p:Addr):Prop:=(∀xs,H p≠some (.tup xs))∧∀o xs,H p≠some (.jG o (.tup xs))
theorem fO{H:Hp}{p:Addr}{xs:List V}(h:H p=some (.lst xs)):gR H p:=⟨λys e=>(by rw[h]at e;cases e),λo ys e=>(by rw[h]at e;cases e)⟩
theorem zX{H:Hp}{p:Addr}{kvs:List (Key×V)}(h:H p=some (.dK kvs)):gR H p:=⟨λys e=>(by rw[h]at e;cases e),λo ys e=>(by rw[h]at e;cases e)⟩
theorem jH.upd{K:aA}{H:Hp}{a p:Addr}{xs:List V}{o:HO}(h:jH K H a xs)(n:gR H p):jH K (upd H p o) a xs:=by
 rcases h with (h | ⟨u,h⟩) | h
 ·exact .inl (.inl (by rw[aU (λz=>n.1 xs (by rw[←z];exact h))];exact h))
 ·exact .inl (.inr ⟨u,by rw[aU (λz=>n.2 u xs (by rw[←z];exact h))];exact h⟩)
 ·exact .inr h
mutual
def cD:DV→Bool
 | .int _=>true
 | .non=>true
 | .lst _=>false
 | .tup ds=>gU ds
def gU:List DV→Bool
 | []=>true
 | d::ds=>cD d&&gU ds
end
mutual
theorem xU{K:aA}{H:Hp}{p:Addr}{o:HO}(n:gR H p):∀(d:DV)(x:V),cD d=true→Reads K H d x→Reads K (upd H p o) d x
 | .int i,x,_,h=>by unfold Reads at h ⊢;exact h
 | .non,x,_,h=>by unfold Reads at h ⊢;exact h
 | .lst ds,x,hi,h=>by unfold cD at hi;cases hi
 | .tup ds,x,hi,h=>by
  unfold cD at hi
  unfold Reads at h ⊢
  obtain⟨a,xs,r,hq,l⟩:=h
  exact⟨a,xs,r,hq.upd n,lJ n ds xs hi l⟩
theorem lJ{K:aA}{H:Hp}{p:Addr}{o:HO}(n:gR H p):∀(ds:List DV)(xs:List V),gU ds=true→aO K H ds xs→aO K (upd H p o) ds xs
 | [],xs,_,h=>by unfold aO at h ⊢;exact h
 | d::ds,xs,hi,h=>by
  unfold gU at hi
  rw[G2]at hi
  unfold aO at h ⊢
  obtain⟨y,ys,r,h1,h2⟩:=h
  exact⟨y,ys,r,xU n d y hi.1 h1,lJ n ds ys hi.2 h2⟩
end
end L2
namespace L2
open PySem PySem.Spec PyProof.Rows
section
variable{X:Cx}
end
end L2
namespace L2
open PySem PySem.Spec PyProof.Rows
end L2
namespace L2
open PySem PySem.Spec PyProof.Rows
section
variable{X:Cx}
end
theorem rM{K:aA}:B7 K (.type "int") (.type "int")=some true:=by unfold B7;rfl
theorem nF{K:aA}:B7 K (.type "bool") (.type "bool")=some true:=by unfold B7;rfl
theorem nG{K:aA}:B7 K (.type "list") (.type "list")=some true:=by unfold B7;rfl
theorem jX{K:aA}:B7 K (.type "tuple") (.type "tuple")=some true:=by unfold B7;rfl
theorem pO{K:aA}:B7 K (.type "int") (.type "bool")=some false:=by
  first | rfl | decide | (unfold B7 O6;rfl) | (unfold B7 O6;simp;decide)
end L2


namespace L2
open PySem PySem.Spec PyProof.Rows
section
variable{X:Cx}
open SeqAt in
theorem Ka(hu:X.A.units+64<cLine):eH X (compareOp .NotEq) (λx y H Q=>∃ds es,Reads X.K H (.tup ds) x∧Reads X.K H (.tup es) y∧aZ ds≤32∧Q (.bl (!eX (.tup ds) (.tup es))) H):=by
 intro pins s σ H x y v u Q I rx ry h
 obtain⟨ds,es,r1,r2,hd,q⟩:=h
 unfold Reads at r1 r2
 obtain⟨a,xs,rfl,hq1,xT⟩:=r1
 obtain⟨b,ys,rfl,hq2,uA⟩:=r2
 cases rx
 cases ry
 obtain⟨lH,v1,nD,_⟩:=I.tuple hq1
 obtain⟨its2,v2,rK,_⟩:=I.tuple hq2
 have e1:lH.toArray.size=ds.length:=by rw[A9,←v1.length,xT.length]
 have e2:its2.toArray.size=es.length:=by rw[A9,←v2.length,uA.length]
 have rc:RcNeAt X.A s (.ref a) (.ref b) (!eX (.tup ds) (.tup es)):=by
  have z:=RcNeAt.tuples (A:=X.A) (s:=s) (l:=a) (b:=b) nD rK (by omega) (lG I 32 X.A (λd e x y u v A a1 a2 a3 a4 a5 a6=>pN I 32 d e x y u v A a1 a2 a3 a4 a5 a6) ds es xs ys lH its2 hd (by omega) xT uA v1 v2)
  rw[e1,e2]at z
  by_cases hl:ds.length=es.length
  ·rw[←hl,Nat.min_self,bZ hl]at z
   rw[vQ]
   simpa using z
  ·rw[bA (by intro z;cases z;exact hl rfl)]
   have zz:(ds.length==es.length)=false:=by simpa using hl
   rw[zz,O5]at z
   exact z
 exact rc X.prog X.w X.xe _ ⟨.bl _,H,I,rfl,q⟩
end
end L2


namespace L2
open PySem PySem.Spec PyProof.Rows
inductive D where
  | non | bl (b:Bool) | int (i:Int) | str (x:Str)
  | lst (ds:List D) | tup (ds:List D)
  | dk (ks:List Key) (ds:List D)
  | dt (ks:List (List Key)) (ds:List D)
  | ins (C:Addr) (nm:List Str) (ds:List D)
abbrev Fp:=Addr→Prop
def Apart(A B:Fp):Prop:=∀x,A x→¬B x
def Is(A B:Fp):Prop:=∀x,A x↔B x
def None(A:Fp):Prop:=∀x,¬A x
abbrev cF(A B:Fp):Fp:=λx=>A x∨B x
mutual
def Rv(K:aA)(H:Hp):D→V→Prop
 | .non,v=>v=.non
 | .bl b,v=>v=.bl b
 | .int i,v=>v=.int i
 | .str x,v=>v=.str x
 | .lst ds,v=>∃a xs,v=.ref a∧fW K H a xs∧bB K H ds xs
 | .tup ds,v=>∃a xs,v=.ref a∧jH K H a xs∧bB K H ds xs
 | .dk ks ds,v=>∃a xs,v=.ref a∧Rd H a (.dK (ks.zip xs))∧ks.length=xs.length∧bB K H ds xs
 | .dt ks ds,v=>∃a xs,v=.ref a∧Rd H a (.dT (ks.zip xs))∧ks.length=xs.length∧bB K H ds xs
 | .ins C nm ds,v=>∃a dx xs,v=.ref a∧H a=some (.ins C dx (nm.zip xs))∧nm.length=xs.length∧bB K H ds xs
def bB(K:aA)(H:Hp):List D→List V→Prop
 | [],xs=>xs=[]
 | d::ds,xs=>∃y ys,xs=y::ys∧Rv K H d y∧bB K H ds ys
end
theorem aB.rd{H H':Hp}(e:aB H H'){a:Addr}{u:HO}(h:Rd H a u):Rd H' a u:=by
 rcases h with h | ⟨o,h⟩
 ·exact .inl (e _ _ h)
 ·exact .inr ⟨o,e _ _ h⟩
mutual
theorem aB.rv{K:aA}{H H':Hp}(e:aB H H'):∀(d:D)(v:V),Rv K H d v→Rv K H' d v
 | .non,v,h=>by unfold Rv at h ⊢;exact h
 | .bl _,v,h=>by unfold Rv at h ⊢;exact h
 | .int _,v,h=>by unfold Rv at h ⊢;exact h
 | .str _,v,h=>by unfold Rv at h ⊢;exact h
 | .lst ds,v,h=>by unfold Rv at h ⊢;obtain⟨a,xs,r,hq,l⟩:=h;exact⟨a,xs,r,e.seq hq,aB.Ec e ds xs l⟩
 | .tup ds,v,h=>by unfold Rv at h ⊢;obtain⟨a,xs,r,hq,l⟩:=h;exact⟨a,xs,r,e.tup hq,aB.Ec e ds xs l⟩
 | .dk ks ds,v,h=>by unfold Rv at h ⊢;obtain⟨a,xs,r,hq,hl,l⟩:=h;exact⟨a,xs,r,e.rd hq,hl,aB.Ec e ds xs l⟩
 | .dt ks ds,v,h=>by unfold Rv at h ⊢;obtain⟨a,xs,r,hq,hl,l⟩:=h;exact⟨a,xs,r,e.rd hq,hl,aB.Ec e ds xs l⟩
 | .ins C nm ds,v,h=>by unfold Rv at h ⊢;obtain⟨a,dx,xs,r,hq,hl,l⟩:=h;exact⟨a,dx,xs,r,e _ _ hq,hl,aB.Ec e ds xs l⟩
theorem aB.Ec{K:aA}{H H':Hp}(e:aB H H'):∀(ds:List D)(xs:List V),bB K H ds xs→bB K H' ds xs
 | [],xs,h=>by unfold bB at h ⊢;exact h
 | d::ds,xs,h=>by unfold bB at h ⊢;obtain⟨y,ys,r,h1,h2⟩:=h;exact⟨y,ys,r,aB.rv e d y h1,aB.Ec e ds ys h2⟩
end
theorem bB.length{K:aA}{H:Hp}:∀{ds:List D} {xs:List V},bB K H ds xs→xs.length=ds.length
 | [],xs,h=>by unfold bB at h;subst h;rfl
 | d::ds,xs,h=>by unfold bB at h;obtain⟨y,ys,rfl,_,h2⟩:=h;rw[D9,D9,bB.length h2]
theorem bB.get{K:aA}{H:Hp}:∀{ds:List D} {xs:List V} {i:Nat} {d:D},bB K H ds xs→ds[i]?=some d→∃x,xs[i]?=some x∧Rv K H d x
 | [],xs,i,d,h,e=>by simp at e
 | d'::ds,xs,0,d,h,e=>by unfold bB at h;obtain⟨y,ys,rfl,h1,_⟩:=h;simp at e;subst e;exact⟨y,rfl,h1⟩
 | d'::ds,xs,i+1,d,h,e=>by
  unfold bB at h
  obtain⟨y,ys,rfl,_,h2⟩:=h
  obtain⟨x,e1,e2⟩:=bB.get (i:=i) (d:=d) h2 (by simpa using e)
  exact⟨x,by simpa using e1,e2⟩
theorem bB.of{K:aA}{H:Hp}:∀{ds:List D} {xs:List V},xs.length=ds.length→(∀(i:Nat)(d:D)(x:V),ds[i]?=some d→xs[i]?=some x→Rv K H d x)→bB K H ds xs
 | [],xs,hl,_=>by unfold bB;exact List.eq_nil_of_length_eq_zero hl
 | d::ds,[],hl,_=>by simp at hl
 | d::ds,x::xs,hl,h=>by
  unfold bB
  exact⟨x,xs,rfl,h 0 d x rfl rfl,bB.of (by simpa using hl) λi e y h1 h2=>h (i+1) e y (by simpa using h1) (by simpa using h2)⟩
def bR{α β:Type}(R:α→Fp→β→Prop):List α→Fp→List β→Prop
 | [],A,ys=>None A∧ys=[]
 | d::ds,A,ys=>∃y yt A1 A2,ys=y::yt∧Apart A1 A2∧Is A (cF A1 A2)∧R d A1 y∧bR R ds A2 yt
section
variable{α β:Type}{R R':α→Fp→β→Prop}
theorem bR.congr:∀{ds:List α} {A A':Fp} {ys:List β},bR R ds A ys→Is A A'→bR R ds A' ys
 | [],A,A',ys,h,e=>⟨λx q=>h.1 x ((e x).mpr q),h.2⟩
 | d::ds,A,A',ys,⟨y,yt,A1,A2,h1,h2,h3,h4⟩,e=>⟨y,yt,A1,A2,h1,h2,λx=>((e x).symm).trans (h3 x),h4⟩
theorem bR.mono:∀{ds:List α} {A:Fp} {ys:List β},bR R ds A ys→(∀e B z,(∀x,B x→A x)→R e B z→R' e B z)→bR R' ds A ys
 | [],A,ys,h,_=>h
 | d::ds,A,ys,⟨y,yt,A1,A2,h1,h2,h3,h4,h5⟩,m=>
  ⟨y,yt,A1,A2,h1,h2,h3,m _ _ _ (λx q=>(h3 x).mpr (.inl q)) h4,h5.mono λe B z hb=>m e B z λx q=>(h3 x).mpr (.inr (hb x q))⟩
theorem bR.focus:∀{ds:List α} {A:Fp} {ys:List β} {i:Nat} {d:α},bR R ds A ys→ds[i]?=some d→∃y A1 C,ys[i]?=some y∧Apart A1 C∧Is A (cF A1 C)∧R d A1 y ∧
    ∀(R':α→Fp→β→Prop),(∀e B z,(∀x,B x→C x)→R e B z→R' e B z)→∀d' y' Cr,Apart Cr C→R' d' Cr y'→bR R' (ds.set i d') (cF Cr C) (ys.set i y')
  | [],A,ys,i,d,h,e=>by simp at e
  | d0::ds,A,ys,0,d,⟨y,yt,A1,A2,h1,h2,h3,h4,h5⟩,e=>by
    simp at e
    subst e h1
    exact⟨y,A1,A2,rfl,h2,h3,h4,λR' m d' y' Cr ap r=>⟨y',yt,Cr,A2,rfl,ap,λx=>Iff.rfl,r,h5.mono m⟩⟩
  | d0::ds,A,ys,i+1,d,⟨y,yt,A1,A2,h1,h2,h3,h4,h5⟩,e=>by
    subst h1
    obtain⟨z,B1,C,e1,ap,hA,r,k⟩:=bR.focus (i:=i) (d:=d) h5 (by simpa using e)
    refine⟨z,B1,cF A1 C,by simpa using e1,?_,?_,r,λR' m d' y' Cr ap' r'=>?_⟩
    · intro x hx hc
      rcases hc with hc | hc
      · exact h2 x hc ((hA x).mpr (.inl hx))
      · exact ap x hx hc
    · intro x
      rw[h3 x]
      constructor
      · rintro(q | q)
        · exact .inr (.inl q)
        · rcases(hA x).mp q with q | q
          · exact .inl q
          · exact .inr (.inr q)
      · rintro(q | q | q)
        · exact .inr ((hA x).mpr (.inl q))
        · exact .inl q
        · exact .inr ((hA x).mpr (.inr q))
    · refine⟨y,_,A1,cF Cr C,rfl,?_,?_,m _ _ _ (λx q=>.inl q) h4,k R' (λe B z hb=>m e B z λx q=>.inr (hb x q)) d' y' Cr (λx q q'=>ap' x q (.inr q')) r'⟩
      · intro x q q'
        rcases q' with q' | q'
        · exact ap' x q' (.inl q)
        · exact h2 x q ((hA x).mpr (.inr q'))
      · intro x
        show (Cr x∨A1 x∨C x)↔(A1 x∨Cr x∨C x)
        constructor
        · rintro(q | q | q)
          · exact .inr (.inl q)
          · exact .inl q
          · exact .inr (.inr q)
        · rintro(q | q | q)
          · exact .inr (.inl q)
          · exact .inl q
          · exact .inr (.inr q)
theorem bR.snoc:∀{ds:List α} {A A1:Fp} {ys:List β} {d:α} {y:β},bR R ds A ys→R d A1 y→Apart A A1→bR R (ds++[d]) (cF A A1) (ys++[y])
 | [],A,A1,ys,d,y,h,r,ap=>by
  rw[h.2]
  exact⟨y,[],A1,λ_=>False,rfl,λ_ _ z=>z,λx=>⟨λq=>q.elim (λq=>absurd q (h.1 x)) .inl,λq=>q.elim .inr False.elim⟩,r,λ_ z=>z,rfl⟩
 | d0::ds,A,A1,ys,d,y,⟨y0,yt,B1,B2,h1,h2,h3,h4,h5⟩,r,ap=>by
  subst h1
  refine⟨y0,yt++[y],B1,cF B2 A1,rfl,?_,?_,h4,bR.snoc h5 r λx q=>ap x ((h3 x).mpr (.inr q))⟩
  ·intro x q q'
   rcases q' with q' | q'
   ·exact h2 x q q'
   ·exact ap x ((h3 x).mpr (.inl q)) q'
  ·intro x
   show (A x∨A1 x)↔(B1 x∨B2 x∨A1 x)
   rw[h3 x]
   exact or_assoc
end
mutual
def Ow(K:aA)(H:Hp):D→Fp→V→Prop
 | .non,A,v=>None A∧v=.non
 | .bl b,A,v=>None A∧v=.bl b
 | .int i,A,v=>None A∧v=.int i
 | .str x,A,v=>None A∧v=.str x
 | .lst ds,A,v=>∃a xs B,v=.ref a∧H a=some (.lst xs)∧¬B a∧Is A (cF (·=a) B)∧bL K H ds B xs
 | .tup ds,A,v=>∃a xs,v=.ref a∧jH K H a xs∧bL K H ds A xs
 | .dk ks ds,A,v=>∃a xs B,v=.ref a∧H a=some (.dK (ks.zip xs))∧ks.length=xs.length∧¬B a∧Is A (cF (·=a) B)∧bL K H ds B xs
 | .dt ks ds,A,v=>∃a xs B,v=.ref a∧H a=some (.dT (ks.zip xs))∧ks.length=xs.length∧¬B a∧Is A (cF (·=a) B)∧bL K H ds B xs
 | .ins C nm ds,A,v=>∃a dx xs B,v=.ref a∧H a=some (.ins C dx (nm.zip xs))∧H dx=some (.own a)∧nm.length=xs.length∧¬B a∧¬B dx∧Is A (cF (λx=>x=a∨x=dx) B)∧bL K H ds B xs
def bL(K:aA)(H:Hp):List D→Fp→List V→Prop
 | [],A,ys=>None A∧ys=[]
 | d::ds,A,ys=>∃y yt A1 A2,ys=y::yt∧Apart A1 A2∧Is A (cF A1 A2)∧Ow K H d A1 y∧bL K H ds A2 yt
end
theorem cA{K:aA}{H:Hp}:∀{ds:List D} {A:Fp} {ys:List V},bL K H ds A ys↔bR (Ow K H) ds A ys
 | [],A,ys=>by unfold bL bR;exact Iff.rfl
 | d::ds,A,ys=>by
  unfold bL bR
  constructor
  ·rintro⟨y,yt,A1,A2,h1,h2,h3,h4,h5⟩;exact⟨y,yt,A1,A2,h1,h2,h3,h4,cA.mp h5⟩
  ·rintro⟨y,yt,A1,A2,h1,h2,h3,h4,h5⟩;exact⟨y,yt,A1,A2,h1,h2,h3,h4,cA.mpr h5⟩
def jY(K:aA)(H H':Hp):Prop:=∀a xs,jH K H a xs→jH K H' a xs
theorem aB.tk{K:aA}{H H':Hp}(e:aB H H'):jY K H H':=λ_ _ h=>e.tup h
theorem Ow.congr{K:aA}{H:Hp}{d:D}{A A':Fp}{v:V}(h:Ow K H d A v)(e:Is A A'):Ow K H d A' v:=by
 cases d with
 | non=>unfold Ow at h ⊢;exact⟨λx q=>h.1 x ((e x).mpr q),h.2⟩
 | bl b=>unfold Ow at h ⊢;exact⟨λx q=>h.1 x ((e x).mpr q),h.2⟩
 | int b=>unfold Ow at h ⊢;exact⟨λx q=>h.1 x ((e x).mpr q),h.2⟩
 | str b=>unfold Ow at h ⊢;exact⟨λx q=>h.1 x ((e x).mpr q),h.2⟩
 | lst ds=>unfold Ow at h ⊢;obtain⟨a,xs,B,h1,h2,h3,h4,h5⟩:=h;exact⟨a,xs,B,h1,h2,h3,λx=>(e x).symm.trans (h4 x),h5⟩
 | tup ds=>unfold Ow at h ⊢;obtain⟨a,xs,h1,h2,h3⟩:=h;exact⟨a,xs,h1,h2,cA.mpr ((cA.mp h3).congr e)⟩
 | dk ks ds=>unfold Ow at h ⊢;obtain⟨a,xs,B,h1,h2,h2',h3,h4,h5⟩:=h;exact⟨a,xs,B,h1,h2,h2',h3,λx=>(e x).symm.trans (h4 x),h5⟩
 | dt ks ds=>unfold Ow at h ⊢;obtain⟨a,xs,B,h1,h2,h2',h3,h4,h5⟩:=h;exact⟨a,xs,B,h1,h2,h2',h3,λx=>(e x).symm.trans (h4 x),h5⟩
 | ins C nm ds=>unfold Ow at h ⊢;obtain⟨a,dx,xs,B,h1,h2,h2',h3,h3',h3'',h4,h5⟩:=h;exact⟨a,dx,xs,B,h1,h2,h2',h3,h3',h3'',λx=>(e x).symm.trans (h4 x),h5⟩
mutual
theorem Ow.frame{K:aA}{H H':Hp}(t:jY K H H'):∀(d:D)(A:Fp)(v:V),Ow K H d A v→(∀a,A a→H' a=H a)→Ow K H' d A v
 | .non,A,v,h,f=>by unfold Ow at h ⊢;exact h
 | .bl _,A,v,h,f=>by unfold Ow at h ⊢;exact h
 | .int _,A,v,h,f=>by unfold Ow at h ⊢;exact h
 | .str _,A,v,h,f=>by unfold Ow at h ⊢;exact h
 | .lst ds,A,v,h,f=>by
  unfold Ow at h ⊢
  obtain⟨a,xs,B,h1,h2,h3,h4,h5⟩:=h
  exact⟨a,xs,B,h1,(f a ((h4 a).mpr (.inl rfl))).trans h2,h3,h4,bL.frame t ds B xs h5 λb q=>f b ((h4 b).mpr (.inr q))⟩
 | .tup ds,A,v,h,f=>by unfold Ow at h ⊢;obtain⟨a,xs,h1,h2,h3⟩:=h;exact⟨a,xs,h1,t _ _ h2,bL.frame t ds A xs h3 f⟩
 | .dk ks ds,A,v,h,f=>by
  unfold Ow at h ⊢
  obtain⟨a,xs,B,h1,h2,h2',h3,h4,h5⟩:=h
  exact⟨a,xs,B,h1,(f a ((h4 a).mpr (.inl rfl))).trans h2,h2',h3,h4,bL.frame t ds B xs h5 λb q=>f b ((h4 b).mpr (.inr q))⟩
 | .dt ks ds,A,v,h,f=>by
  unfold Ow at h ⊢
  obtain⟨a,xs,B,h1,h2,h2',h3,h4,h5⟩:=h
  exact⟨a,xs,B,h1,(f a ((h4 a).mpr (.inl rfl))).trans h2,h2',h3,h4,bL.frame t ds B xs h5 λb q=>f b ((h4 b).mpr (.inr q))⟩
 | .ins C nm ds,A,v,h,f=>by
  unfold Ow at h ⊢
  obtain⟨a,dx,xs,B,h1,h2,h2',h3,h3',h3'',h4,h5⟩:=h
  exact⟨a,dx,xs,B,h1,(f a ((h4 a).mpr (.inl (.inl rfl)))).trans h2,(f dx ((h4 dx).mpr (.inl (.inr rfl)))).trans h2',h3,h3',h3'',h4,bL.frame t ds B xs h5 λb q=>f b ((h4 b).mpr (.inr q))⟩
theorem bL.frame{K:aA}{H H':Hp}(t:jY K H H'):∀(ds:List D)(A:Fp)(ys:List V),bL K H ds A ys→(∀a,A a→H' a=H a)→bL K H' ds A ys
 | [],A,ys,h,f=>by unfold bL at h ⊢;exact h
 | d::ds,A,ys,h,f=>by
  unfold bL at h ⊢
  obtain⟨y,yt,A1,A2,h1,h2,h3,h4,h5⟩:=h
  exact⟨y,yt,A1,A2,h1,h2,h3,Ow.frame t d A1 y h4 λb q=>f b ((h3 b).mpr (.inl q)),bL.frame t ds A2 yt h5 λb q=>f b ((h3 b).mpr (.inr q))⟩
end
mutual
theorem Ow.rv{K:aA}{H:Hp}:∀(d:D)(A:Fp)(v:V),Ow K H d A v→Rv K H d v
 | .non,A,v,h=>by unfold Ow at h;unfold Rv;exact h.2
 | .bl _,A,v,h=>by unfold Ow at h;unfold Rv;exact h.2
 | .int _,A,v,h=>by unfold Ow at h;unfold Rv;exact h.2
 | .str _,A,v,h=>by unfold Ow at h;unfold Rv;exact h.2
 | .lst ds,A,v,h=>by unfold Ow at h;unfold Rv;obtain⟨a,xs,B,h1,h2,h3,h4,h5⟩:=h;exact⟨a,xs,h1,fW.of h2,bL.rv ds B xs h5⟩
 | .tup ds,A,v,h=>by unfold Ow at h;unfold Rv;obtain⟨a,xs,h1,h2,h3⟩:=h;exact⟨a,xs,h1,h2,bL.rv ds A xs h3⟩
 | .dk ks ds,A,v,h=>by unfold Ow at h;unfold Rv;obtain⟨a,xs,B,h1,h2,h2',h3,h4,h5⟩:=h;exact⟨a,xs,h1,.inl h2,h2',bL.rv ds B xs h5⟩
 | .dt ks ds,A,v,h=>by unfold Ow at h;unfold Rv;obtain⟨a,xs,B,h1,h2,h2',h3,h4,h5⟩:=h;exact⟨a,xs,h1,.inl h2,h2',bL.rv ds B xs h5⟩
 | .ins C nm ds,A,v,h=>by unfold Ow at h;unfold Rv;obtain⟨a,dx,xs,B,h1,h2,h2',h3,h3',h3'',h4,h5⟩:=h;exact⟨a,dx,xs,h1,h2,h3,bL.rv ds B xs h5⟩
theorem bL.rv{K:aA}{H:Hp}:∀(ds:List D)(A:Fp)(ys:List V),bL K H ds A ys→bB K H ds ys
 | [],A,ys,h=>by unfold bL at h;unfold bB;exact h.2
 | d::ds,A,ys,h=>by unfold bL at h;unfold bB;obtain⟨y,yt,A1,A2,h1,h2,h3,h4,h5⟩:=h;exact⟨y,yt,h1,Ow.rv d A1 y h4,bL.rv ds A2 yt h5⟩
end
def gF(H:Hp)(a:Addr):Prop:=(∃o,H a=some o)∧gR H a
mutual
theorem Ow.cells{K:aA}{H:Hp}:∀(d:D)(A:Fp)(v:V),Ow K H d A v→∀a,A a→gF H a
 | .non,A,v,h,a,q=>by unfold Ow at h;exact absurd q (h.1 a)
 | .bl _,A,v,h,a,q=>by unfold Ow at h;exact absurd q (h.1 a)
 | .int _,A,v,h,a,q=>by unfold Ow at h;exact absurd q (h.1 a)
 | .str _,A,v,h,a,q=>by unfold Ow at h;exact absurd q (h.1 a)
 | .lst ds,A,v,h,a,q=>by
  unfold Ow at h
  obtain⟨p,xs,B,h1,h2,h3,h4,h5⟩:=h
  rcases(h4 a).mp q with z | z
  ·cases z;exact⟨⟨_,h2⟩,fO h2⟩
  ·exact bL.cells ds B xs h5 a z
 | .tup ds,A,v,h,a,q=>by unfold Ow at h;obtain⟨p,xs,h1,h2,h3⟩:=h;exact bL.cells ds A xs h3 a q
 | .dk ks ds,A,v,h,a,q=>by
  unfold Ow at h
  obtain⟨p,xs,B,h1,h2,h2',h3,h4,h5⟩:=h
  rcases(h4 a).mp q with z | z
  ·cases z;exact⟨⟨_,h2⟩,zX h2⟩
  ·exact bL.cells ds B xs h5 a z
 | .dt ks ds,A,v,h,a,q=>by
  unfold Ow at h
  obtain⟨p,xs,B,h1,h2,h2',h3,h4,h5⟩:=h
  rcases(h4 a).mp q with z | z
  ·cases z;exact⟨⟨_,h2⟩,λys e=>(by rw[h2]at e;cases e),λo ys e=>(by rw[h2]at e;cases e)⟩
  ·exact bL.cells ds B xs h5 a z
 | .ins C nm ds,A,v,h,a,q=>by
  unfold Ow at h
  obtain⟨p,dx,xs,B,h1,h2,h2',h3,h3',h3'',h4,h5⟩:=h
  rcases(h4 a).mp q with (z | z) | z
  ·cases z;exact⟨⟨_,h2⟩,λys e=>(by rw[h2]at e;cases e),λo ys e=>(by rw[h2]at e;cases e)⟩
  ·cases z;exact⟨⟨_,h2'⟩,λys e=>(by rw[h2']at e;cases e),λo ys e=>(by rw[h2']at e;cases e)⟩
  ·exact bL.cells ds B xs h5 a z
theorem bL.cells{K:aA}{H:Hp}:∀(ds:List D)(A:Fp)(ys:List V),bL K H ds A ys→∀a,A a→gF H a
 | [],A,ys,h,a,q=>by unfold bL at h;exact absurd q (h.1 a)
 | d::ds,A,ys,h,a,q=>by
  unfold bL at h
  obtain⟨y,yt,A1,A2,h1,h2,h3,h4,h5⟩:=h
  rcases(h3 a).mp q with z | z
  ·exact Ow.cells d A1 y h4 a z
  ·exact bL.cells ds A2 yt h5 a z
end
mutual
def D.cD:D→Bool
  | .non=>true | .bl _=>true | .int _=>true | .str _=>true
  | .tup ds=>D.gU ds
  | _=>false
def D.gU:List D→Bool
  | []=>true
  | d::ds=>D.cD d&&D.gU ds
end
abbrev nil:Fp:=λ_=>False
mutual
theorem lK{K:aA}{H:Hp}:∀(d:D)(v:V),d.cD=true→Rv K H d v→Ow K H d nil v
 | .non,v,_,h=>by unfold Rv at h;unfold Ow;exact⟨λ_ z=>z,h⟩
 | .bl _,v,_,h=>by unfold Rv at h;unfold Ow;exact⟨λ_ z=>z,h⟩
 | .int _,v,_,h=>by unfold Rv at h;unfold Ow;exact⟨λ_ z=>z,h⟩
 | .str _,v,_,h=>by unfold Rv at h;unfold Ow;exact⟨λ_ z=>z,h⟩
 | .tup ds,v,i,h=>by unfold D.cD at i;unfold Rv at h;unfold Ow;obtain⟨a,xs,h1,h2,h3⟩:=h;exact⟨a,xs,h1,h2,pP ds xs i h3⟩
 | .lst ds,v,i,h=>by unfold D.cD at i;cases i
 | .dk _ ds,v,i,h=>by unfold D.cD at i;cases i
 | .dt _ ds,v,i,h=>by unfold D.cD at i;cases i
 | .ins _ _ ds,v,i,h=>by unfold D.cD at i;cases i
theorem pP{K:aA}{H:Hp}:∀(ds:List D)(ys:List V),D.gU ds=true→bB K H ds ys→bL K H ds nil ys
 | [],ys,_,h=>by unfold bB at h;unfold bL;exact⟨λ_ z=>z,h⟩
 | d::ds,ys,i,h=>by
  unfold D.gU at i
  rw[G2]at i
  unfold bB at h
  unfold bL
  obtain⟨y,yt,h1,h2,h3⟩:=h
  exact⟨y,yt,nil,nil,h1,λ_ z _=>z,λx=>⟨False.elim,λz=>z.elim id id⟩,lK d y i.1 h2,pP ds yt i.2 h3⟩
end
open Classical in
noncomputable def out(H:Hp)(A:Fp):Hp:=λa=>if A a then none else H a
theorem Kc{H:Hp}{A:Fp}{a:Addr}(h:¬A a):out H A a=H a:=by unfold out;rw[if_neg h]
theorem aQ{H:Hp}{A:Fp}{a:Addr}{o:HO}:out H A a=some o↔¬A a∧H a=some o:=by
 unfold out
 split
 ·rename_i h;exact⟨λz=>(by cases z),λz=>absurd h z.1⟩
 ·rename_i h;exact⟨λz=>⟨h,z⟩,λz=>z.2⟩
theorem dI(H:Hp)(A:Fp):aB (out H A) H:=λb o h=>(aQ.mp h).2
theorem zY{K:aA}{H:Hp}{A:Fp}(h:∀a,A a→gR H a):jY K H (out H A):=λa xs q=>by
 rcases q with (q | ⟨o,q⟩) | q
 ·exact .inl (.inl (aQ.mpr ⟨λz=>(h a z).1 _ q,q⟩))
 ·exact .inl (.inr ⟨o,aQ.mpr ⟨λz=>(h a z).2 _ _ q,q⟩⟩)
 ·exact .inr q
theorem Ow.out{K:aA}{H:Hp}{d:D}{A A':Fp}{v:V}(h:Ow K H d A' v)(ap:Apart A' A)(c:∀a,A a→gR H a):Rv K (out H A) d v:=
 Ow.rv d A' v (Ow.frame (zY c) d A' v h λa q=>Kc (ap a q))
end L2


namespace L2
open PySem PySem.Spec PyProof.Rows
abbrev DE:=List (Option D)
abbrev FE:=DE→Option D
abbrev FA:=DE→Option (List D)
abbrev FT:=DE→Option Bool
def iQ(K:aA)(H:Hp)(e:DE)(σ:St):Prop:=∀(i:Nat)(d:D),e[i]?=some (some d)→∃v,σ[i]?=some (some v)∧Rv K H d v
theorem iQ.same{K:aA}{H H':Hp}{e:DE}{σ:St}(h:iQ K H e σ)(s:aB H H'):iQ K H' e σ:=λi d q=>let ⟨v,h1,h2⟩:=h i d q;⟨v,h1,s.rv _ _ h2⟩
structure Zn(K:aA)(N:Fp)(Z H:Hp):Prop where
 sm:aB Z H
 tk:jY K H Z
 no:∀a,N a→Z a=none∧¬H a=none
theorem Zn.self(K:aA)(H:Hp):Zn K nil H H:=⟨aB.refl _,λ_ _ h=>h,λ_ z=>z.elim⟩
theorem jY.trans{K:aA}{H H1 H2:Hp}(a:jY K H H1)(b:jY K H1 H2):jY K H H2:=λp xs h=>b p xs (a p xs h)
theorem Ow.same{K:aA}{H H':Hp}{d:D}{A:Fp}{v:V}(h:Ow K H d A v)(s:aB H H'):Ow K H' d A v:=
 Ow.frame s.tk d A v h λa q=>by
  obtain⟨⟨o,e⟩,_⟩:=Ow.cells d A v h a q
  rw[e];exact s a o e
theorem bL.same{K:aA}{H H':Hp}{ds:List D}{A:Fp}{vs:List V}(h:bL K H ds A vs)(s:aB H H'):bL K H' ds A vs:=
 bL.frame s.tk ds A vs h λa q=>by
  obtain⟨⟨o,e⟩,_⟩:=bL.cells ds A vs h a q
  rw[e];exact s a o e
def uC(K:aA)(H H':Hp)(d:D)(v:V):Prop:=∃A,Ow K H' d A v∧∀a,A a→H a=none
def rN(K:aA)(H H':Hp)(ds:List D)(vs:List V):Prop:=∃A,bL K H' ds A vs∧∀a,A a→H a=none
theorem uC.rv{K:aA}{H H':Hp}{d:D}{v:V}(h:uC K H H' d v):Rv K H' d v:=let ⟨A,o,_⟩:=h;Ow.rv d A v o
theorem rN.rv{K:aA}{H H':Hp}{ds:List D}{vs:List V}(h:rN K H H' ds vs):bB K H' ds vs:=let ⟨A,o,_⟩:=h;bL.rv ds A vs o
theorem uC.back{K:aA}{H0 H H':Hp}{d:D}{v:V}(h:uC K H H' d v)(s:aB H0 H):uC K H0 H' d v:=let ⟨A,o,f⟩:=h;⟨A,o,λa q=>s.free (f a q)⟩
theorem uC.cD{K:aA}{H H':Hp}{d:D}{v:V}(i:d.cD=true)(h:Rv K H' d v):uC K H H' d v:=⟨nil,lK d v i h,λ_ z=>z.elim⟩
theorem rN.gU{K:aA}{H H':Hp}{ds:List D}{vs:List V}(i:D.gU ds=true)(h:bB K H' ds vs):rN K H H' ds vs:=⟨nil,pP ds vs i h,λ_ z=>z.elim⟩
open Classical in
noncomputable def rO(Z H H':Hp):Hp:=λa=>if H a=none then H' a else Z a
theorem gW{Z H H':Hp}{a:Addr}(h:H a=none):rO Z H H' a=H' a:=by unfold rO;rw[if_pos h]
theorem lM{Z H H':Hp}{a:Addr}(h:¬H a=none):rO Z H H' a=Z a:=by unfold rO;rw[if_neg h]
theorem nY{K:aA}{N:Fp}{Z H H':Hp}(z:Zn K N Z H):aB Z (rO Z H H'):=λb o e=>by
 rw[lM (by rw[z.sm b o e];intro q;cases q)];exact e
theorem vR{K:aA}{N:Fp}{Z H H':Hp}(z:Zn K N Z H)(s:aB H H'):Zn K N (rO Z H H') H' where
  sm:=λb o e=>by
    by_cases c:H b=none
    · rw[gW c]at e;exact e
    · rw[lM c]at e;exact s b o (z.sm b o e)
  tk:=λa xs h=>by
    by_cases c:H a=none
    · rcases h with (h | ⟨o,h⟩) | h
      · exact .inl (.inl (by rw[gW c];exact h))
      · exact .inl (.inr ⟨o,by rw[gW c];exact h⟩)
      · exact .inr h
    · have q:jH K H a xs:=by
        rcases h with (h | ⟨o,h⟩) | h
        · cases e:H a with
          | none=>exact absurd e c
          | some o=>have:=s a o e;rw[h]at this;cases this;exact .inl (.inl e)
        · cases e:H a with
          | none=>exact absurd e c
          | some o=>have:=s a o e;rw[h]at this;cases this;exact .inl (.inr ⟨_,e⟩)
        · exact .inr h
      exact(nY z).tup (z.tk a xs q)
  no:=λa q=>⟨by rw[lM (z.no a q).2];exact(z.no a q).1,λh=>(z.no a q).2 (s.free h)⟩
theorem uC.zone{K:aA}{N:Fp}{Z H H':Hp}{d:D}{v:V}(h:uC K H H' d v)(z:Zn K N Z H)(s:aB H H'):Rv K (rO Z H H') d v:=by
 obtain⟨A,o,f⟩:=h
 exact Ow.rv d A v (Ow.frame (vR z s).tk d A v o λa q=>gW (f a q))
def vU(K:aA)(t:TE)(f:FE):Prop:=∀{N:Fp}(σ:St)(H Z:Hp)(e:DE)(d:D)(Q:VK),Zn K N Z H→iQ K Z e σ→f e=some d →
 (∀v H' Z',aB H H'→aB Z Z'→Zn K N Z' H'→Rv K Z' d v→Q v H')→t σ H Q
def uD(K:aA)(t:TE)(f:FE):Prop:=∀(σ:St)(H:Hp)(e:DE)(d:D)(Q:VK),iQ K H e σ→f e=some d →
 (∀v H',aB H H'→uC K H H' d v→Q v H')→t σ H Q
def yQ(K:aA)(t:TT)(f:FT):Prop:=∀(σ:St)(H:Hp)(e:DE)(b:Bool)(Q:Bool→Hp→Prop),iQ K H e σ→f e=some b→(∀H',aB H H'→Q b H')→t σ H Q
def Oz(K:aA)(t:TA)(f:FA):Prop:=∀{N:Fp}(σ:St)(H Z:Hp)(e:DE)(ds:List D)(Q:List V→Hp→Prop),Zn K N Z H→iQ K Z e σ→f e=some ds →
 (∀vs H' Z',aB H H'→aB Z Z'→Zn K N Z' H'→bB K Z' ds vs→Q vs H')→t σ H Q
def Pa(K:aA)(t:TA)(f:FA):Prop:=∀(σ:St)(H:Hp)(e:DE)(ds:List D)(Q:List V→Hp→Prop),iQ K H e σ→f e=some ds →
 (∀vs H',aB H H'→rN K H H' ds vs→Q vs H')→t σ H Q
theorem uD.r{K:aA}{t:TE}{f:FE}(h:uD K t f):vU K t f:=λσ H Z e d Q z r q k=>
 h σ H e d Q (r.same z.sm) q λv H' s n=>k v H' (rO Z H H') s (nY z) (vR z s) (n.zone z s)
def xV(f:FE):FE:=λe=>(f e).bind λd=>if d.cD=true then some d else none
theorem nZ{f:FE}{e:DE}{d:D}:xV f e=some d↔f e=some d∧d.cD=true:=by
 unfold xV
 cases q:f e with
 | none=>simp
 | some a=>
  simp only[D3]
  split
  ·rename_i h;constructor
   ·intro z;cases z;exact⟨rfl,h⟩
   ·rintro⟨z,_⟩;exact z
  ·rename_i h;constructor
   ·intro z;cases z
   ·rintro⟨z,z2⟩;cases z;exact absurd z2 h
theorem vU.n{K:aA}{t:TE}{f:FE}(h:vU K t f):uD K t (xV f):=λσ H e d Q r q k=>by
 obtain⟨q1,q2⟩:=nZ.mp q
 exact h σ H H e d Q (Zn.self K H) r q1 λv H' Z' s1 s2 z' rv=>k v H' s1 (.cD q2 (z'.sm.rv _ _ rv))
def aF(i:Nat):FE:=λe=>(e[i]?).getD none
theorem Kd{K:aA}(i:Nat):vU K (pB i) (aF i):=λσ H Z e d Q z r q k=>by
 have e1:e[i]?=some (some d):=by
  unfold aF at q
  cases h:e[i]? with
  | none=>rw[h]at q;cases q
  | some o=>rw[h]at q;cases q;rfl
 obtain⟨v,h1,h2⟩:=r i d e1
 exact⟨v,h1,k v H Z (aB.refl _) (aB.refl _) z h2⟩
def fC(d:D):FE:=λ_=>some d
theorem zZ{K:aA}(i:Int):uD K (tC (.int i)) (fC (.int i)):=λσ H e d Q r q k=>by cases q;exact k _ H (aB.refl _) (.cD rfl (by unfold Rv;rfl))
theorem Pb{K:aA}(i:Bool):uD K (tC (.bl i)) (fC (.bl i)):=λσ H e d Q r q k=>by cases q;exact k _ H (aB.refl _) (.cD rfl (by unfold Rv;rfl))
theorem Aa{K:aA}(i:Str):uD K (tC (.str i)) (fC (.str i)):=λσ H e d Q r q k=>by cases q;exact k _ H (aB.refl _) (.cD rfl (by unfold Rv;rfl))
def f2(φ:D→D→Option D)(f g:FE):FE:=λe=>(f e).bind λa=>(g e).bind λb=>φ a b
theorem pQ{φ:D→D→Option D}{f g:FE}{e:DE}{d:D}(h:f2 φ f g e=some d):∃a b,f e=some a∧g e=some b∧φ a b=some d:=by
 unfold f2 at h
 obtain⟨a,h1,h2⟩:=aM h
 obtain⟨b,h3,h4⟩:=aM h2
 exact⟨a,b,h1,h3,h4⟩
def Vu(K:aA)(r:R2)(φ:D→D→Option D):Prop:=∀{N:Fp}(x y:V)(H Z:Hp)(a b d:D)(Q:VK),Zn K N Z H→Rv K Z a x→Rv K Z b y→φ a b=some d →
 (∀v H' Z',aB H H'→aB Z Z'→Zn K N Z' H'→Rv K Z' d v→Q v H')→r x y H Q
def vV(K:aA)(r:R2)(φ:D→D→Option D):Prop:=∀(x y:V)(H:Hp)(a b d:D)(Q:VK),Rv K H a x→Rv K H b y→φ a b=some d →
 (∀v H',aB H H'→uC K H H' d v→Q v H')→r x y H Q
theorem Pg{K:aA}{r:R2}{φ:D→D→Option D}{ta tb:TE}{f g:FE}(o:Vu K r φ)(ha:vU K ta f)(hb:vU K tb g):vU K (pF r ta tb) (f2 φ f g):=λσ H Z e d Q z re q k=>by
 obtain⟨a,b,h1,h2,h3⟩:=pQ q
 refine ha σ H Z e a _ z re h1 λx H1 Z1 s1 t1 z1 rx=>hb σ H1 Z1 e b _ z1 (re.same t1) h2 λy H2 Z2 s2 t2 z2 ry=>?_
 exact o x y H2 Z2 a b d Q z2 (t2.rv _ _ rx) ry h3 λv H3 Z3 s3 t3 z3 rv=>k v H3 Z3 (s1.trans (s2.trans s3)) (t1.trans (t2.trans t3)) z3 rv
theorem vW{K:aA}{r:R2}{φ:D→D→Option D}{ta tb:TE}{f g:FE}(o:vV K r φ)(ha:vU K ta f)(hb:vU K tb g):uD K (pF r ta tb) (f2 φ f g):=λσ H e d Q re q k=>by
 obtain⟨a,b,h1,h2,h3⟩:=pQ q
 refine ha σ H H e a _ (Zn.self K H) re h1 λx H1 Z1 s1 t1 z1 rx=>hb σ H1 Z1 e b _ z1 (re.same t1) h2 λy H2 Z2 s2 t2 z2 ry=>?_
 exact o x y H2 a b d Q (z2.sm.rv _ _ (t2.rv _ _ rx)) (z2.sm.rv _ _ ry) h3 λv H3 s3 n=>k v H3 (s1.trans (s2.trans s3)) (n.back (s1.trans s2))
def kO(C:Int→Int→Prop) [∀i j,Decidable (C i j)] (g:Int→Int→D):D→D→Option D
 | .int i,.int j=>if C i j then some (g i j)else none
 | _,_=>none
theorem lN{C:Int→Int→Prop} [∀i j,Decidable (C i j)] {g:Int→Int→D} {a b d:D} (h:kO C g a b=some d):∃i j,a=.int i∧b=.int j∧C i j∧d=g i j:=by
 unfold kO at h
 split at h
 ·split at h
  ·rename_i i j c;cases h;exact⟨i,j,rfl,rfl,c,rfl⟩
  ·cases h
 ·cases h
theorem lO{K:aA}{C:Int→Int→Prop} [∀i j,Decidable (C i j)] {C':Int→Int→Prop} (hC:∀i j,C i j→C' i j) {g:Int→Int→Int}:vV K (rI C' λi j=>.int (g i j)) (kO C λi j=>.int (g i j)):=λx y H a b d Q ra rb q k=>by
 obtain⟨i,j,rfl,rfl,c,rfl⟩:=lN q
 unfold Rv at ra rb
 exact⟨i,j,ra,rb,hC i j c,k _ H (aB.refl _) (.cD rfl (by unfold Rv;rfl))⟩
theorem Ed{K:aA}{g:Int→Int→Int}:vV K (yN λi j=>.int (g i j)) (kO (λ_ _=>True) λi j=>.int (g i j)):=λx y H a b d Q ra rb q k=>by
 obtain⟨i,j,rfl,rfl,c,rfl⟩:=lN q
 unfold Rv at ra rb
 exact⟨i,j,ra,rb,k _ H (aB.refl _) (.cD rfl (by unfold Rv;rfl))⟩
theorem pR{K:aA}{g:Int→Int→Bool}:vV K (yN λi j=>.bl (g i j)) (kO (λ_ _=>True) λi j=>.bl (g i j)):=λx y H a b d Q ra rb q k=>by
 obtain⟨i,j,rfl,rfl,c,rfl⟩:=lN q
 unfold Rv at ra rb
 exact⟨i,j,ra,rb,k _ H (aB.refl _) (.cD rfl (by unfold Rv;rfl))⟩
def bC:FA:=λ_=>some []
def aH(f:FE)(fs:FA):FA:=λe=>(f e).bind λa=>(fs e).bind λr=>some (a::r)
theorem jK{f:FE}{fs:FA}{e:DE}{ds:List D}(h:aH f fs e=some ds):∃a r,f e=some a∧fs e=some r∧ds=a::r:=by
 unfold aH at h
 obtain⟨a,h1,h2⟩:=aM h
 obtain⟨b,h3,h4⟩:=aM h2
 cases h4
 exact⟨a,b,h1,h3,rfl⟩
theorem Ke{K:aA}:Oz K jV bC:=λσ H Z e ds Q z re q k=>by cases q;exact k [] H Z (aB.refl _) (aB.refl _) z (by unfold bB;rfl)
theorem Ef{K:aA}{te:TE}{t:TA}{f:FE}{fs:FA}(h:vU K te f)(hs:Oz K t fs):Oz K (cZ te t) (aH f fs):=λσ H Z e ds Q z re q k=>by
 obtain⟨a,r,h1,h2,rfl⟩:=jK q
 refine h σ H Z e a _ z re h1 λx H1 Z1 s1 t1 z1 rx=>hs σ H1 Z1 e r _ z1 (re.same t1) h2 λvs H2 Z2 s2 t2 z2 rs=>?_
 exact k _ H2 Z2 (s1.trans s2) (t1.trans t2) z2 (by unfold bB;exact⟨x,vs,rfl,t2.rv _ _ rx,rs⟩)
theorem Kf{K:aA}:Pa K jV bC:=λσ H e ds Q re q k=>by cases q;exact k [] H (aB.refl _) (.gU rfl (by unfold bB;rfl))
theorem Eg{K:aA}{te:TE}{t:TA}{f:FE}{fs:FA}(h:uD K te f)(hs:Pa K t fs):Pa K (cZ te t) (aH f fs):=λσ H e ds Q re q k=>by
 obtain⟨a,r,h1,h2,rfl⟩:=jK q
 refine h σ H e a _ re h1 λx H1 s1 n1=>hs σ H1 e r _ (re.same s1) h2 λvs H2 s2 n2=>?_
 refine k _ H2 (s1.trans s2) ?_
 obtain⟨A,oA,fA⟩:=n1
 obtain⟨B,oB,fB⟩:=n2
 refine⟨cF A B,?_,λp q=>q.elim (fA p) λz=>s1.free (fB p z)⟩
 unfold bL
 refine⟨x,vs,A,B,rfl,λp qa qb=>?_,λ_=>Iff.rfl,oA.same s2,oB⟩
 obtain⟨⟨o,e1⟩,_⟩:=Ow.cells _ _ _ oA p qa
 rw[fB p qb]at e1;cases e1
def cap(n:Nat)(d:D):Option D:=if n≤100000 then some d else none
theorem Ab{n:Nat}{d d':D}(h:cap n d=some d'):n≤100000∧d'=d:=by
 unfold cap at h
 split at h
 ·rename_i c;cases h;exact⟨c,rfl⟩
 ·cases h
theorem oE{n:Nat}(h:n≤100000):n≤sizeLine:=by rw[sizeLine_eq];omega
theorem Hh{n:Nat}(h:n≤100000):n<sizeLine:=by rw[sizeLine_eq];omega
def xW(fs:FA):FE:=λe=>(fs e).bind λds=>cap ds.length (.lst ds)
def Vv(fs:FA):FE:=λe=>(fs e).bind λds=>cap ds.length (.tup ds)
theorem vX{K:aA}{H H1:Hp}{ds:List D}{xs:List V}{p:Addr}(s:aB H H1)(n:rN K H H1 ds xs)(hp:H1 p=none):uC K H (upd H1 p (.lst xs)) (.lst ds) (.ref p):=by
 obtain⟨A,o,f⟩:=n
 refine⟨cF (·=p) A,?_,λa q=>q.elim (λz=>by cases z;exact s.free hp) (f a)⟩
 unfold Ow
 refine⟨p,xs,A,rfl,dH,λz=>?_,λ_=>Iff.rfl,o.same (gQ hp _)⟩
 obtain⟨⟨u,e⟩,_⟩:=bL.cells _ _ _ o p z
 rw[hp]at e;cases e
theorem Kg{K:aA}{t:TA}{fs:FA}(h:Pa K t fs):uD K (Jj t) (xW fs):=λσ H e d Q re q k=>by
 unfold xW at q
 obtain⟨ds,h1,h2⟩:=aM q
 obtain⟨hc,rfl⟩:=Ab h2
 refine h σ H e ds _ re h1 λxs H1 s1 n=>⟨oE (by rw[n.rv.length];exact hc),λp hp=>?_⟩
 exact k _ _ (s1.trans (gQ hp _)) (vX s1 n hp)
end L2


namespace L2
open PySem PySem.Spec PyProof.Rows
structure XR(K:aA)(X:Cx)(e:Expr)(t:TE)(f:FE):Prop where
 hk:X.K=K
 pe:PE X e t
 ev:vU K t f
structure XN(K:aA)(X:Cx)(e:Expr)(t:TE)(f:FE):Prop where
 hk:X.K=K
 pe:PE X e t
 ev:uD K t f
structure XT(K:aA)(X:Cx)(e:Expr)(t:TT)(f:FT):Prop where
 hk:X.K=K
 pt:PT X e t
 ev:yQ K t f
structure XW(K:aA)(X:Cx)(e:Expr)(t:TT)(f:FT):Prop where
 hk:X.K=K
 pw:PW X e t
 ev:yQ K t f
structure XA(K:aA)(X:Cx)(es:List Expr)(t:TA)(f:FA):Prop where
 hk:X.K=K
 pa:PA X es t
 ev:Oz K t f
structure XB(K:aA)(X:Cx)(es:List Expr)(t:TA)(f:FA):Prop where
 hk:X.K=K
 pa:PA X es t
 ev:Pa K t f
section
variable{K:aA}{X:Cx}{e a b c:Expr}{es:List Expr}{t ta tb:TE}{f g:FE}{tA:TA}{fs:FA}{pos:Pos}
theorem XN.r(h:XN K X e t f):XR K X e t f:=⟨h.hk,h.pe,h.ev.r⟩
theorem XR.n(h:XR K X e t f):XN K X e t (xV f):=⟨h.hk,h.pe,vU.n h.ev⟩
theorem aP{i:Nat}(h:PE X e (pB i))(hk:X.K=K:=by rfl):XR K X e (pB i) (aF i):=⟨hk,h,Kd i⟩
theorem aD{i:Int}{j:Nat}(hk:X.K=K:=by rfl):XN K X (.Constant (.int i) j pos) (tC (.int i)) (fC (.int i)):=⟨hk,Ii,zZ i⟩
theorem rP{i:Bool}{j:Nat}(hk:X.K=K:=by rfl):XN K X (.Constant (.bool i) j pos) (tC (.bl i)) (fC (.bl i)):=⟨hk,Np,Pb i⟩
theorem pU{x:Str}{j:Nat}(hk:X.K=K:=by rfl):XN K X (.Constant (.str x) j pos) (tC (.str x)) (fC (.str x)):=⟨hk,Ij,Aa x⟩
theorem jL{op:Operator}{r:R2}{φ:D→D→Option D}(ho:eH X (binaryOp op) r)(hd:vV K r φ)(ha:XR K X a ta f)(hb:XR K X b tb g):XN K X (.BinOp a op b pos) (pF r ta tb) (f2 φ f g):=⟨ha.hk,Nz ho ha.pe hb.pe,vW hd ha.ev hb.ev⟩
def Ac:D→D→Option D:=kO (λ_ _=>True) λi j=>.int (i-j)
instance (i j:Int):Decidable (nA i j):=by unfold nA;exact inferInstance
instance (i j:Int):Decidable (xF i j):=by unfold xF;exact inferInstance
instance (i j:Int):Decidable (xG i j):=by unfold xG;exact inferInstance
def lQ:D→D→Option D:=kO nA λi j=>.int (i*j)
def pW:D→D→Option D:=kO xF λi j=>.int (i/j)
def dF:D→D→Option D:=kO (λ_ j=>0<j) λi j=>.int (i%j)
def gY:D→D→Option D:=kO xG λi j=>.int (i ^ j.toNat)
theorem Ad(ha:XR K X a ta f)(hb:XR K X b tb g):XN K X (.BinOp a .Sub b pos) (pF (yN λi j=>.int (i-j)) ta tb) (f2 Ac f g):=jL Jc Ed ha hb
theorem gG(ha:XR K X a ta f)(hb:XR K X b tb g):XN K X (.BinOp a .Mult b pos) (pF (rI nA λi j=>.int (i*j)) ta tb) (f2 lQ f g):=jL Jd (lO λ_ _ h=>h) ha hb
theorem uE(ha:XR K X a ta f)(hb:XR K X b tb g):XN K X (.BinOp a .FloorDiv b pos) (pF (rI xF λi j=>.int (i/j)) ta tb) (f2 pW f g):=jL Dh (lO λ_ _ h=>h) ha hb
theorem cU(ha:XR K X a ta f)(hb:XR K X b tb g):XN K X (.BinOp a .Mod b pos) (pF (rI (λ_ j=>0<j) λi j=>.int (i%j)) ta tb) (f2 dF f g):=jL Je (lO λ_ _ h=>h) ha hb
theorem gH(ha:XR K X a ta f)(hb:XR K X b tb g):XN K X (.BinOp a .Pow b pos) (pF (rI xG λi j=>.int (i ^ j.toNat)) ta tb) (f2 gY f g):=jL Jf (lO λ_ _ h=>h) ha hb
theorem uF{op:CmpOp}{r:R2}{φ:D→D→Option D}(ho:eH X (compareOp op) r)(hd:vV K r φ)(ha:XR K X a ta f)(hb:XR K X b tb g)(hm:behindInMarks op b=false):XN K X (.Compare a [op] [b] pos) (pF r ta tb) (f2 φ f g):=⟨ha.hk,Di ho ha.pe hb.pe hm,vW hd ha.ev hb.ev⟩
def fB(f:FE):FT:=λe=>(f e).bind λd=>match d with | .bl b=>some b | _=>none
theorem pX{f:FE}{e:DE}{b:Bool}(h:fB f e=some b):f e=some (.bl b):=by
 unfold fB at h
 obtain⟨d,h1,h2⟩:=aM h
 split at h2
 ·cases h2;exact h1
 ·cases h2
theorem Eh(h:vU K t f):yQ K (rF t) (fB f):=λσ H e b Q re q k=>h σ H H e _ _ (Zn.self K H) re (pX q) λv H' Z' s1 s2 z rv=>by
 unfold Rv at rv
 exact⟨b,rv,k H' s1⟩
theorem Ph(h:vU K t f):yQ K (tB t) (fB f):=λσ H e b Q re q k=>h σ H H e _ _ (Zn.self K H) re (pX q) λv H' Z' s1 s2 z rv=>by
 unfold Rv at rv
 exact⟨b,rv,k H' s1⟩
theorem dG{op:CmpOp}{r:R2}{φ:D→D→Option D}(ho:eH X (compareOp op) r)(hd:vV K r φ)(ha:XR K X a ta f)(hb:XR K X b tb g)(hm:behindInMarks op b=false):XT K X (.Compare a [op] [b] pos) (rF (pF r ta tb)) (fB (f2 φ f g)):=⟨ha.hk,Dj ho ha.pe hb.pe hm,Eh (vW hd ha.ev hb.ev).r⟩
theorem gJ(h:XR K X e t f)(he:∀whole,isTrue e X.env whole=(do let v ←whole;standAt e.pos;holding [v] (truthy v)):=by intro _;rfl):XT K X e (tB t) (fB f):=⟨h.hk,Ik h.pe he,Ph h.ev⟩
def Sx:D→D→Option D:=kO (λ_ _=>True) λi j=>.bl (decide (i<j))
def Hi:D→D→Option D:=kO (λ_ _=>True) λi j=>.bl (decide (i≤j))
def Pj:D→D→Option D:=kO (λ_ _=>True) λi j=>.bl (decide (j<i))
def Wt:D→D→Option D:=kO (λ_ _=>True) λi j=>.bl (decide (j≤i))
def toV:D→Option V
  | .non=>some .non | .bl b=>some (.bl b) | .int i=>some (.int i) | .str x=>some (.str x)
  | _=>none
theorem pY{H:Hp}{d:D}{v x:V}(h:toV d=some v)(r:Rv K H d x):x=v:=by
 cases d<;>unfold toV at h<;>first | (cases h;unfold Rv at r;exact r) | cases h
mutual
def bK:D→Option DV
 | .int i=>some (.int i)
 | .non=>some .non
 | .lst ds=>(fD ds).map DV.lst
 | .tup ds=>(fD ds).map DV.tup
 | _=>none
def fD:List D→Option (List DV)
 | []=>some []
 | d::ds=>(bK d).bind λx=>(fD ds).bind λxs=>some (x::xs)
end
mutual
theorem dX{H:Hp}:∀(d:D)(x:DV)(v:V),bK d=some x→Rv K H d v→Reads K H x v
 | .int i,x,v,h,r=>by unfold bK at h;cases h;unfold Rv at r;unfold Reads;exact r
 | .lst ds,x,v,h,r=>by
  unfold bK at h
  obtain⟨xs,h1,rfl⟩:=eO h
  unfold Rv at r;unfold Reads
  obtain⟨a,vs,r1,r2,r3⟩:=r
  exact⟨a,vs,r1,r2,lR ds xs vs h1 r3⟩
 | .tup ds,x,v,h,r=>by
  unfold bK at h
  obtain⟨xs,h1,rfl⟩:=eO h
  unfold Rv at r;unfold Reads
  obtain⟨a,vs,r1,r2,r3⟩:=r
  exact⟨a,vs,r1,r2,lR ds xs vs h1 r3⟩
 | .non,x,v,h,r=>by unfold bK at h;cases h;unfold Rv at r;unfold Reads;exact r
 | .bl _,x,v,h,r=>by unfold bK at h;cases h
 | .str _,x,v,h,r=>by unfold bK at h;cases h
 | .dk _ _,x,v,h,r=>by unfold bK at h;cases h
 | .dt _ _,x,v,h,r=>by unfold bK at h;cases h
 | .ins _ _ _,x,v,h,r=>by unfold bK at h;cases h
theorem lR{H:Hp}:∀(ds:List D)(xs:List DV)(vs:List V),fD ds=some xs→bB K H ds vs→aO K H xs vs
 | [],xs,vs,h,r=>by unfold fD at h;cases h;unfold bB at r;unfold aO;exact r
 | d::ds,xs,vs,h,r=>by
  unfold fD at h
  obtain⟨x,h1,h2⟩:=aM h
  obtain⟨xt,h3,h4⟩:=aM h2
  cases h4
  unfold bB at r;unfold aO
  obtain⟨y,ys,r1,r2,r3⟩:=r
  exact⟨y,ys,r1,dX d x y h1 r2,lR ds xt ys h3 r3⟩
end
mutual
theorem Ae:∀(d e:D)(x:DV),bK d=some x→bK e=some x→d=e
 | .int i,e,x,h,h'=>by
  unfold bK at h;cases h
  cases e<;>unfold bK at h'<;>first | (cases h';rfl) | cases h' | (obtain⟨xs,q1,q2⟩:=eO h';cases q2)
 | .lst ds,e,x,h,h'=>by
  unfold bK at h
  obtain⟨xs,h1,rfl⟩:=eO h
  cases e with
  | lst es=>unfold bK at h';obtain⟨ys,q1,q2⟩:=eO h';cases q2;rw[iU ds es xs h1 q1]
  | tup es=>unfold bK at h';obtain⟨ys,q1,q2⟩:=eO h';cases q2
  | _=>unfold bK at h';cases h'
 | .tup ds,e,x,h,h'=>by
  unfold bK at h
  obtain⟨xs,h1,rfl⟩:=eO h
  cases e with
  | tup es=>unfold bK at h';obtain⟨ys,q1,q2⟩:=eO h';cases q2;rw[iU ds es xs h1 q1]
  | lst es=>unfold bK at h';obtain⟨ys,q1,q2⟩:=eO h';cases q2
  | _=>unfold bK at h';cases h'
 | .non,e,x,h,h'=>by
  unfold bK at h;cases h
  cases e<;>unfold bK at h'<;>first | (cases h';rfl) | cases h' | (obtain⟨xs,q1,q2⟩:=eO h';cases q2)
 | .bl _,e,x,h,h'=>by unfold bK at h;cases h
 | .str _,e,x,h,h'=>by unfold bK at h;cases h
 | .dk _ _,e,x,h,h'=>by unfold bK at h;cases h
 | .dt _ _,e,x,h,h'=>by unfold bK at h;cases h
 | .ins _ _ _,e,x,h,h'=>by unfold bK at h;cases h
theorem iU:∀(ds es:List D)(xs:List DV),fD ds=some xs→fD es=some xs→ds=es
 | [],[],xs,h,h'=>rfl
 | [],e::es,xs,h,h'=>by
  unfold fD at h h'
  cases h
  obtain⟨x,h1,h2⟩:=aM h'
  obtain⟨xt,h3,h4⟩:=aM h2
  cases h4
 | d::ds,[],xs,h,h'=>by
  unfold fD at h h'
  cases h'
  obtain⟨x,h1,h2⟩:=aM h
  obtain⟨xt,h3,h4⟩:=aM h2
  cases h4
 | d::ds,e::es,xs,h,h'=>by
  unfold fD at h h'
  obtain⟨x,h1,h2⟩:=aM h
  obtain⟨xt,h3,h4⟩:=aM h2
  cases h4
  obtain⟨y,k1,k2⟩:=aM h'
  obtain⟨yt,k3,k4⟩:=aM k2
  cases k4
  rw[Ae d e x h1 k1,iU ds es xt h3 k3]
end
noncomputable def mY(a b:D):Option D:=match toV a,toV b with
 | some x,some y=>if rD x y=true then some (.bl (decide (x=y)))else none
 | _,_=>match bK a,bK b with
  | some x,some y=>if x.depth≤32 then some (.bl (eX x y))else none
  | _,_=>none
theorem lU:vV K (λx y H Q=>Sh x y H Q∨Jv K false x y H Q) mY:=λx y H a b d Q ra rb q k=>by
 unfold mY at q
 split at q
 ·rename_i u v h1 h2
  split at q
  ·rename_i hs
   cases q
   rw[pY h1 ra,pY h2 rb]
   exact .inl ⟨hs,k _ H (aB.refl _) (.cD rfl (by unfold Rv;rfl))⟩
  ·cases q
 ·split at q
  ·rename_i u v h1 h2
   split at q
   ·rename_i hs
    cases q
    exact .inr ⟨u,v,dX a u x h1 ra,dX b v y h2 rb,hs,k _ H (aB.refl _) (.cD rfl (by unfold Rv;rfl))⟩
   ·cases q
  ·cases q
noncomputable def Cu(a b:D):Option D:=match toV a,toV b with
 | some x,some y=>if rD x y=true then some (.bl (!decide (x=y)))else none
 | _,_=>match bK a,bK b with
  | some (.lst x),some (.lst y)=>if aZ x≤32 then some (.bl (!eX (.lst x) (.lst y)))else none
  | some (.tup x),some (.tup y)=>if aZ x≤32 then some (.bl (!eX (.tup x) (.tup y)))else none
  | _,_=>none
def Pk(K:aA):R2:=λx y H Q=>Ul x y H Q∨(∃ds es,Reads K H (.lst ds) x∧Reads K H (.lst es) y∧aZ ds≤32∧Q (.bl (!eX (.lst ds) (.lst es))) H)∨(∃ds es,Reads K H (.tup ds) x∧Reads K H (.tup es) y∧aZ ds≤32∧Q (.bl (!eX (.tup ds) (.tup es))) H)
theorem Af:vV K (Pk K) Cu:=λx y H a b d Q ra rb q k=>by
 unfold Cu at q
 split at q
 ·rename_i u v h1 h2
  split at q
  ·rename_i hs
   cases q
   rw[pY h1 ra,pY h2 rb]
   exact .inl ⟨hs,k _ H (aB.refl _) (.cD rfl (by unfold Rv;rfl))⟩
  ·cases q
 ·split at q
  ·rename_i u v h1 h2
   split at q
   ·rename_i hs
    cases q
    exact .inr (.inl ⟨u,v,dX a _ x h1 ra,dX b _ y h2 rb,hs,k _ H (aB.refl _) (.cD rfl (by unfold Rv;rfl))⟩)
   ·cases q
  ·rename_i u v h1 h2
   split at q
   ·rename_i hs
    cases q
    exact .inr (.inr ⟨u,v,dX a _ x h1 ra,dX b _ y h2 rb,hs,k _ H (aB.refl _) (.cD rfl (by unfold Rv;rfl))⟩)
   ·cases q
  ·cases q
theorem or_eq(hu:X.A.units+64<cLine)(hk:X.K=K):eH X (compareOp .Eq) (λx y H Q=>Sh x y H Q∨Jv K false x y H Q):=by subst hk;exact Od.or (Jw hu)
theorem Ag(hu:X.A.units+64<cLine)(hk:X.K=K):eH X (compareOp .NotEq) (Pk K):=by subst hk;exact Oe.or ((Jx hu).or (Ka hu))
def iV:D→Option (List D)
 | .lst ds=>some ds
 | .tup ds=>some ds
 | _=>none
theorem Ei{H:Hp}{d:D}{ds:List D}{v:V}(h:iV d=some ds)(r:Rv K H d v):∃p xs,v=.ref p∧(fW K H p xs∨jH K H p xs)∧bB K H ds xs:=by
 cases d with
 | lst es=>unfold iV at h;cases h;unfold Rv at r;obtain⟨p,xs,r1,r2,r3⟩:=r;exact⟨p,xs,r1,.inl r2,r3⟩
 | tup es=>unfold iV at h;cases h;unfold Rv at r;obtain⟨p,xs,r1,r2,r3⟩:=r;exact⟨p,xs,r1,.inr r2,r3⟩
 | _=>unfold iV at h;cases h
end
section
variable{κ:Type} [DecidableEq κ] {K:aA} {H:Hp}
def posK:List κ→κ→Option Nat
 | [],_=>none
 | a::ks,k=>if a=k then some 0 else(posK ks k).map (·+1)
theorem rQ:∀{ks:List κ} {xs:List V} {k:κ},ks.length=xs.length→xO (ks.zip xs) k=(posK ks k).bind λj=>xs[j]?
 | [],xs,k,h=>by unfold posK;rfl
 | a::ks,[],k,h=>by simp at h
 | a::ks,x::xs,k,h=>by
  have ih:=rQ (ks:=ks) (xs:=xs) (k:=k) (by simpa using h)
  unfold posK
  rw[M8]
  unfold xO at ih ⊢
  rw[List.find?_cons]
  by_cases c:a=k
  ·rw[if_pos c,decide_eq_true c];rfl
  ·rw[if_neg c,decide_eq_false c]
   show Option.map _ (List.find? _ (ks.zip xs))=_
   rw[ih]
   cases posK ks k<;>rfl
end
section
variable{K:aA}{X:Cx}{e a b c:Expr}{es:List Expr}{t ta tb:TE}{f g:FE}{pos:Pos}
def Nh(a i:D):Option D:=match i with
 | .int i=>(iV a).bind λds=>yO ds i
 | _=>none
theorem Hj{H:Hp}{ds:List D}{xs:List V}{i:Int}{d:D}(r:bB K H ds xs)(h:yO ds i=some d):∃v,yO xs i=some v∧Rv K H d v:=by
 unfold yO at h ⊢
 obtain⟨j,h1,h2⟩:=aM h
 rw[r.length,h1]
 exact r.get h2
theorem Pn(hk:X.K=K):Cp X (Ss K):=by subst hk;exact Jr
theorem Hl(ha:XR K X a ta f)(hb:XR K X b tb g)(hs:pJ b):XR K X (.Subscript a b pos) (pF (Ss K) ta tb) (f2 Nh f g):=
 ⟨ha.hk,Gy (Pn ha.hk) ha.pe hb.pe hs,Pg (λx y H Z da db d Q z ra rb q k=>by
  unfold Nh at q
  split at q
  ·rename_i i
   obtain⟨ds,h1,h2⟩:=aM q
   unfold Rv at rb
   cases da with
   | lst es=>
    unfold iV at h1;cases h1
    unfold Rv at ra
    obtain⟨p,xs,r1,r2,r3⟩:=ra
    obtain⟨v,e1,e2⟩:=Hj r3 h2
    exact .inl ⟨p,xs,i,v,r1,rb,z.sm.seq r2,e1,k v H Z (aB.refl _) (aB.refl _) z e2⟩
   | tup es=>
    unfold iV at h1;cases h1
    unfold Rv at ra
    obtain⟨p,xs,r1,r2,r3⟩:=ra
    obtain⟨v,e1,e2⟩:=Hj r3 h2
    exact .inr (.inl ⟨p,xs,i,v,r1,rb,z.sm.tup r2,e1,k v H Z (aB.refl _) (aB.refl _) z e2⟩)
   | _=>unfold iV at h1;cases h1
  ·cases q) ha.ev hb.ev⟩
end
end L2


namespace L2
open PySem PySem.Spec PyProof.Rows
section
variable{K:aA}{X:Cx}{e a b c:Expr}{es rest:List Expr}{t ta tb:TE}{f g:FE}{tA:TA}{fs:FA}{pos:Pos}{tc:TT}{fc fd:FT}{td:TT}
theorem bG(hk:X.K=K:=by rfl):XA K X [] jV bC:=⟨hk,iT,Ke⟩
theorem aR(h:XR K X e t f)(hs:XA K X es tA fs)(hst:starEach (e::es) X.env=(false,eval e X.env)::starEach es X.env:=by rfl):XA K X (e::es) (cZ t tA) (aH f fs):=⟨h.hk,dB h.pe hs.pa hst,Ef h.ev hs.ev⟩
theorem Kh(hk:X.K=K:=by rfl):XB K X [] jV bC:=⟨hk,iT,Kf⟩
theorem dC(h:XN K X e t f)(hs:XB K X es tA fs)(hst:starEach (e::es) X.env=(false,eval e X.env)::starEach es X.env:=by rfl):XB K X (e::es) (cZ t tA) (aH f fs):=⟨h.hk,dB h.pe hs.pa hst,Eg h.ev hs.ev⟩
theorem Kl(h:XB K X es tA fs):XN K X (.List es pos) (Jj tA) (xW fs):=⟨h.hk,Jk h.pa,Kg h.ev⟩
def Vw(f g:FT):FT:=λe=>(f e).bind λc=>if c=true then g e else some false
def vY(f g:FT):FT:=λe=>(f e).bind λc=>if c=true then some true else g e
def iW(f:FT):FT:=λe=>(f e).map λc=>!c
theorem Pq(h1:yQ K tc fc)(h2:yQ K td fd):yQ K (Rw tc td) (vY fc fd):=λσ H e b Q re q k=>by
 unfold vY at q
 obtain⟨c,q1,q2⟩:=aM q
 refine h1 σ H e c _ re q1 λH1 s1=>?_
 cases c with
 | false=>rw[if_neg (by decide)]at q2 ⊢;exact h2 σ H1 e b Q (re.same s1) q2 λH2 s2=>k H2 (s1.trans s2)
 | true=>rw[if_pos rfl]at q2 ⊢;cases q2;exact k H1 s1
theorem Km(h1:yQ K tc fc):yQ K (Il tc) (iW fc):=λσ H e b Q re q k=>by
 unfold iW at q
 obtain⟨c,q1,rfl⟩:=eO q
 exact h1 σ H e c _ re q1 k
theorem XW.xt(h:XW K X e tc fc):XT K X e tc fc:=⟨h.hk,h.pw.pt,h.ev⟩
theorem pZ(h:XT K X a tc fc):XW K X (.BoolOp .Or [a] pos) tc fc:=⟨h.hk,Im h.pt,h.ev⟩
theorem rR(h:XT K X a tc fc)(h2:XW K X (.BoolOp .Or (b::rest) pos) td fd):XW K X (.BoolOp .Or (a::b::rest) pos) (Rw tc td) (vY fc fd):=⟨h.hk,Nq h.pt h2.pw,Pq h.ev h2.ev⟩
theorem iY(h:XT K X a tc fc):XT K X (.UnaryOp .Not a pos) (Il tc) (iW fc):=⟨h.hk,Io h.pt,Km h.ev⟩
def xX(f g:FE):FE:=λe=>(fB f e).bind λc=>if c=true then some (.bl true)else g e
theorem Ej{op:BoolOp}(h:XN K X a t f):XN K X (.BoolOp op [a] pos) t f:=⟨h.hk,Ip h.pe,h.ev⟩
theorem Pu(h:XR K X a ta f)(h2:XN K X (.BoolOp .Or (b::rest) pos) tb g):XN K X (.BoolOp .Or (a::b::rest) pos) (Nr ta tb) (xX f g):=⟨h.hk,Nt h.pe h2.pe,λσ H e d Q re q k=>by
 unfold xX at q
 obtain⟨c,q1,q2⟩:=aM q
 refine h.ev σ H H e _ _ (Zn.self K H) re (pX q1) λv H1 Z1 s1 t1 z1 rv=>?_
 unfold Rv at rv
 refine⟨c,rv,?_⟩
 cases c with
 | false=>rw[if_neg (by decide)]at q2 ⊢;exact h2.ev σ H1 e d Q (re.same s1) q2 λv H2 s2 n=>k v H2 (s1.trans s2) (n.back s1)
 | true=>rw[if_pos rfl]at q2 ⊢;cases q2;exact k _ H1 s1 (.cD rfl (by unfold Rv;rfl))⟩
def Ko(c:FT)(f g:FE):FE:=λe=>(c e).bind λb=>if b=true then f e else g e
theorem Px(hc:XT K X c tc fc)(ha:XN K X a ta f)(hb:XN K X b tb g):XN K X (.IfExp c a b pos) (Uk tc ta tb) (Ko fc f g):=⟨ha.hk,yU hc.pt ha.pe hb.pe,λσ H e d Q re q k=>by
 unfold Ko at q
 obtain⟨c,q1,q2⟩:=aM q
 refine hc.ev σ H e c _ re q1 λH1 s1=>?_
 cases c with
 | true=>rw[if_pos rfl]at q2 ⊢;exact ha.ev σ H1 e d Q (re.same s1) q2 λv H2 s2 n=>k v H2 (s1.trans s2) (n.back s1)
 | false=>rw[if_neg (by decide)]at q2 ⊢;exact hb.ev σ H1 e d Q (re.same s1) q2 λv H2 s2 n=>k v H2 (s1.trans s2) (n.back s1)⟩
theorem Kq(ha:XR K X a ta f):XN K X (.UnaryOp .USub a pos) (Sg (rU λi=>.int (-i)) ta) (λe=>(f e).bind λd=>match d with | .int i=>some (.int (-i)) | _=>none):=⟨ha.hk,Oa Jg ha.pe,λσ H e d Q re q k=>by
 obtain⟨c,q1,q2⟩:=aM q
 split at q2
 ·rename_i i
  cases q2
  refine ha.ev σ H H e _ _ (Zn.self K H) re q1 λv H1 Z1 s1 t1 z1 rv=>?_
  unfold Rv at rv
  exact⟨i,rv,k _ H1 s1 (.cD rfl (by unfold Rv;rfl))⟩
 ·cases q2⟩
def fL(φ:List D→Option D)(fs:FA):FE:=λe=>(fs e).bind φ
def fX(K:aA)(r:List V→Hp→VK→Prop)(φ:List D→Option D):Prop:=∀(vs:List V)(H:Hp)(ds:List D)(d:D)(Q:VK),bB K H ds vs→φ ds=some d →
 (∀v H',aB H H'→uC K H H' d v→Q v H')→r vs H Q
theorem Ho{r:List V→Hp→VK→Prop}{φ:List D→Option D}(o:fX K r φ)(h:Oz K tA fs):uD K (Jo r tA) (fL φ fs):=λσ H e d Q re q k=>by
 obtain⟨ds,q1,q2⟩:=aM q
 exact h σ H H e ds _ (Zn.self K H) re q1 λvs H1 Z1 s1 t1 z1 rs=>o vs H1 ds d Q (z1.sm.Ec _ _ rs) q2 λv H2 s2 n=>k v H2 (s1.trans s2) (n.back s1)
theorem jM{r:List V→Hp→VK→Prop}{φ:List D→Option D}{x:Str}{id:String}{p:Pos}(o:fX K r φ)(hc:cN X (.builtin id) r)(hg:Gl X x)(hm:X.mg x=none)(hv:bootBuiltins x=some (.builtin id))(ha:XA K X (e::es) tA fs)(hn:x ≠ "__name__" := by decide) (hdb:(x==("__debug__" : Str))=false:=by decide)
  (he:starEach (e::es) X.env=(false,eval e X.env)::starEach es X.env:=by rfl) (hpl:(backTo pos (starEach es X.env)).any (·.1)=false:=by rfl):XN K X (.Call (.Name x p) (e::es) [] pos) (Jo r tA) (fL φ fs):=⟨ha.hk,lD hc hg hm hv ha.pa hn hdb he hpl,Ho o ha.ev⟩
theorem Hq{r:List V→Hp→VK→Prop}{φ:List D→Option D}{x:Str}{id:String}{p:Pos}(o:fX K r φ)(hc:cN X (.type id) r)(hg:Gl X x)(hm:X.mg x=none)(hv:bootBuiltins x=some (.type id))(ha:XA K X (e::es) tA fs)(hn:x ≠ "__name__" := by decide) (hdb:(x==("__debug__" : Str))=false:=by decide)
  (he:starEach (e::es) X.env=(false,eval e X.env)::starEach es X.env:=by rfl) (hpl:(backTo pos (starEach es X.env)).any (·.1)=false:=by rfl):XN K X (.Call (.Name x p) (e::es) [] pos) (Jo r tA) (fL φ fs):=⟨ha.hk,xN hc hg hm hv ha.pa hn hdb he hpl,Ho o ha.ev⟩
theorem fG{H:Hp}{d:D}{vs:List V}(h:bB K H [d] vs):∃v,vs=[v]∧Rv K H d v:=by
 unfold bB at h
 obtain⟨y,ys,rfl,h1,h2⟩:=h
 unfold bB at h2
 subst h2
 exact⟨y,rfl,h1⟩
theorem Kr{H:Hp}{d d':D}{vs:List V}(h:bB K H [d,d'] vs):∃v v',vs=[v,v']∧Rv K H d v∧Rv K H d' v':=by
 unfold bB at h
 obtain⟨y,ys,rfl,h1,h2⟩:=h
 obtain⟨v,rfl,h3⟩:=fG h2
 exact⟨y,v,rfl,h1,h3⟩
def uG:List D→Option D
 | [d]=>(iV d).map λds=>.int ds.length
 | _=>none
def Py(K:aA):List V→Hp→VK→Prop:=λxs H Q=>∃p ys,xs=[.ref p]∧(fW K H p ys∨jH K H p ys)∧Q (.int ys.length) H
theorem qC:fX K (Py K) uG:=λvs H ds d Q rs q k=>by
 unfold uG at q
 split at q
 ·rename_i d0
  obtain⟨es,q1,rfl⟩:=eO q
  obtain⟨v,rfl,r⟩:=fG rs
  obtain⟨p,xs,rfl,r2,r3⟩:=Ei q1 r
  refine⟨p,xs,rfl,r2,k _ H (aB.refl _) (.cD rfl ?_)⟩
  rw[r3.length];unfold Rv;rfl
 ·cases q
theorem qD(hk:X.K=K):cN X (.builtin "len") (Py K):=by subst hk;exact pK
theorem lV{H:Hp}:∀{ns:List Int} {xs:List V},bB K H (ns.map D.int) xs↔xs=ns.map V.int
 | [],xs=>by rw[F4,F4];unfold bB;rfl
 | n::ns,xs=>by
  rw[E7,E7]
  unfold bB
  constructor
  ·rintro⟨y,ys,rfl,h1,h2⟩
   unfold Rv at h1
   rw[h1,lV.mp h2]
  ·rintro rfl
   exact⟨_,_,rfl,by unfold Rv;rfl,lV.mpr rfl⟩
def fY:List D→Option (List Bool)
 | []=>some []
 | .bl i::ds=>(fY ds).map (i::·)
 | _=>none
theorem rT{H:Hp}:∀{ds:List D} {bs:List Bool} {xs:List V},fY ds=some bs→bB K H ds xs→xs=bs.map V.bl
 | [],bs,xs,h,r=>by unfold fY at h;cases h;unfold bB at r;exact r
 | d::ds,bs,xs,h,r=>by
  cases d with
  | bl i=>
   unfold fY at h
   obtain⟨cs,h1,rfl⟩:=eO h
   unfold bB at r
   obtain⟨y,ys,rfl,r1,r2⟩:=r
   unfold Rv at r1
   rw[r1,rT h1 r2]
   rfl
  | _=>unfold fY at h;cases h
theorem oF{α:Type}(p:α→Bool):∀l:List α,fY (l.map λx=>D.bl (p x))=some (l.map p)
 | []=>rfl
 | a::l=>by rw[E7];unfold fY;rw[oF p l];rfl
def Ah:List D→Option D
 | [.lst ds]=>(fY ds).map λbs=>.bl (bs.all id)
 | _=>none
def Pz(K:aA):List V→Hp→VK→Prop:=λxs H Q=>∃(p:Addr)(bs:List Bool),xs=[.ref p]∧fW K H p (bs.map V.bl)∧Q (.bl (bs.all id)) H
theorem Ek{H:Hp}{ds:List D}{bs:List Bool}{v:V}(h:fY ds=some bs)(r:Rv K H (.lst ds) v):∃p,v=.ref p∧fW K H p (bs.map V.bl):=by
 unfold Rv at r
 obtain⟨p,xs,r1,r2,r3⟩:=r
 rw[rT h r3]at r2
 exact⟨p,r1,r2⟩
theorem Ks:fX K (Pz K) Ah:=λvs H ds d Q rs q k=>by
 unfold Ah at q
 split at q
 ·obtain⟨bs,q1,rfl⟩:=eO q
  obtain⟨v,rfl,r⟩:=fG rs
  obtain⟨p,rfl,r2⟩:=Ek q1 r
  exact⟨p,bs,rfl,r2,k _ H (aB.refl _) (.cD rfl (by unfold Rv;rfl))⟩
 ·cases q
theorem Ku(hk:X.K=K)(hc:X.calm=true:=by rfl):cN X (.builtin "all") (Pz K):=by subst hk;exact zU hc
def vZ:List D→Option D
 | [.int i,.int j]=>some (.int (if j<i then j else i))
 | _=>none
theorem El:fX K (λxs H Q=>∃i j,xs=[.int i,.int j]∧Q (.int (if j<i then j else i)) H) vZ:=λvs H ds d Q rs q k=>by
 unfold vZ at q
 split at q
 ·cases q
  obtain⟨v,w,rfl,r1,r2⟩:=Kr rs
  unfold Rv at r1 r2
  exact⟨_,_,by rw[r1,r2],k _ H (aB.refl _) (.cD rfl (by unfold Rv;rfl))⟩
 ·cases q
end
end L2


namespace L2
open PySem PySem.Spec PyProof.Rows
section
variable{K:aA}{X:Cx}{e a b c:Expr}{es rest:List Expr}{t ta tb:TE}{f g:FE}{tA:TA}{fs:FA}{pos:Pos}{tc:TT}{fc fd:FT}{td:TT}
abbrev FO:=DE→Option (Option Int)
def Vx(K:aA)(t:TO)(f:FO):Prop:=∀(σ:St)(H:Hp)(e:DE)(o:Option Int)(Q:Option Int→Hp→Prop),iQ K H e σ→f e=some o→(∀H',aB H H'→Q o H')→t σ H Q
structure XO(K:aA)(X:Cx)(e:Option Expr)(t:TO)(f:FO):Prop where
 po:PO X e t
 ev:Vx K t f
def Ai:FO:=λ_=>some none
def uH(f:FE):FO:=λe=>(f e).bind λd=>match d with | .int i=>some (some i) | _=>none
theorem Em:XO K X none vM Ai:=⟨Dn,λσ H e o Q re q k=>by cases q;exact k H (aB.refl _)⟩
theorem En(h:XR K X e t f):XO K X (some e) (Gx t) (uH f):=⟨Dp h.pe,λσ H e o Q re q k=>by
 unfold uH at q
 obtain⟨d,q1,q2⟩:=aM q
 split at q2
 ·rename_i i
  cases q2
  refine h.ev σ H H e _ _ (Zn.self K H) re q1 λv H1 Z1 s1 t1 z1 rv=>?_
  unfold Rv at rv
  exact⟨i,rv,k H1 s1⟩
 ·cases q2⟩
variable{lo hi:Option Expr}{tl th:TO}{fl fh:FO}{p2:Pos}
def Aj(K:aA):R2:=λx y H Q=>∃l b xs zs,x=.ref l∧y=.ref b∧fW K H l xs∧fW K H b zs∧xs.length+zs.length≤sizeLine∧∀p,H p=none→Q (.ref p) (upd H p (.lst (xs++zs)))
theorem Eo(hk:X.K=K):eH X (binaryOp .Add) (Aj K):=by
 subst hk
 intro pins s σ H x y v u Q I rx ry h
 obtain⟨l,b,xs,zs,rfl,rfl,h1,h2,hz,q⟩:=h
 cases rx
 cases ry
 obtain⟨its,r,pl,_⟩:=I.list h1
 obtain⟨its2,r2,rK,_⟩:=I.list h2
 obtain⟨⟨cl,dd,da,sl⟩,ho,hc,n,hd⟩:=pl.isList
 obtain⟨⟨cl2,dd2,da2,sl2⟩,ho2,hc2,n2,hd2⟩:=rK.isList
 dsimp only at hc hd hc2 hd2
 subst hc hd hc2 hd2
 have hlen:its.toArray.size+its2.toArray.size≤sizeLine:=by rw[A9,A9,←r.length,←r2.length];exact hz
 have ea:its.toArray++its2.toArray=(its++its2).toArray:=by simp
 refine concat_meets ⟨_,ho,rfl⟩ ⟨_,ho2,rfl⟩ noFill_list_add seq_list_add PySem.F.slot_list_add PySem.F.entry_list_add (PySem.F.args_list_add_2 _ _)
  (list_addW l b its.toArray its2.toArray n n2 dd dd2 sl sl2 hlen) ⟨ho,ho2,?_⟩
 rw[ea]
 exact⟨.ref _,_,I.Ot (t':=s.toks) (r.append r2) (by rw[E4];exact hz),rfl,q _ I.fresh⟩
def jN(a b:D):Option D:=match a,b with
 | .int i,.int j=>some (.int (i+j))
 | .lst x,.lst y=>if D.gU (x++y)=true∧x.length+y.length≤100000 then some (.lst (x++y))else none
 | _,_=>none
theorem bB.append{H:Hp}:∀{ds es:List D} {xs ys:List V},bB K H ds xs→bB K H es ys→bB K H (ds++es) (xs++ys)
 | [],es,xs,ys,h,h'=>by unfold bB at h;subst h;exact h'
 | d::ds,es,xs,ys,h,h'=>by unfold bB at h;obtain⟨y,yt,rfl,h1,h2⟩:=h;rw[G3,G3];unfold bB;exact⟨y,_,rfl,h1,bB.append h2 h'⟩
theorem Ep:vV K (λx y H Q=>yN (λi j=>.int (i+j)) x y H Q∨Aj K x y H Q) jN:=λx y H a b d Q ra rb q k=>by
 unfold jN at q
 split at q
 ·cases q;unfold Rv at ra rb;exact .inl ⟨_,_,ra,rb,k _ H (aB.refl _) (.cD rfl (by unfold Rv;rfl))⟩
 ·split at q
  ·rename_i c
   cases q
   unfold Rv at ra rb
   obtain⟨p,xs,rfl,r2,r3⟩:=ra
   obtain⟨p',xs',rfl,r2',r3'⟩:=rb
   refine .inr ⟨p,p',xs,xs',rfl,rfl,r2,r2',oE (by rw[r3.length,r3'.length];exact c.2),λl hl=>?_⟩
   exact k _ _ (gQ hl _) (vX (aB.refl _) (.gU c.1 (r3.append r3')) hl)
  ·cases q
 ·cases q
theorem qF(ha:XR K X a ta f)(hb:XR K X b tb g):XN K X (.BinOp a .Add b pos) (pF (λx y H Q=>yN (λi j=>.int (i+j)) x y H Q∨Aj K x y H Q) ta tb) (f2 jN f g):=jL (Jb.or (Eo ha.hk)) Ep ha hb
def Sy(K:aA)(wi:TI)(fi:FA):Prop:=∀{N:Fp}(σ:St)(H Z:Hp)(e:DE)(ds:List D)(R:It→Hp→Prop),Zn K N Z H→iQ K Z e σ→fi e=some ds →
 (∀J H' Z' P vs,aB H H'→aB Z Z'→Zn K N Z' H'→Ju J P vs→(∀H2,aB Z' H2→P H2)→bB K Z' ds vs→R J H')→wi σ H R
structure XI(K:aA)(X:Cx)(tg iter:Expr)(wi:TI)(fi:FA):Prop where
 hk:X.K=K
 pi:PI X tg iter wi
 ev:Sy K wi fi
def Ak(f:FE):FA:=λe=>(f e).bind iV
def Tc(K:aA)(t:TE):TI:=λσ H R=>Gs K t σ H R∨Ny K t σ H R
theorem Kv{tg:Expr}(h:XR K X e t f):XI K X tg e (Tc K t) (Ak f):=⟨h.hk,by
 have hk:=h.hk
 subst hk
 exact λpins s σ H R I q=>q.elim (Dg h.pe pins s σ H R I) (Iw h.pe pins s σ H R I),λσ H Z e ds R z re q k=>by
 unfold Ak at q
 obtain⟨d,q1,q2⟩:=aM q
 cases d with
 | lst es=>
  unfold iV at q2;cases q2
  refine .inl (h.ev σ H Z e _ _ z re q1 λv H1 Z1 s1 t1 z1 rv=>?_)
  unfold Rv at rv
  obtain⟨p,xs,rfl,r2,r3⟩:=rv
  exact⟨p,rfl,⟨xs,z1.sm.seq r2⟩,k _ H1 Z1 _ xs s1 t1 z1 zT (λH2 s=>s.seq r2) r3⟩
 | tup es=>
  unfold iV at q2;cases q2
  refine .inr (h.ev σ H Z e _ _ z re q1 λv H1 Z1 s1 t1 z1 rv=>?_)
  unfold Rv at rv
  obtain⟨p,xs,rfl,r2,r3⟩:=rv
  exact⟨p,rfl,⟨xs,z1.sm.tup r2⟩,k _ H1 Z1 _ xs s1 t1 z1 Dy (λH2 s=>s.tup r2) r3⟩
 | _=>unfold iV at q2;cases q2⟩
def cI(lo:Int)(n:Nat):List D:=(D8 n).map λi:Nat=>D.int (lo+(i:Int))
theorem xY{H:Hp}(lo:Int)(n:Nat):bB K H (cI lo n) ((D8 n).map λi:Nat=>V.int (lo+(i:Int))):=by
 unfold cI
 refine bB.of (by simp) λi d x h1 h2=>?_
 rw[B9]at h1 h2
 cases q:(D8 n)[i]? with
 | none=>rw[q]at h1;cases h1
 | some j=>rw[q]at h1 h2;cases h1;cases h2;unfold Rv;rfl
def lim(i:Int):Bool:=decide (-100000≤i∧i≤100000)
def oG(fs:FA):FA:=λe=>(fs e).bind λds=>match ds with
 | [.int n]=>if lim n=true then some (cI 0 n.toNat)else none
 | _=>none
theorem Kw{i:Int}(h:lim i=true):-100000≤i∧i≤100000:=of_decide_eq_true h
def fZ(e:DE)(fr:List Nat):DE:=fr.map λi=>(e[i]?).getD none
theorem Er{H:Hp}{e:DE}{σ:St}{fr:List Nat}{d:D}{x:V}(re:iQ K H e σ)(r:Rv K H d x):iQ K H (some d::fZ e fr) (some x::tW σ fr):=λi d' h=>by
 cases i with
 | zero=>simp at h;subst h;exact⟨x,rfl,r⟩
 | succ i=>
  rw[List.getElem?_cons_succ]at h ⊢
  unfold fZ at h
  unfold tW
  rw[B9]at h ⊢
  cases q:fr[i]? with
  | none=>rw[q]at h;cases h
  | some j=>
   rw[q]at h
   have h:(e[j]?).getD none=some d':=C3 h
   have h2:e[j]?=some (some d'):=by
    cases q2:e[j]? with
    | none=>rw[q2]at h;cases h
    | some o=>rw[q2]at h;rw[show o=some d' from h]
   obtain⟨v,h3,h4⟩:=re j d' h2
   refine⟨v,?_,h4⟩
   show some (σ.getD j none)=_
   rw[E8,h3]
   rfl
def gZ(c:D→Option Bool)(el:D→Option D):List D→Option (List D)
 | []=>some []
 | x::xs=>(c x).bind λb=>if b=true then(el x).bind λy=>(gZ c el xs).map (y::·)else gZ c el xs
def iB(fi:FA)(fr:List Nat)(fc:FT)(fe:FE):FE:=λe=>(fi e).bind λxs=>if xs.length≤100000 then(gZ (λx=>fc (some x::fZ e fr)) (λx=>fe (some x::fZ e fr)) xs).map D.lst else none
theorem uI{H:Hp}{p:Addr}{o:HO}(n:gR H p):jY K H (upd H p o):=λa xs h=>h.upd n
theorem Es{wi:TI}{fi:FA}{fr:List Nat}{te:TE}{fe:FE}(hi:Sy K wi fi)(hc:yQ K tc fc)(he:uD K te fe):uD K (zP wi 1 fr (cR 0) tc te) (iB fi fr fc fe):=by
 intro σ H e d Q re q k
 unfold iB at q
 obtain⟨xs,q1,q⟩:=aM q
 split at q
 ·rename_i hlen
  obtain⟨ds,q2,rfl⟩:=eO q
  refine hi σ H H e xs _ (Zn.self K H) re q1 λJ H1 Z1 P vs s1 t1 z1 hJ hP rvs=>?_
  intro D0 hD
  have hl:=rvs.length
  have Vy:H D0=none:=s1.free hD
  generalize hcc:(λx=>fc (some x::fZ e fr))=cc at q2
  generalize hel:(λx=>fe (some x::fZ e fr))=el at q2
  refine⟨λi m ys H2=>∃Ni Rj A,m=vs.length-i∧i≤vs.length∧ds=Ni++Rj∧gZ cc el (xs.drop i)=some Rj∧aB H1 H2∧H2 D0=some (.lst ys)∧bL K H2 Ni A ys∧(∀a,A a→H1 a=none∧a≠D0)∧ys.length≤i,
   ⟨vs.length,[],ds,nil,by simp,N2 _,rfl,by simpa using q2,gQ hD _,dH,by unfold bL;exact⟨λ_ z=>z,rfl⟩,λ_ z=>z.elim,B4 _⟩,?_⟩
  rintro i m ys H2 ⟨Ni,Rj,A,rfl,hi',hds,hcl,s2,hD2,ow,fr2,hyl⟩
  obtain⟨j1,j2,j3⟩:=hJ i H2 (hP H2 (z1.sm.trans s2))
  refine⟨hD2,?_⟩
  by_cases hlt:i<vs.length
  ·refine .inr ⟨j1 hlt,λx H' y=>?_⟩
   obtain⟨e1,ex⟩:=j2 x H' y
   subst e1
   have hx:=ex hlt
   have hxi:i<xs.length:=by omega
   have hxs:xs.drop i=xs[i]::xs.drop (i+1):=F7 hxi
   obtain⟨x',hx',rx⟩:=rvs.get (B3 hxi)
   rw[hx]at hx'
   cases hx'
   rw[hxs]at hcl
   unfold gZ at hcl
   obtain⟨bb,c1,c2⟩:=aM hcl
   show Kp 1 σ fr (some x::tW σ fr)∧_
   refine⟨⟨by simp[blk],λj v hv=>?_⟩,?_⟩
   ·cases j with
    | zero=>simp[blk]at hv
    | succ j=>simpa[blk]using hv
   have Uv:iQ K H' (some xs[i]::fZ e fr) (some x::tW σ fr):=Er (re.same (s1.trans s2)) ((z1.sm.trans s2).rv _ _ rx)
   refine hc _ H' _ bb _ Uv (by rw[←hcc]at c1;exact c1) λH3 s3=>?_
   have Td:=s3 _ _ hD2
   cases bb with
   | false=>
    rw[if_neg (by decide)]at c2 ⊢
    exact⟨vs.length-(i+1),by omega,Ni,Rj,A,rfl,by omega,hds,c2,s2.trans s3,Td,ow.same s3,fr2,by omega⟩
   | true=>
    rw[if_pos rfl]at c2 ⊢
    obtain⟨dy,c3,c4⟩:=aM c2
    obtain⟨Vz,c5,rfl⟩:=eO c4
    refine he _ H3 _ dy _ (Uv.same s3) (by rw[←hel]at c3;exact c3) λyv H4 s4 n4=>?_
    have Uw:=s4 _ _ Td
    refine⟨Uw,Hh (by omega),vs.length-(i+1),by omega,Ni++[dy],Vz,?_⟩
    obtain⟨B,oB,fB⟩:=n4
    have hB:∀a,B a→H1 a=none∧a≠D0:=λa qa=>⟨(s2.trans s3).free (fB a qa),λz=>by have q0:=fB a qa;rw[z,Td]at q0;cases q0⟩
    refine⟨cF A B,rfl,by omega,by rw[hds];simp,c5,λb o eb=>?_,dH,?_,λa qa=>qa.elim (fr2 a) (hB a),by rw[E4];simp;exact hyl⟩
    ·rw[aU (bN eb hD)]
     exact(s2.trans (s3.trans s4)) b o eb
    ·have o4:=(ow.same s3).same s4
     have ap:Apart A B:=λa qa qb=>by
      obtain⟨⟨u,eu⟩,_⟩:=bL.cells _ _ _ (ow.same s3) a qa
      rw[fB a qb]at eu;cases eu
     have all:bL K H4 (Ni++[dy]) (cF A B) (ys++[yv]):=cA.mpr ((cA.mp o4).snoc oB ap)
     exact bL.frame (uI (fO Uw)) _ _ _ all λa qa=>aU (qa.elim (λz=>(fr2 a z).2) λz=>(hB a z).2)
  ·have ei:i=vs.length:=by omega
   subst ei
   have:xs.drop vs.length=[]:=List.drop_eq_nil_of_le (by omega)
   rw[this]at hcl
   unfold gZ at hcl
   cases hcl
   rw[K8]at hds
   subst hds
   refine .inl ⟨j3 (B4 _),k _ H2 (s1.trans s2) ⟨cF (·=D0) A,?_,λa qa=>qa.elim (λz=>by cases z;exact Vy) λz=>s1.free (fr2 a z).1⟩⟩
   unfold Ow
   exact⟨D0,ys,A,rfl,hD2,λz=>(fr2 D0 z).2 rfl,λ_=>Iff.rfl,ow⟩
 ·cases q
def rW:FT:=λ_=>some true
structure Ux(K:aA)(X:Cx)(ifs:List Expr)(t:TT)(f:FT):Prop where
 Wa:Ov X ifs t
 ev:yQ K t f
theorem Et:Ux K X [] Ox rW:=⟨Dt,λσ H e b Q re q k=>by cases q;exact k H (aB.refl _)⟩
theorem Eu{tg elt iter:Expr}{ifs:List Expr}{scope:Scope}{wi:TI}{fi:FA}{te:TE}{fe:FE}(N:List Str)(fr:List Nat)(hcalm:X.calm=true)(B:bQ X.env.scope scope X.N N 1 fr)(hi:XI K X tg iter wi fi)
  (hg:∀cl fp s H C,PG (cH X scope N cl fp s H C) tg (cR 0)) (hc:∀cl fp s H C,Ux K (cH X scope N cl fp s H C) ifs tc fc) (he:∀cl fp s H C,XN K (cH X scope N cl fp s H C) elt te fe)
  (hs:∀x,foldedSetIterable iter X.env x=pure x:=by intro _;rfl):XN K X (.ListComp elt [⟨tg,iter,ifs,0⟩] scope pos) (zP wi 1 fr (cR 0) tc te) (iB fi fr fc fe):=
 ⟨hi.hk,Dw N 1 fr hcalm B hi.pi hg (λcl fp s H C=>(hc cl fp s H C).Wa) (λcl fp s H C=>(he cl fp s H C).pe) hs,
  Es hi.ev (hc [] [] X.s₀ X.H₀ 0).ev (he [] [] X.s₀ X.H₀ 0).ev⟩
def uJ(K:aA)(n:Nat)(F:List D→Option D):Sp:=λvs H Q _=>∃ds d,ds.length=n∧bB K H ds vs∧F ds=some d∧∀v H',aB H H'→uC K H H' d v→Q v H'
def gA(n:Nat)(F:List D→Option D)(fs:FA):FE:=λe=>(fs e).bind λds=>if ds.length=n then F ds else none
theorem iZ{x:Str}{k n:Nat}{F:List D→Option D}{p:Pos}(C:tL X.prog X.w X.K X.mg X.base x k n (uJ K n F))(hr:cT k X.A)(hg:Gl X x)(ha:XA K X (e::es) tA fs)(hdb:(x==("__debug__" : Str))=false:=by decide)
  (he:starEach (e::es) X.env=(false,eval e X.env)::starEach es X.env:=by rfl) (hpl:(backTo pos (starEach es X.env)).any (·.1)=false:=by rfl):XN K X (.Call (.Name x p) (e::es) [] pos) (rG (uJ K n F) [] E0 tA) (gA n F fs):=
 ⟨ha.hk,Jz C hr hg ha.pa hdb he hpl,λσ H e d Q re q k=>by
  unfold gA at q
  obtain⟨ds,q1,q2⟩:=aM q
  split at q2
  ·rename_i hl
   refine call_of (ha.ev σ H H e ds _ (Zn.self K H) re q1 λvs H1 Z1 s1 t1 z1 rs=>?_)
   exact⟨ds,d,hl,z1.sm.Ec _ _ rs,q2,λv H2 s2 n=>k v H2 (s1.trans s2) (n.back s1)⟩
  ·cases q2⟩
end
end L2


namespace L2
open PySem PySem.Spec PyProof.Rows
inductive SD where
  | no | fro (d:D) | own (d:D) | inn (v:V) (d:D)
def SD.z:SD→Option D
 | .fro d=>some d
 | .own d=>if d.cD=true then some d else none
 | .inn _ d=>if d.cD=true then some d else none
 | .no=>none
def SD.r:SD→Option D
 | .fro d=>some d
 | .own d=>some d
 | .inn _ d=>some d
 | .no=>none
abbrev EN:=List SD
def zE(env:EN):DE:=env.map SD.z
def rE(env:EN):DE:=env.map SD.r
def cO(K:aA)(H Z:Hp):SD→Fp→Option V→Prop
 | .no,A,_=>None A
 | .fro d,A,y=>None A∧∃v,y=some v∧Rv K Z d v
 | .own d,A,y=>∃v,y=some v∧Ow K H d A v
 | .inn v d,A,y=>y=some v∧Ow K H d A v
def Rel(K:aA)(B:Hp)(env:EN)(σ:St)(H:Hp):Prop:=∃A,bR (cO K H (out H A)) env A σ∧aB B (out H A)
section
variable{K:aA}{B B' H H' Z Z':Hp}{env:EN}{σ:St}{A:Fp}
theorem bR.all{α β:Type}{R:α→Fp→β→Prop}{Pr:Addr→Prop}:∀{ds:List α} {A:Fp} {ys:List β},bR R ds A ys→(∀d B y,R d B y→∀a,B a→Pr a)→∀a,A a→Pr a
 | [],A,ys,h,_,a,q=>absurd q (h.1 a)
 | d::ds,A,ys,⟨y,yt,A1,A2,h1,h2,h3,h4,h5⟩,m,a,q=>((h3 a).mp q).elim (m _ _ _ h4 a) (bR.all h5 m a)
theorem cO.cells{s:SD}{y:Option V}(h:cO K H Z s A y):∀a,A a→gF H a:=by
 cases s with
 | no=>exact λa q=>absurd q (h a)
 | fro d=>exact λa q=>absurd q (h.1 a)
 | own d=>obtain⟨v,_,o⟩:=h;exact Ow.cells d A v o
 | inn v d=>exact Ow.cells d A v h.2
theorem bW(h:bR (cO K H Z) env A σ):∀a,A a→gF H a:=bR.all h λ_ _ _ q=>q.cells
theorem Rel.mono(h:Rel K B' env σ H)(s:aB B B'):Rel K B env σ H:=let ⟨A,a,b⟩:=h;⟨A,a,s.trans b⟩
theorem cV{A A':Fp}(s:aB H H')(h:∀a,A' a→A a∨H a=none):aB (out H A) (out H' A'):=λb o e=>by
 obtain⟨e1,e2⟩:=aQ.mp e
 refine aQ.mpr ⟨λq=>?_,s b o e2⟩
 rcases h b q with q | q
 ·exact e1 q
 ·rw[q]at e2;cases e2
theorem cO.same{s:SD}{y:Option V}(h:cO K H Z s A y)(e:aB H H')(z:aB Z Z'):cO K H' Z' s A y:=by
 cases s with
 | no=>exact h
 | fro d=>obtain⟨h1,v,h2,h3⟩:=h;exact⟨h1,v,h2,z.rv _ _ h3⟩
 | own d=>obtain⟨v,h1,h2⟩:=h;exact⟨v,h1,h2.same e⟩
 | inn v d=>exact⟨h.1,h.2.same e⟩
theorem Rel.same(h:Rel K B env σ H)(s:aB H H'):Rel K B env σ H':=by
 obtain⟨A,a,b⟩:=h
 have g:aB (out H A) (out H' A):=cV s λa q=>.inl q
 exact⟨A,a.mono λe C z _ q=>q.same s g,b.trans g⟩
theorem uK(h:bR (cO K H (out H A)) env A σ):Zn K A (out H A) H:=⟨dI H A,zY λa q=>(bW h a q).2,λa q=>⟨by
 unfold out;rw[if_pos q],λz=>by obtain⟨⟨o,e⟩,_⟩:=bW h a q;rw[z]at e;cases e⟩⟩
theorem Rel.r(h:Rel K B env σ H):iQ K H (rE env) σ:=λi d q=>by
 obtain⟨A,a,b⟩:=h
 unfold rE at q
 rw[B9]at q
 cases e:env[i]? with
 | none=>rw[e]at q;cases q
 | some s=>
  rw[e]at q
  obtain⟨y,A1,C,h1,h2,h3,h4,_⟩:=a.focus e
  cases s with
  | no=>cases q
  | fro d0=>cases q;obtain⟨_,v,rfl,h5⟩:=h4;exact⟨v,h1,(dI H A).rv _ _ h5⟩
  | own d0=>cases q;obtain⟨v,rfl,h5⟩:=h4;exact⟨v,h1,Ow.rv _ _ _ h5⟩
  | inn v d0=>cases q;obtain⟨rfl,h5⟩:=h4;exact⟨v,h1,Ow.rv _ _ _ h5⟩
theorem Qa(a:bR (cO K H (out H A)) env A σ):iQ K (out H A) (zE env) σ:=λi d q=>by
 unfold zE at q
 rw[B9]at q
 cases e:env[i]? with
 | none=>rw[e]at q;cases q
 | some s=>
  rw[e]at q
  obtain⟨y,A1,C,h1,h2,h3,h4,_⟩:=a.focus e
  cases s with
  | no=>cases q
  | fro d0=>cases q;obtain⟨_,v,rfl,h5⟩:=h4;exact⟨v,h1,h5⟩
  | own d0=>
   obtain⟨v,rfl,h5⟩:=h4
   have q:(if d0.cD=true then some d0 else none)=some d:=C3 q
   split at q
   ·rename_i im
    cases q
    exact⟨v,h1,(lK _ v im (Ow.rv _ _ _ h5)).out (λ_ z=>z.elim) λx hx=>(bW a x hx).2⟩
   ·cases q
  | inn v d0=>
   obtain⟨rfl,h5⟩:=h4
   have q:(if d0.cD=true then some d0 else none)=some d:=C3 q
   split at q
   ·rename_i im
    cases q
    exact⟨v,h1,(lK _ v im (Ow.rv _ _ _ h5)).out (λ_ z=>z.elim) λx hx=>(bW a x hx).2⟩
   ·cases q
theorem Rel.own{i:Nat}{d:D}{v:V}(h:Rel K B env σ H)(hi:i<env.length)(s:aB H H')(n:uC K H H' d v):Rel K B (env.set i (.own d)) (σ.set i (some v)) H':=by
 obtain⟨A,a,b⟩:=h
 obtain⟨N,o,f⟩:=n
 have cl:=bW a
 obtain⟨y,A1,C,h1,h2,h3,h4,k⟩:=a.focus (B3 hi)
 have g:aB (out H A) (out H' (cF N C)):=cV s λx q=>q.elim (λq=>.inr (f x q)) λq=>.inl ((h3 x).mpr (.inr q))
 refine⟨cF N C,k (cO K H' (out H' (cF N C))) (λe D z _ q=>q.same s g) (.own d) (some v) N (λx q c=>?_) ⟨v,rfl,o⟩,b.trans g⟩
 obtain⟨⟨u,e⟩,_⟩:=cl x ((h3 x).mpr (.inr c))
 rw[f x q]at e;cases e
theorem wA{i:Nat}{d:D}{v:V}(a:bR (cO K H (out H A)) env A σ)(b:aB B (out H A))(hi:i<env.length)(s:aB H H')(t:aB (out H A) Z')(z:Zn K A Z' H')(r:Rv K Z' d v):Rel K B (env.set i (.fro d)) (σ.set i (some v)) H':=by
 obtain⟨y,A1,C,h1,h2,h3,h4,k⟩:=a.focus (B3 hi)
 have hC:∀x,cF nil C x→A x:=λx q=>q.elim False.elim λq=>(h3 x).mpr (.inr q)
 have g:aB (out H A) (out H' (cF nil C)):=cV s λx q=>.inl (hC x q)
 have g2:aB Z' (out H' (cF nil C)):=λx o e=>aQ.mpr ⟨λq=>(by rw[(z.no x (hC x q)).1]at e;cases e),z.sm x o e⟩
 exact⟨cF nil C,k (cO K H' (out H' (cF nil C))) (λe D z _ q=>q.same s g) (.fro d) (some v) nil (λx q c=>q) ⟨λ_ z=>z,v,rfl,g2.rv _ _ r⟩,b.trans g⟩
def Al(env:EN)(j:Nat):EN:=match env[j]? with
 | some (.own d)=>env.set j (.fro d)
 | _=>env
def jG(js:List Nat)(env:EN):EN:=js.foldl Al env
theorem set_same{α:Type}{l:List α}{i:Nat}{x:α}(h:l[i]?=some x):l.set i x=l:=by
 apply List.ext_getElem?
 intro j
 rw[List.getElem?_set]
 by_cases c:i=j
 ·subst c
  rw[if_pos rfl,h]
  split
  ·rfl
  ·rename_i q;rw[List.getElem?_eq_none (by omega)]at h;cases h
 ·rw[if_neg c]
theorem Rel.Al{j:Nat}(h:Rel K B env σ H):Rel K B (Al env j) σ H:=by
 unfold L2.Al
 cases e:env[j]? with
 | none=>exact h
 | some s=>
  cases s with
  | no=>exact h
  | fro d=>exact h
  | inn v d=>exact h
  | own d=>
   obtain⟨A,a,b⟩:=h
   have cl:=bW a
   obtain⟨y,A1,C,h1,h2,h3,h4,k⟩:=a.focus e
   obtain⟨v,rfl,o⟩:=h4
   have g:aB (out H A) (out H (cF nil C)):=cV (aB.refl _) λx q=>q.elim False.elim λq=>.inl ((h3 x).mpr (.inr q))
   have:=k (cO K H (out H (cF nil C))) (λe D z _ q=>q.same (aB.refl _) g) (.fro d) (some v) nil (λx q c=>q)
    ⟨λ_ z=>z,v,rfl,o.out (λx q c=>h2 x q (c.elim False.elim id)) λx q=>(cl x ((h3 x).mpr (.inr (q.elim False.elim id)))).2⟩
   rw[set_same h1]at this
   exact⟨cF nil C,this,b.trans g⟩
theorem Rel.jG{js:List Nat}(h:Rel K B env σ H):Rel K B (jG js env) σ H:=by
 unfold L2.jG
 induction js generalizing env with
 | nil=>exact h
 | cons j js ih=>exact ih h.Al
end
inductive SR where
  | next (env:EN) | ret (d:D) | brk (env:EN) | cont (env:EN) | bad | rete (d:D) (env:EN)
def qG(K:aA)(B:Hp)(E:Ends):SR→Prop
 | .next env=>∀σ H,Rel K B env σ H→E.nx σ H
 | .ret d=>∀v H A,aB B (out H A)→Ow K H d A v→E.rt v H
 | .brk env=>∀σ H,Rel K B env σ H→E.bk σ H
 | .cont env=>∀σ H,Rel K B env σ H→E.ct σ H
 | .bad=>False
 | .rete d env=>∀v σ H,Rel K B (env++[.own d]) (σ++[some v]) H→E.rt v H
theorem qG.mono{K:aA}{B B':Hp}{E:Ends}{r:SR}(h:qG K B E r)(s:aB B B'):qG K B' E r:=by
 cases r with
 | next env=>exact λσ H q=>h σ H (q.mono s)
 | ret d=>exact λv H A q=>h v H A (s.trans q)
 | brk env=>exact λσ H q=>h σ H (q.mono s)
 | cont env=>exact λσ H q=>h σ H (q.mono s)
 | bad=>exact h
 | rete d env=>exact λv σ H q=>h v σ H (q.mono s)
abbrev GS:=EN→SR
def DS(K:aA)(t:TS)(g:GS):Prop:=∀(B:Hp)(E:Ends)(σ:St)(H:Hp)(env:EN),Rel K B env σ H→qG K B E (g env)→t E σ H
def Qc(K:aA)(B:Hp)(E:Ends)(σ:St):SR→Prop
 | .next env=>∀H,Rel K B env σ H→E.nx σ H
 | r=>qG K B E r
def Te(K:aA)(t:TS)(g:GS):Prop:=∀(B:Hp)(E:Ends)(σ:St)(H:Hp)(env:EN),Rel K B env σ H→Qc K B E σ (g env)→t E σ H
theorem Te.ds{K:aA}{t:TS}{g:GS}(h:Te K t g):DS K t g:=λB E σ H env r p=>h B E σ H env r (by
 cases q:g env with
 | next e=>rw[q]at p;exact λH' r'=>p σ H' r'
 | ret d=>rw[q]at p;exact p
 | brk e=>rw[q]at p;exact p
 | cont e=>rw[q]at p;exact p
 | bad=>rw[q]at p;exact p
 | rete d e=>rw[q]at p;exact p)
structure YS(K:aA)(X:Cx)(st:Stmt)(t:TS)(g:GS):Prop where
 ps:PS X st t
 ev:DS K t g
structure YB(K:aA)(X:Cx)(st:List Stmt)(t:TS)(g:GS):Prop where
 ps:tM X st t
 ev:DS K t g
section
variable{K:aA}{X:Cx}{st:Stmt}{sts:List Stmt}{t u:TS}{g g1 g2:GS}{e a b c:Expr}{te ta tb:TE}{f fa fb:FE}{tc:TT}{fc:FT}{pos:Pos}
def aK(g1 g2:GS):GS:=λenv=>match g1 env with
 | .next env'=>g2 env'
 | r=>r
theorem Ky(h1:DS K t g1)(h2:DS K u g2):DS K (Iu t u) (aK g1 g2):=λB E σ H env r p=>by
 unfold aK at p
 refine h1 B {E with nx:=u E} σ H env r ?_
 cases q:g1 env with
 | next env'=>rw[q]at p;exact λσ' H' r'=>h2 B E σ' H' env' r' p
 | ret d=>rw[q]at p;exact p
 | brk d=>rw[q]at p;exact p
 | cont d=>rw[q]at p;exact p
 | bad=>rw[q]at p;exact p
 | rete d e=>rw[q]at p;exact p
def bH:GS:=λenv=>.next env
theorem cW:YB K X [] Gr bH:=⟨Cz,λB E σ H env r p=>p σ H r⟩
theorem aX(h:YS K X st t g):YB K X [st] t g:=⟨Dc h.ps,h.ev⟩
theorem aJ(h:YS K X st t g1)(h2:YB K X sts u g2):YB K X (st::sts) (Iu t u) (aK g1 g2):=⟨yV h.ps h2.ps,Ky h.ev h2.ev⟩
def bU(i:Nat)(f:FE):GS:=λenv=>match f (rE env)with
 | some d=>if i<env.length then .next (env.set i (.own d))else .bad
 | none=>.bad
theorem Kz{i:Nat}(h:uD K te f):DS K (De te (cR i)) (bU i f):=λB E σ H env r p=>by
 unfold bU at p
 split at p
 ·rename_i d q
  split at p
  ·rename_i hi
   exact h σ H (rE env) d _ r.r q λv H' s n=>p _ _ (r.own hi s n)
  ·exact p.elim
 ·exact p.elim
theorem bF{i:Nat}{x:Str}{pos':Pos}(h:XN K X e te f)(hp:PE X e te→PS X (.Assign [.Name x pos'] e pos) (De te (cR i))):YS K X (.Assign [.Name x pos'] e pos) (De te (cR i)) (bU i f):=⟨hp h.pe,Kz h.ev⟩
def cJ(f:FE):GS:=λenv=>match f (rE env)with
 | some d=>.ret d
 | none=>.bad
theorem cL(h:XN K X e te f):YS K X (.Return (some e) pos) (Iv te) (cJ f):=⟨yW h.pe,λB E σ H env r p=>by
 unfold cJ at p
 split at p
 ·rename_i d q
  refine h.ev σ H (rE env) d _ r.r q λv H' s ⟨N,o,fr⟩=>p v H' N (λx u ex=>?_) o
  obtain⟨A,a,b⟩:=r
  have h1:=(aQ.mp (b x u ex)).2
  exact aQ.mpr ⟨λz=>(by rw[fr x z]at h1;cases h1),s x u h1⟩
 ·exact p.elim⟩
def gB(i:Nat):GS:=λenv=>match env[i]? with
 | some (.own d)=>.ret d
 | some (.fro d)=>if d.cD=true then .ret d else .bad
 | _=>.bad
theorem wB{i:Nat}(h:PE X e (pB i)):YS K X (.Return (some e) pos) (Iv (pB i)) (gB i):=⟨yW h,λB E σ H env r p=>by
 unfold gB at p
 obtain⟨A,a,b⟩:=r
 split at p
 ·rename_i d q
  obtain⟨y,A1,C,h1,h2,h3,h4,_⟩:=a.focus q
  obtain⟨v,rfl,o⟩:=h4
  exact⟨v,h1,p v H A1 (b.trans (cV (aB.refl _) λx z=>.inl ((h3 x).mpr (.inl z)))) o⟩
 ·rename_i d q
  split at p
  ·rename_i im
   obtain⟨y,A1,C,h1,h2,h3,h4,_⟩:=a.focus q
   obtain⟨_,v,rfl,rv⟩:=h4
   exact⟨v,h1,p v H nil (b.trans (cV (aB.refl _) λx z=>z.elim)) (lK d v im ((dI H A).rv _ _ rv))⟩
  ·exact p.elim
 ·exact p.elim⟩
def gC(f:FT)(g1 g2:GS):GS:=λenv=>match f (rE env)with
 | some true=>g1 env
 | some false=>g2 env
 | none=>.bad
theorem fH{s1 s2:List Stmt}(hc:XT K X c tc fc)(h1:YB K X s1 t g1)(h2:YB K X s2 u g2):YS K X (.If c s1 s2 pos) (Nu tc t u) (gC fc g1 g2):=⟨Nv hc.pt h1.ps h2.ps,λB E σ H env r p=>by
 unfold gC at p
 split at p
 ·rename_i q
  refine hc.ev σ H (rE env) true _ r.r q λH' s=>?_
  rw[if_pos rfl]
  exact h1.ev B E σ H' env (r.same s) p
 ·rename_i q
  refine hc.ev σ H (rE env) false _ r.r q λH' s=>?_
  rw[if_neg (by decide)]
  exact h2.ev B E σ H' env (r.same s) p
 ·exact p.elim⟩
def jA(i:Nat)(g:GS):List D→EN→SR
 | [],env=>.next env
 | x::xs,env=>if i<env.length then match g (env.set i (.fro x))with
   | .next env'=>jA i g xs env'
   | .cont env'=>jA i g xs env'
   | .brk env'=>.next env'
   | r=>r
  else .bad
def uL(js:List Nat)(i:Nat)(fi:FA)(g:GS):GS:=λenv=>match fi (zE (jG js env))with
 | some xs=>jA i g xs (jG js env)
 | none=>.bad
theorem La{js:List Nat}{i:Nat}{wi:TI}{fi:FA}{tb:TS}(hi:Sy K wi fi)(h:DS K tb g):DS K (zF wi (cR i) tb) (uL js i fi g):=λB E σ H env r p=>by
 unfold uL at p
 have r':Rel K B (jG js env) σ H:=r.jG
 generalize jG js env=jZ at r' p
 split at p
 ·rename_i xs q
  obtain⟨A,a,b⟩:=r'
  refine hi σ H (out H A) (zE jZ) xs _ (uK a) (Qa a) q λJ H1 Z1 P vs s t z hJ hP rvs=>?_
  have hl:=rvs.length
  have g0:aB Z1 (out H1 A):=λx o e=>aQ.mpr ⟨λqa=>(by rw[(z.no x qa).1]at e;cases e),z.sm x o e⟩
  have Tf:Rel K Z1 jZ σ H1:=⟨A,a.mono λe D y _ qq=>qq.same s (cV s λx q=>.inl q),g0⟩
  have bz:aB B Z1:=b.trans t
  have p':=p.mono bz
  refine vO hJ (λk σ2 H2=>∃cP,Rel K Z1 cP σ2 H2∧qG K Z1 E (jA i g (xs.drop k) cP)) ⟨jZ,Tf,by simpa using p'⟩ (λk σ2 H2 _ ⟨cP,⟨A2,a2,b2⟩,_⟩=>hP H2 (b2.trans (dI H2 A2))) ?_ ?_
  ·rintro k x σ2 H2 hx ⟨cP,r2,p2⟩
   have hk:k<xs.length:=by
    have:=B6.mp hx
    obtain⟨h1,_⟩:=this
    omega
   rw[F7 hk]at p2
   unfold jA at p2
   obtain⟨x',hx',rx⟩:=rvs.get (B3 hk)
   rw[hx]at hx'
   cases hx'
   split at p2
   ·rename_i hlen
    obtain⟨A2,a2,b2⟩:=r2
    have r3:Rel K Z1 (cP.set i (.fro xs[k])) (σ2.set i (some x)) H2:=wA a2 b2 hlen (aB.refl _) (aB.refl _) (uK a2) (b2.rv _ _ rx)
    refine h Z1 _ _ H2 _ r3 ?_
    split at p2
    ·rename_i env' q2;rw[q2];exact λσ' H' r'=>⟨env',r',p2⟩
    ·rename_i env' q2;rw[q2];exact λσ' H' r'=>⟨env',r',p2⟩
    ·rename_i env' q2;rw[q2];exact p2
    ·rename_i n1 n2 n3
     cases q2:g (cP.set i (.fro xs[k]))with
     | next e=>exact absurd q2 (n1 e)
     | cont e=>exact absurd q2 (n2 e)
     | brk e=>exact absurd q2 (n3 e)
     | ret d=>rw[q2]at p2;exact p2
     | bad=>rw[q2]at p2;exact p2
     | rete d e=>rw[q2]at p2;exact p2
   ·exact p2.elim
  ·rintro σ2 H2 ⟨cP,r2,p2⟩
   rw[hl,N7]at p2
   exact p2 σ2 H2 r2
 ·exact p.elim
def cM(c:FT)(g:GS):Nat→EN→SR
 | 0,_=>.bad
 | n+1,env=>match c (rE env)with
  | some true=>(match g env with
   | .next env'=>cM c g n env'
   | .cont env'=>cM c g n env'
   | .brk env'=>.next env'
   | r=>r)
  | some false=>.next env
  | none=>.bad
theorem Am{n:Nat}{tb:TS}(hc:yQ K tc fc)(h:DS K tb g):DS K (tO tc tb) (cM fc g n):=λB E σ H env r p=>by
 refine⟨λm σ2 H2=>∃cP,Rel K B cP σ2 H2∧qG K B E (cM fc g m cP),⟨n,env,r,p⟩,?_⟩
 rintro m σ2 H2 ⟨cP,r2,p2⟩
 cases m with
 | zero=>exact p2.elim
 | succ m=>
  unfold cM at p2
  split at p2
  ·rename_i q
   refine hc σ2 H2 (rE cP) true _ r2.r q λH3 s=>?_
   rw[if_pos rfl]
   refine⟨λσ' H'=>∃env',Rel K B env' σ' H'∧qG K B E (cM fc g m env'),λσ' H' ⟨env',a1,a2⟩=>⟨m,K0 m,env',a1,a2⟩,?_⟩
   refine h B _ σ2 H3 cP (r2.same s) ?_
   split at p2
   ·rename_i env' q2;rw[q2];exact λσ' H' r'=>⟨env',r',p2⟩
   ·rename_i env' q2;rw[q2];exact λσ' H' r'=>⟨env',r',p2⟩
   ·rename_i env' q2;rw[q2];exact p2
   ·rename_i n1 n2 n3
    cases q2:g cP with
    | next e=>exact absurd q2 (n1 e)
    | cont e=>exact absurd q2 (n2 e)
    | brk e=>exact absurd q2 (n3 e)
    | ret d=>rw[q2]at p2;exact p2
    | bad=>rw[q2]at p2;exact p2
    | rete d e=>rw[q2]at p2;exact p2
  ·rename_i q
   refine hc σ2 H2 (rE cP) false _ r2.r q λH3 s=>?_
   rw[if_neg (by decide)]
   exact p2 σ2 H3 (r2.same s)
  ·exact p2.elim
theorem Lb{tg iter:Expr}{body:List Stmt}{wi:TI}{fi:FA}{tb:TS}{i:Nat}(js:List Nat)(hp:PassesOwn (model X.prog X.w) X.A X.env X.xe)(Ld:X.calm=true)(hi:XI K X tg iter wi fi)(hg:PG X tg (cR i))(hb:YB K X body tb g)
  (hs:∀x,foldedSetIterable iter X.env x=pure x:=by intro _;rfl):YS K X (.For tg iter body [] pos) (zF wi (cR i) tb) (uL js i fi g):=⟨zG hp Ld hi.pi hg hb.ps hs,La hi.ev hb.ev⟩
theorem An{body:List Stmt}{tb:TS}(n:Nat)(hp:PassesOwn (model X.prog X.w) X.A X.env X.xe)(hc:XT K X c tc fc)(hb:YB K X body tb g):YS K X (.While c body [] pos) (tO tc tb) (cM fc g n):=⟨zA hp hc.pt hb.ps,Am hc.ev hb.ev⟩
end
end L2


namespace L2
open PySem PySem.Spec PyProof.Rows
inductive Step where
  | ix (k:Nat) | key (k:Key) | fld (C:Addr) (f:Str)
def kids:D→List D
 | .lst ds=>ds
 | .dk _ ds=>ds
 | .ins _ _ ds=>ds
 | _=>[]
def lW:D→List D→D
 | .lst _,ds=>.lst ds
 | .dk ks _,ds=>.dk ks ds
 | .ins C nm _,ds=>.ins C nm ds
 | d,_=>d
def qH:Step→D→Option Nat
 | .ix k,.lst ds=>some k
 | .key k,.dk ks _=>posK ks k
 | .fld C f,.ins C' nm _=>if C'=C then posK nm f else none
 | _,_=>none
def rY:List Step→D→Option D
 | [],d=>some d
 | s::p,d=>(qH s d).bind λj=>((kids d)[j]?).bind (rY p)
def lX:List Step→D→D→D
 | [],_,d'=>d'
 | s::p,d,d'=>match qH s d with
  | some j=>(match (kids d)[j]? with
   | some c=>lW d ((kids d).set j (lX p c d'))
   | none=>d)
  | none=>d
def stepV(H:Hp)(s:Step)(v:V):Option V:=match v with
 | .ref a=>(match s,H a with
  | .ix k,some (.lst xs)=>xs[k]?
  | .key k,some (.dK kvs)=>xO kvs k
  | .fld C f,some (.ins C' _ fs)=>if C'=C then fs.lookup f else none
  | _,_=>none)
 | _=>none
def Le(H:Hp):List Step→V→Option V
 | [],v=>some v
 | s::p,v=>(stepV H s v).bind (Le H p)
theorem uM{nm:List Str}{xs:List V}{f:Str}(h:nm.length=xs.length):(nm.zip xs).lookup f=(posK nm f).bind λj=>xs[j]?:=by
 induction nm generalizing xs with
 | nil=>unfold posK;rfl
 | cons a nm ih=>
  cases xs with
  | nil=>simp at h
  | cons x xs=>
   have ih:=ih (xs:=xs) (by simpa using h)
   unfold posK
   rw[M8,G1]
   by_cases c:a=f
   ·subst c;simp
   ·have c2:(f==a)=false:=by
     rw[beq_eq_false_iff_ne];exact λz=>c z.symm
    rw[c2,if_neg c,ih]
    cases posK nm f<;>rfl
theorem Ow.kids{K:aA}{H:Hp}{d:D}{A:Fp}{v:V}{s:Step}{j:Nat}(h:Ow K H d A v)(q:qH s d=some j):∃xs T Bt,(∀x,xs[j]?=some x→stepV H s v=some x)∧bL K H (kids d) Bt xs∧Is A (cF T Bt)∧Apart T Bt ∧
  ∀H' ds' B',ds'.length=(kids d).length→bL K H' ds' B' xs→(∀a,T a→H' a=H a)→Apart T B'→Ow K H' (lW d ds') (cF T B') v:=by
 cases d with
 | lst ds=>
  unfold Ow at h
  obtain⟨a,xs,B,rfl,h2,h3,h4,h5⟩:=h
  cases s with
  | ix k=>
   unfold qH at q
   cases q
   refine⟨xs,(·=a),B,λx hx=>?_,h5,h4,λx qx qb=>h3 (qx▸qb),λH' ds' B' hl o f ap=>?_⟩
   ·unfold stepV;dsimp only;rw[h2];exact hx
   ·show Ow K H' (.lst ds') _ _
    unfold Ow
    exact⟨a,xs,B',rfl,(f a rfl).trans h2,ap a rfl,λ_=>Iff.rfl,o⟩
  | _=>unfold qH at q;cases q
 | dk ks ds=>
  unfold Ow at h
  obtain⟨a,xs,B,rfl,h2,h2',h3,h4,h5⟩:=h
  cases s with
  | key k=>
   have q:posK ks k=some j:=q
   refine⟨xs,(·=a),B,λx hx=>?_,h5,h4,λx qx qb=>h3 (qx▸qb),λH' ds' B' hl o f ap=>?_⟩
   ·unfold stepV;dsimp only;rw[h2];show xO (ks.zip xs) k=_;rw[rQ h2',q];exact hx
   ·show Ow K H' (.dk ks ds') _ _
    unfold Ow
    exact⟨a,xs,B',rfl,(f a rfl).trans h2,h2',ap a rfl,λ_=>Iff.rfl,o⟩
  | _=>unfold qH at q;cases q
 | ins C nm ds=>
  unfold Ow at h
  obtain⟨a,dx,xs,B,rfl,h2,h2',h3,h3',h3'',h4,h5⟩:=h
  cases s with
  | fld C0 k=>
   have q:(if C=C0 then posK nm k else none)=some j:=q
   by_cases hc:C=C0
   rotate_left
   ·rw[if_neg hc]at q;cases q
   rw[if_pos hc]at q
   refine⟨xs,(λx=>x=a∨x=dx),B,λx hx=>?_,h5,h4,λx qx qb=>qx.elim (λz=>h3' (z▸qb)) λz=>h3'' (z▸qb),λH' ds' B' hl o f ap=>?_⟩
   ·unfold stepV;dsimp only;rw[h2];show (if C=C0 then(nm.zip xs).lookup k else none)=_;rw[if_pos hc,uM h3,q];exact hx
   ·show Ow K H' (.ins C nm ds') _ _
    unfold Ow
    exact⟨a,dx,xs,B',rfl,(f a (.inl rfl)).trans h2,(f dx (.inr rfl)).trans h2',h3,ap a (.inl rfl),ap dx (.inr rfl),λ_=>Iff.rfl,o⟩
  | _=>unfold qH at q;cases q
 | _=>cases s<;>(unfold qH at q;cases q)
theorem Ow.at{K:aA}{H:Hp}:∀{p:List Step} {d d1:D} {A:Fp} {v:V},Ow K H d A v→rY p d=some d1→∃w A1 C,Le H p v=some w∧Apart A1 C∧Is A (cF A1 C)∧Ow K H d1 A1 w ∧
    ∀H' d' A',Apart A' C→(∀a,C a→H' a=H a)→jY K H H'→Ow K H' d' A' w→Ow K H' (lX p d d') (cF A' C) v
  | [],d,d1,A,v,h,q=>by
    unfold rY at q
    cases q
    exact⟨v,A,nil,rfl,λ_ _ z=>z,λx=>⟨.inl,λz=>z.elim id False.elim⟩,h,λH' d' A' _ _ _ o=>o.congr λx=>⟨.inl,λz=>z.elim id False.elim⟩⟩
  | s::p,d,d1,A,v,h,q=>by
    unfold rY at q
    obtain⟨j,q1,q2⟩:=aM q
    obtain⟨c,q3,q4⟩:=aM q2
    obtain⟨xs,T,Bt,k1,k2,k3,k4,k5⟩:=h.kids q1
    obtain⟨y,B1,C1,f1,f2,f3,f4,f5⟩:=(cA.mp k2).focus q3
    obtain⟨w,A1,C2,g1,g2,g3,g4,g5⟩:=Ow.at f4 q4
    refine⟨w,A1,cF T (cF C1 C2),?_,?_,?_,g4,λH' d' A' ap fr tk o=>?_⟩
    · unfold Le
      rw[k1 y f1]
      exact g1
    · intro x qx qc
      have b1:B1 x:=(g3 x).mpr (.inl qx)
      rcases qc with qc | qc | qc
      · exact k4 x qc ((f3 x).mpr (.inl b1))
      · exact f2 x b1 qc
      · exact g2 x qx qc
    · intro x
      rw[k3 x]
      constructor
      · rintro(z | z)
        · exact .inr (.inl z)
        · rcases(f3 x).mp z with z | z
          · rcases(g3 x).mp z with z | z
            · exact .inl z
            · exact .inr (.inr (.inr z))
          · exact .inr (.inr (.inl z))
      · rintro(z | z | z | z)
        · exact .inr ((f3 x).mpr (.inl ((g3 x).mpr (.inl z))))
        · exact .inl z
        · exact .inr ((f3 x).mpr (.inr z))
        · exact .inr ((f3 x).mpr (.inl ((g3 x).mpr (.inr z))))
    · have o1:Ow K H' (lX p c d') (cF A' C2) y:=g5 H' d' A' (λx a b=>ap x a (.inr (.inr b))) (λa z=>fr a (.inr (.inr z))) tk o
      have Wb:Apart (cF A' C2) C1:=λx a b=>a.elim (λz=>ap x z (.inr (.inl b))) λz=>f2 x ((g3 x).mpr (.inr z)) b
      have o2:=f5 (Ow K H') (λe B z hb qq=>Ow.frame tk e B z qq λa za=>fr a (.inr (.inl (hb a za)))) (lX p c d') y (cF A' C2) Wb o1
      rw[set_same f1]at o2
      have o3:=k5 H' ((L2.kids d).set j (lX p c d')) _ (by rw[List.length_set]) (cA.mpr o2) (λa z=>fr a (.inl z)) (λx a b=>by
        rcases b with (b | b) | b
        · exact ap x b (.inl a)
        · exact k4 x a ((f3 x).mpr (.inl ((g3 x).mpr (.inr b))))
        · exact k4 x a ((f3 x).mpr (.inr b)))
      have e:lX (s::p) d d'=lW d ((L2.kids d).set j (lX p c d')):=by
        show (match qH s d with | some j=>_ | none=>_)=_
        rw[q1]
        show (match (L2.kids d)[j]? with | some c=>_ | none=>_)=_
        rw[q3]
      rw[e]
      refine o3.congr λx=>?_
      show (T x∨(A' x∨C2 x)∨C1 x)↔(A' x∨T x∨C1 x∨C2 x)
      constructor
      · rintro(z | (z | z) | z)
        · exact .inr (.inl z)
        · exact .inl z
        · exact .inr (.inr (.inr z))
        · exact .inr (.inr (.inl z))
      · rintro(z | z | z | z)
        · exact .inr (.inl (.inl z))
        · exact .inl z
        · exact .inr (.inr z)
        · exact .inr (.inl (.inr z))
section
variable{K:aA}{B H:Hp}{env:EN}{σ:St}
theorem Rel.at{i:Nat}{p:List Step}{d0 d:D}(h:Rel K B env σ H)(e:env[i]?=some (.own d0))(q:rY p d0=some d):∃v0 w A1 C,σ[i]?=some (some v0)∧Le H p v0=some w∧Ow K H d A1 w∧Apart A1 C∧(∀a,C a→gF H a) ∧
    ∀H' d' A',Apart A' C→(∀a,C a→H' a=H a)→jY K H H'→Ow K H' d' A' w→aB (out H (cF A1 C)) (out H' (cF A' C))→Rel K B (env.set i (.own (lX p d0 d'))) σ H':=by
  obtain⟨A,a,b⟩:=h
  have cl:=bW a
  obtain⟨y,A1,C,h1,h2,h3,h4,k⟩:=a.focus e
  obtain⟨v0,rfl,o⟩:=h4
  obtain⟨w,B1,C1,g1,g2,g3,g4,g5⟩:=o.at q
  refine⟨v0,w,B1,cF C1 C,h1,g1,g4,λx z1 z2=>?_,λx z=>?_,λH' d' A' ap fr tk o' sm=>?_⟩
  · exact z2.elim (g2 x z1) (h2 x ((g3 x).mpr (.inl z1)))
  · exact cl x ((h3 x).mpr (z.elim (λz=>.inl ((g3 x).mpr (.inr z))) .inr))
  · have o2:=g5 H' d' A' (λx z1 z2=>ap x z1 (.inl z2)) (λx z=>fr x (.inl z)) tk o'
    have Wc:Apart (cF A' C1) C:=λx z1 z2=>z1.elim (λz=>ap x z (.inr z2)) λz=>h2 x ((g3 x).mpr (.inr z)) z2
    have hA:Is A (cF B1 (cF C1 C)):=λx=>by
      rw[h3 x]
      constructor
      · rintro(z | z)
        · exact((g3 x).mp z).elim .inl λz=>.inr (.inl z)
        · exact .inr (.inr z)
      · rintro(z | z | z)
        · exact .inl ((g3 x).mpr (.inl z))
        · exact .inl ((g3 x).mpr (.inr z))
        · exact .inr z
    have g:aB (out H A) (out H' (cF (cF A' C1) C)):=λx u ex=>by
      obtain⟨e1,e2⟩:=aQ.mp ex
      have:=sm x u (aQ.mpr ⟨λz=>e1 ((hA x).mpr z),e2⟩)
      obtain⟨e3,e4⟩:=aQ.mp this
      exact aQ.mpr ⟨λz=>e3 (z.elim (λz=>z.elim .inl λz=>.inr (.inl z)) λz=>.inr (.inr z)),e4⟩
    have s:=k (cO K H' (out H' (cF (cF A' C1) C))) (λs D z hb qq=>by
      cases s with
      | no=>exact qq
      | fro d=>obtain⟨q1,v,q2,q3⟩:=qq;exact⟨q1,v,q2,g.rv _ _ q3⟩
      | inn v d=>exact⟨qq.1,Ow.frame tk _ _ _ qq.2 λx zx=>fr x (.inr (hb x zx))⟩
      | own d=>obtain⟨v,q1,q2⟩:=qq;exact⟨v,q1,Ow.frame tk _ _ _ q2 λx zx=>fr x (.inr (hb x zx))⟩) (.own (lX p d0 d')) (some v0) (cF A' C1) Wc ⟨v0,rfl,o2⟩
    rw[set_same h1]at s
    exact⟨_,s,b.trans g⟩
theorem Rel.Tg{i:Nat}{p:List Step}{d0:D}{ds:List D}(h:Rel K B env σ H)(e:env[i]?=some (.own d0))(q:rY p d0=some (.lst ds)):∃v0 a xs Bs,σ[i]?=some (some v0)∧Le H p v0=some (.ref a)∧H a=some (.lst xs)∧¬Bs a∧bL K H ds Bs xs ∧
    ∀H2 ds' xs' Bn,aB H H2→bL K H2 ds' Bn xs'→(∀b,Bn b→Bs b∨H b=none)→Rel K B (env.set i (.own (lX p d0 (.lst ds')))) σ (upd H2 a (.lst xs')):=by
  obtain⟨v0,w,A1,C,h1,h2,h3,h4,h5,h6⟩:=h.at e q
  unfold Ow at h3
  obtain⟨a,xs,Bs,rfl,o2,o3,o4,o5⟩:=h3
  refine⟨v0,a,xs,Bs,h1,h2,o2,o3,o5,λH2 ds' xs' Bn s o hb=>?_⟩
  have Uy:¬Bn a:=λz=>(hb a z).elim o3 λz=>by rw[o2]at z;cases z
  have hC:∀x,C x→¬x=a:=λx z y=>h4 x ((o4 x).mpr (.inl y)) z
  have Qd:H2 a=some (.lst xs):=s a _ o2
  refine h6 _ (.lst ds') (cF (·=a) Bn) (λx z1 z2=>?_) (λx z=>?_) (s.tk.trans (uI (fO Qd))) ?_ (λx u ex=>?_)
  · rcases z1 with z1 | z1
    · exact hC x z2 z1
    · rcases hb x z1 with z | z
      · exact h4 x ((o4 x).mpr (.inr z)) z2
      · obtain⟨⟨u,eu⟩,_⟩:=h5 x z2
        rw[z]at eu;cases eu
  · obtain⟨⟨u,eu⟩,_⟩:=h5 x z
    rw[aU (hC x z),eu,s x u eu]
  · unfold Ow
    refine⟨a,xs',Bn,rfl,dH,Uy,λ_=>Iff.rfl,bL.frame (uI (fO Qd)) _ _ _ o λx zx=>aU λy=>Uy (y▸zx)⟩
  · obtain⟨e1,e2⟩:=aQ.mp ex
    have na:x≠a:=λy=>e1 (.inl ((o4 x).mpr (.inl y)))
    refine aQ.mpr ⟨λz=>?_,by rw[aU na];exact s x u e2⟩
    rcases z with (z | z) | z
    · exact na z
    · rcases hb x z with z | z
      · exact e1 (.inl ((o4 x).mpr (.inr z)))
      · rw[z]at e2;cases e2
    · exact e1 (.inr z)
end
end L2


namespace L2
open PySem PySem.Spec PyProof.Rows
abbrev FP:=DE→Option (List Step)
def Uz(K:aA)(t:TE)(i:Nat)(π:FP):Prop:=∀(σ:St)(H:Hp)(e:DE)(v0:V)(p:List Step)(v:V)(Q:VK),iQ K H e σ→σ[i]?=some (some v0)→π e=some p→Le H p v0=some v→(∀H',aB H H'→Q v H')→t σ H Q
structure XP(K:aA)(X:Cx)(e:Expr)(t:TE)(i:Nat)(π:FP):Prop where
 hk:X.K=K
 pe:PE X e t
 ev:Uz K t i π
def Ao:FP:=λ_=>some []
section
variable{K:aA}{X:Cx}{e a b c:Expr}{es:List Expr}{t ta tb te:TE}{f g:FE}{tA:TA}{fs:FA}{pos:Pos}{i j:Nat}{π:FP}{st:Stmt}
theorem Th(h:PE X e (pB i))(hk:X.K=K:=by rfl):XP K X e (pB i) i Ao:=⟨hk,h,λσ H e v0 p v Q re h1 h2 h3 k=>by
 cases h2
 unfold Le at h3
 cases h3
 exact⟨v0,h1,k H (aB.refl _)⟩⟩
def uN(i:Nat)(π:FP)(f:FE):GS:=λenv=>match env[i]?,π (rE env),f (rE env)with
 | some (.own d0),some p,some d=>(match rY p d0 with
  | some (.lst ds)=>if ds.length<100000 then .next (env.set i (.own (lX p d0 (.lst (ds++[d])))))else .bad
  | _=>.bad)
 | _,_,_=>.bad
theorem Lf{H H1:Hp}{A:Fp}{ds:List D}{xs:List V}{N:Fp}(o:bL K H ds A xs)(fr:∀a,N a→H a=none):Apart A N:=λx q1 q2=>by
 obtain⟨⟨u,eu⟩,_⟩:=bL.cells _ _ _ o x q1
 rw[fr x q2]at eu;cases eu
theorem Lg(h:Uz K ta i π)(he:uD K te f):Te K (vI (Ng K "list" kJ ta (cZ te jV))) (uN i π f):=λB E σ H env r p=>by
 unfold uN at p
 split at p
 ·rename_i d0 pp d q1 q2 q3
  split at p
  ·rename_i ds q4
   split at p
   ·rename_i hl
    obtain⟨v0,a,xs,Bs,k1,k2,k3,k4,k5,k6⟩:=r.Tg q1 q4
    refine h σ H (rE env) v0 pp _ _ r.r k1 q2 k2 λH1 s1=>⟨.inl ⟨rfl,xs,fW.of (s1 _ _ k3)⟩,?_⟩
    refine he σ H1 (rE env) d _ (r.r.same s1) q3 λy H2 s2 n=>?_
    obtain⟨N,o,fr⟩:=n.back s1
    have s12:=s1.trans s2
    refine⟨a,xs,y,rfl,rfl,s12 _ _ k3,Hh (by rw[(bL.rv _ _ _ k5).length];omega),p _ ?_⟩
    exact k6 H2 (ds++[d]) (xs++[y]) (cF Bs N) s12 (cA.mpr ((cA.mp (k5.same s12)).snoc o (Lf (H1:=H) k5 fr))) λb z=>z.imp id (fr b)
   ·exact p.elim
  ·exact p.elim
 ·exact p.elim
theorem Lh{m:Str}{apos cpos:Pos}(h:XP K X a ta i π)(he:XN K X e te f)(hp:PE X a ta→PE X e te→PS X (.Expr (.Call (.Attribute a m apos) [e] [] cpos) pos) (vI (Ng K "list" kJ ta (cZ te jV)))):YS K X (.Expr (.Call (.Attribute a m apos) [e] [] cpos) pos) (vI (Ng K "list" kJ ta (cZ te jV))) (uN i π f):=⟨hp h.pe he.pe,(Lg h.ev he.ev).ds⟩
end
end L2


namespace L2
open PySem PySem.Spec PyProof.Rows
def Wd(K:aA)(B:Hp)(R:Fp)(env:EN)(σ:St)(H:Hp):Prop:=∃A,bR (cO K H (out H (cF A R))) env A σ∧Apart A R∧aB B (out H (cF A R))
section
variable{K:aA}{B H H':Hp}{env:EN}{σ:St}{R R' A1:Fp}
end
section
variable{K:aA}{X:Cx}{e a b c:Expr}{es:List Expr}{t ta tb te:TE}{f g:FE}{tA:TA}{fs:FA}{pos:Pos}{i j:Nat}{π:FP}{st:Stmt}
inductive Li(K:aA)(H:Hp):V→Value→Prop where
 | bl (x:Bool):Li K H (.bl x) (.type "bool")
 | int (i:Int):Li K H (.int i) (.type "int")
 | lst {a:Addr} {xs:List V} (e:fW K H a xs):Li K H (.ref a) (.type "list")
 | tup {a:Addr} {xs:List V} (e:jH K H a xs):Li K H (.ref a) (.type "tuple")
theorem qI:cN X (.builtin "isinstance") (λxs H Q=>∃x T t b,xs=[x,.ty T]∧Li X.K H x t∧B7 X.K t (.type T)=some b∧Q (.bl b) H):=by
 intro pins s σ H xs us Q I r h
 obtain⟨x,T,t,b,rfl,ty,hk,q⟩:=h
 obtain⟨u,w',rfl,rx,rt⟩:=vals2 r
 cases rt
 cases ty with
 | bl y=>exact iR I rx (.bl y) hk λtk=>⟨.bl b,H,I.tok _,rfl,q⟩
 | int i=>exact iR I rx (.int i) hk λtk=>⟨.bl b,H,I.tok _,rfl,q⟩
 | @lst a xs e=>
  cases(show u=Value.ref a from rx)
  obtain⟨its,_,pl,_⟩:=I.list e
  obtain⟨o,n,h1,h2,_⟩:=pl
  exact C4 J4 I.oZ ⟨o,h1,h2⟩ hk (λz=>nomatch z) λtk=>⟨.bl b,H,I.tok _,rfl,q⟩
 | @tup a xs e=>
  cases(show u=Value.ref a from rx)
  obtain⟨its,_,pl,_⟩:=I.tuple e
  obtain⟨o,h1,h2,_⟩:=pl
  exact C4 M7 I.oZ ⟨o,h1,h2⟩ hk (λz=>nomatch z) λtk=>⟨.bl b,H,I.tok _,rfl,q⟩
def rZ(T:String)(d:D):Option D:=match d with
 | .int _=>if T = "int" then some (.bl true)else if T = "bool" then some (.bl false)else none
 | .bl _=>if T = "bool" then some (.bl true)else none
 | .lst _=>if T = "list" then some (.bl true)else none
 | .tup _=>if T = "tuple" then some (.bl true)else none
 | _=>none
def xZ(T:String)(f:FE):FE:=λe=>(f e).bind (rZ T)
def Qe(K:aA):List V→Hp→VK→Prop:=λxs H Q=>∃x T t b,xs=[x,.ty T]∧Li K H x t∧B7 K t (.type T)=some b∧Q (.bl b) H
theorem Lj{H:Hp}{T:String}{d r:D}{v:V}(h:rZ T d=some r)(rv:Rv K H d v):∃t b,Li K H v t∧B7 K t (.type T)=some b∧r=.bl b:=by
 cases d with
 | int i=>
  unfold rZ at h
  dsimp only at h
  unfold Rv at rv
  subst rv
  split at h
  ·rename_i c;cases h;subst c;exact⟨_,_,.int i,rM,rfl⟩
  ·split at h
   ·rename_i c;cases h;subst c;exact⟨_,_,.int i,pO,rfl⟩
   ·cases h
 | bl b=>
  unfold rZ at h
  dsimp only at h
  unfold Rv at rv
  subst rv
  split at h
  ·rename_i c;cases h;subst c;exact⟨_,_,.bl b,nF,rfl⟩
  ·cases h
 | lst ds=>
  unfold rZ at h
  dsimp only at h
  unfold Rv at rv
  obtain⟨a,xs,rfl,r2,_⟩:=rv
  split at h
  ·rename_i c;cases h;subst c;exact⟨_,_,.lst r2,nG,rfl⟩
  ·cases h
 | tup ds=>
  unfold rZ at h
  dsimp only at h
  unfold Rv at rv
  obtain⟨a,xs,rfl,r2,_⟩:=rv
  split at h
  ·rename_i c;cases h;subst c;exact⟨_,_,.tup r2,jX,rfl⟩
  ·cases h
 | _=>unfold rZ at h;cases h
theorem Lk(hk:X.K=K):cN X (.builtin "isinstance") (Qe K):=by subst hk;exact qI
theorem Aq{T:String}{p:Pos}{eT:Expr}(h:XR K X e t f)(hT:PE X eT (tC (.ty T)))(hg:Gl X "isinstance") (hm:X.mg "isinstance" = none) (hst:starEach (e::[eT]) X.env=(false,eval e X.env)::starEach [eT] X.env:=by rfl) (hst2:starEach [eT] X.env=(false,eval eT X.env)::starEach [] X.env:=by rfl)
  (hpl:(backTo pos (starEach [eT] X.env)).any (·.1)=false:=by rfl):XN K X (.Call (.Name "isinstance" p) [e,eT] [] pos) (Jo (Qe K) (cZ t (cZ (tC (.ty T)) jV))) (xZ T f):=
 ⟨h.hk,lD (Lk h.hk) hg hm G9 (dB h.pe (dB hT iT hst2) hst) (by decide) (by decide) hst hpl,λσ H e d Q re q k=>by
  unfold xZ at q
  obtain⟨d0,q1,q2⟩:=aM q
  refine h.ev σ H H e d0 _ (Zn.self K H) re q1 λv H1 Z1 s1 t1 z1 rv=>?_
  obtain⟨ty,b,b1,b2,rfl⟩:=Lj q2 (z1.sm.rv _ _ rv)
  exact⟨v,T,ty,b,rfl,b1,b2,k _ H1 s1 (.cD rfl (by unfold Rv;rfl))⟩⟩
structure wC(mg:Str→Option Value)(x:Str)(i:Int):Prop where
 ex:∃t,mg x=some (.int i t)
structure Va(K:aA)(mg:Str→Option Value)(x:Str)(ns:List Int):Prop where
 ex:∃a,mg x=some (.ref a)∧∀H:Hp,jH K H a (ns.map V.int)
theorem Qf{x:Str}{i:Int}(G:wC X.mg x i)(hg:Gl X x)(hd:(x==("__debug__" : Str))=false:=by decide) (hk:X.K=K:=by rfl):XN K X (.Name x pos) (tC (.int i)) (fC (.int i)):=by
 obtain⟨t,h⟩:=G.ex
 exact⟨hk,vH hg h ⟨t,rfl⟩ hd,zZ i⟩
end
def iC(n m:Nat)(g:GS):List D→Option D:=λds=>if ds.length=m then(match g (ds.map SD.fro++C6 (n-m) SD.no)with
  | .ret d=>some d
  | .next _=>some .non
  | _=>none)else none
theorem sE{K:aA}{H Z:Hp}{k:Nat}:∀{ds:List D} {vs:List V},bB K Z ds vs→bR (cO K H Z) (ds.map SD.fro++C6 k SD.no) nil (vs.map some++C6 k none)
 | [],vs,h=>by
  unfold bB at h
  subst h
  simp only[F4,List.nil_append]
  induction k with
  | zero=>exact⟨λ_ z=>z,rfl⟩
  | succ k ih=>
   rw[M4,M4]
   exact⟨none,_,nil,nil,rfl,λ_ z=>z.elim,λx=>⟨.inl,λz=>z.elim id id⟩,λ_ z=>z,ih⟩
 | d::ds,vs,h=>by
  unfold bB at h
  obtain⟨y,ys,rfl,h1,h2⟩:=h
  rw[E7,E7,G3,G3]
  exact⟨some y,_,nil,nil,rfl,λ_ z=>z.elim,λx=>⟨.inl,λz=>z.elim id id⟩,⟨λ_ z=>z,y,rfl,h1⟩,sE h2⟩
theorem oH{K:aA}{H:Hp}{k:Nat}{ds:List D}{vs:List V}(h:bB K H ds vs):Rel K H (ds.map SD.fro++C6 k SD.no) (vs.map some++C6 k none) H:=by
 have g:aB H (out H nil):=λx u e=>aQ.mpr ⟨λz=>z,e⟩
 exact⟨nil,sE (g.Ec _ _ h),g⟩
theorem Raw.yC{P:Program}{w:World}{K:aA}{mg:Str→Option Value}{base:Heap}{x:Str}{st:Stmt}{N ps:List Str}{k:Nat}{g:GS}(R:Raw K mg x st)(S:bI N ps (aC st))
  (hb:∀(kV doc pm:Value)(an:Option Addr)(cdv ct:Value)(us:List Value),us.length=ps.length→bindArgs (C9 x x (bJ st) (aW st) (aC st) .none kV doc pm an cdv ct) ⟨us,[]⟩=pure (ps.zip us))
  (hbody:∀(f:Addr)(cdv:Value)(A:Around)(outer:List Env)(s:Shared)(H:Hp)(E:XK),cT k (A.deeper (envOfC x (aC st) s.heap.objs.size f cdv)) →
   ∃t,YB K (pH yP P w K mg base N x (aC st) f cdv A outer s H E).Ir (aW st) t g):tL P w K mg base x (k+1) ps.length (uJ K ps.length (iC N.length ps.length g)):=by
 refine R.cal S (λvs H Q E h=>?_) hb (λf cdv A outer s H vs Q E hr h=>?_)
 ·obtain⟨ds,d,h1,h2,_⟩:=h
  rw[h2.length];exact h1
 obtain⟨ds,d,h1,h2,h3,kk⟩:=h
 obtain⟨t,yb⟩:=hbody f cdv A outer s H E hr
 refine⟨t,yb.ps,yb.ev H _ _ H (ds.map SD.fro++C6 (N.length-ps.length) SD.no) ?_ ?_⟩
 ·have hl:vs.length=ps.length:=by rw[h2.length];exact h1
  have:=oH (k:=N.length-ps.length) h2
  unfold start
  rw[hl]
  exact this
 ·unfold iC at h3
  rw[if_pos h1]at h3
  cases q:g (ds.map SD.fro++C6 (N.length-ps.length) SD.no)with
  | ret d'=>
   rw[q]at h3
   cases h3
   refine λv H' A' s' o=>kk v H' (s'.trans (dI _ _)) ⟨A',o,λa qa=>?_⟩
   cases e:H a with
   | none=>rfl
   | some u=>exact absurd qa (aQ.mp (s' a u e)).1
  | next env'=>
   rw[q]at h3
   cases h3
   refine λσ' H' ⟨A',_,s'⟩=>kk .non H' (s'.trans (dI _ _)) (.cD rfl (by unfold Rv;rfl))
  | brk env'=>rw[q]at h3;cases h3
  | cont env'=>rw[q]at h3;cases h3
  | bad=>rw[q]at h3;cases h3
  | rete d e=>rw[q]at h3;cases h3
end L2


namespace L2
open PySem PySem.Spec PyProof.Rows
section
variable{K:aA}{X:Cx}{e a b c:Expr}{es:List Expr}{t ta tb te:TE}{f g:FE}{tA:TA}{fs:FA}{pos:Pos}{i j:Nat}{π:FP}{st:Stmt}{gb:GS}{tc:TT}{fc:FT}
def qJ(f:FE):FE:=λe=>(f e).bind λd=>match d with | .int i=>some (.int (-i)) | _=>none
theorem qK(ha:XR K X a ta f):XN K X (.UnaryOp .USub a pos) (Sg (rU λi=>.int (-i)) ta) (qJ f):=Kq ha
def Vb(K:aA)(wi:TI)(fi:FA):Prop:=∀(σ:St)(H:Hp)(e:DE)(ds:List D)(R:It→Hp→Prop),iQ K H e σ→fi e=some ds →
 (∀J H' P vs,aB H H'→Ju J P vs→(∀H2,P H2)→(∀Z,bB K Z ds vs)→R J H')→wi σ H R
structure XJ(K:aA)(X:Cx)(tg iter:Expr)(wi:TI)(fi:FA):Prop where
 pi:PI X tg iter wi
 ev:Vb K wi fi
theorem yD{tg:Expr}{p:Pos}(hg:Gl X "range") (hm:X.mg "range" = none) (ha:XA K X [a] tA fs) (hs:starEach [a] X.env=[(false,eval a X.env)]:=by rfl):XJ K X tg (.Call (.Name "range" p) [a] [] pos) (Gu tA) (oG fs):=⟨wY hg hm ha.pa hs,λσ H e ds R re q k=>by
 unfold oG at q
 obtain⟨es,q1,q2⟩:=aM q
 split at q2
 ·rename_i n
  split at q2
  ·rename_i hl
   cases q2
   have hl:=Kw hl
   refine ha.ev σ H H e _ _ (Zn.self K H) re q1 λvs H1 Z1 s1 t1 z1 rs=>?_
   obtain⟨v,rfl,r⟩:=fG rs
   unfold Rv at r
   subst r
   exact⟨n,rfl,by omega,by omega,k _ H1 _ _ s1 xR (λ_=>True.intro) λZ=>xY 0 n.toNat⟩
  ·cases q2
 ·cases q2⟩
def jO(i:Nat)(fi:FA)(g:GS):GS:=λenv=>match fi (rE env)with
 | some xs=>jA i g xs env
 | none=>.bad
theorem Ew{wi:TI}{fi:FA}{tb:TS}(hi:Vb K wi fi)(h:DS K tb gb):DS K (zF wi (cR i) tb) (jO i fi gb):=λB E σ H env r p=>by
 unfold jO at p
 split at p
 ·rename_i xs q
  refine hi σ H (rE env) xs _ r.r q λJ H1 P vs s hJ hP rvs=>?_
  have hl:=(rvs H).length
  refine vO hJ (λk σ2 H2=>∃cP,Rel K B cP σ2 H2∧qG K B E (jA i gb (xs.drop k) cP)) ⟨env,r.same s,by simpa using p⟩ (λk σ2 H2 _ _=>hP H2) ?_ ?_
  ·rintro k x σ2 H2 hx ⟨cP,r2,p2⟩
   have hk:k<xs.length:=by
    obtain⟨h1,_⟩:=B6.mp hx
    omega
   rw[F7 hk]at p2
   unfold jA at p2
   split at p2
   ·rename_i hlen
    obtain⟨A2,a2,b2⟩:=r2
    obtain⟨x',hx',rx⟩:=(rvs (out H2 A2)).get (B3 hk)
    rw[hx]at hx'
    cases hx'
    have r3:Rel K B (cP.set i (.fro xs[k])) (σ2.set i (some x)) H2:=wA a2 b2 hlen (aB.refl _) (aB.refl _) (uK a2) rx
    refine h B _ _ H2 _ r3 ?_
    split at p2
    ·rename_i env' q2;rw[q2];exact λσ' H' r'=>⟨env',r',p2⟩
    ·rename_i env' q2;rw[q2];exact λσ' H' r'=>⟨env',r',p2⟩
    ·rename_i env' q2;rw[q2];exact p2
    ·rename_i n1 n2 n3
     cases q2:gb (cP.set i (.fro xs[k]))with
     | next e=>exact absurd q2 (n1 e)
     | cont e=>exact absurd q2 (n2 e)
     | brk e=>exact absurd q2 (n3 e)
     | ret d=>rw[q2]at p2;exact p2
     | bad=>rw[q2]at p2;exact p2
     | rete d e=>rw[q2]at p2;exact p2
   ·exact p2.elim
  ·rintro σ2 H2 ⟨cP,r2,p2⟩
   rw[hl,N7]at p2
   exact p2 σ2 H2 r2
 ·exact p.elim
theorem Ex{tg iter:Expr}{body:List Stmt}{wi:TI}{fi:FA}{tb:TS}(hp:PassesOwn (model X.prog X.w) X.A X.env X.xe)(Ld:X.calm=true)(hi:XJ K X tg iter wi fi)(hg:PG X tg (cR i))(hb:YB K X body tb gb)
  (hs:∀x,foldedSetIterable iter X.env x=pure x:=by intro _;rfl):YS K X (.For tg iter body [] pos) (zF wi (cR i) tb) (jO i fi gb):=⟨zG hp Ld hi.pi hg hb.ps hs,Ew hi.ev hb.ev⟩
end
def Ti(K:aA):Sp:=λvs H Q _=>∃(a:Addr)(ns:List Int),vs=[.ref a]∧fW K H a (ns.map V.int)∧ns.length≤63∧∀H',Q (.bl true) H'
theorem Cq.We{P:Program}{w:World}{K:aA}{mg:Str→Option Value}{base:Heap}{x:Str}{st:Stmt}{N:List Str}{k:Nat}{g:GS}{f:Addr}{fd:FuncData}(F:Cq K x x st f fd)(S:bI N ["script"] (aC st))
  (hbody:∀(cdv:Value)(A:Around)(outer:List Env)(s:Shared)(H:Hp)(E:XK),cT k (A.deeper (envOfC x (aC st) s.heap.objs.size f cdv)) →
   ∃t,YB K (pH yP P w K mg base N x (aC st) f cdv A outer s H E).Ir (aW st) t g)
  (Ln:∀ns:List Int,ns.length≤63→iC N.length 1 g [.lst (ns.map D.int)]=some (.bl true)):lC P w K mg base yP (k+1) f fd ["script"] (Ti K):=by
 refine F.ok S (λvs H Q E h=>?_) (λcdv A outer s H vs Q E hr h=>?_)
 ·obtain⟨a,ns,rfl,_⟩:=h
  rfl
 obtain⟨a,ns,rfl,hS,hl,q⟩:=h
 obtain⟨t,yb⟩:=hbody cdv A outer s H E hr
 have h3:=Ln ns hl
 have rv:bB K H [.lst (ns.map D.int)] [.ref a]:=by
  unfold bB
  exact⟨_,_,rfl,by unfold Rv;exact⟨a,_,rfl,hS,lV.mpr rfl⟩,by unfold bB;rfl⟩
 refine⟨t,yb.ps,yb.ev H _ _ H ([D.lst (ns.map D.int)].map SD.fro++C6 (N.length-1) SD.no) (oH rv) ?_⟩
 unfold iC at h3
 rw[if_pos (show [D.lst (ns.map D.int)].length=1 from rfl)]at h3
 cases qq:g ([D.lst (ns.map D.int)].map SD.fro++C6 (N.length-1) SD.no)with
 | ret d'=>
  rw[qq]at h3
  cases h3
  refine λv H' A' s' o=>?_
  have:=Ow.rv _ _ _ o
  unfold Rv at this
  subst this
  exact q H'
 | next env'=>rw[qq]at h3;cases h3
 | brk env'=>rw[qq]at h3;cases h3
 | cont env'=>rw[qq]at h3;cases h3
 | bad=>rw[qq]at h3;cases h3
 | rete d e=>rw[qq]at h3;cases h3
theorem uO{K:aA}{st:Stmt}{f:Addr}{fd:FuncData}(F:Cq K "law" "law" st f fd) (hb:∀(kV doc pm:Value)(an:Option Addr)(cdv ct:Value)(u:Value),bindArgs (C9 "law" "law" (bJ st) (aW st) (aC st) .none kV doc pm an cdv ct) ⟨[u],[]⟩=pure [(("script" : Str),u)]):∀(s:Shared)(u:Value),BindsTo s fd ⟨[u],[]⟩ [("script", u)]:=by
 obtain⟨oc,od,kV,doc,pm,an,cdv,ct,osl,rfl,lk,hcd⟩:=F.ex
 exact λs u=>.of_eq (hb kV doc pm an cdv ct u)
theorem Av{K:aA}{h:Heap}{mg:Str→Option Value}{x:Str}{i:Int}{t:Tok}(X:K.In h)(G:h.Ns mainGlobals mg)(a:K2 K mainGlobals x=some (some (.int i t))):wC mg x i:=⟨t,M3 X G a⟩
end L2


namespace L2
open PySem PySem.Spec PyProof.Rows
section
variable{K:aA}{X:Cx}{e a b c:Expr}{es:List Expr}{t ta tb te:TE}{f g:FE}{tA:TA}{fs:FA}{pos:Pos}{i j:Nat}{π:FP}{st:Stmt}
variable{lo hi:Option Expr}{tl th:TO}{fl fh:FO}{p2:Pos}
end
end L2


namespace L2
open PySem PySem.Spec PyProof.Rows
def Led(b:Bool)(t:SetTable):Prop:=t.led=b∧(t.plain=true→t.place.toList.Pairwise (·<·)∧t.dummies=#[])
end L2


namespace L2
open PySem PySem.Spec PyProof.Rows
section
variable{prog:Program}{w:World}{A:Around}{E:Value→Shared→Prop}{s:Shared}{b:Bool}
def Wf(prog:Program)(w:World)(b:Bool)(h:Heap)(a:Addr)(S:Int→Bool)(n:Nat):Prop:=
 ∃o es ep t,h.get? a=some o∧o.ExactSet∧o.data=.set es ep t∧ElemsOf (intKind prog w) es.toList∧(∀k,S k=true↔∃e∈es.toList,(intKind prog w).is k e.2=true)∧es.size<scanBound∧t.fits es.size=true∧es.size=n∧Led b t
end
section
variable{prog:Program}{w:World}{A:Around}{R:Result→Shared→Prop}{I:Addr}{fp wr:List Addr}{G:Array GenState→Array GenState→Prop}{n:Nat}{P:Nat→Value→Prop}{St:Nat→Shared→Prop}{b:Bool}
end
end L2


namespace L2
open PySem PySem.Spec PyProof.Rows
section
variable{prog:Program}{w:World}{A:Around}{E:Value→Shared→Prop}{s:Shared}
end
end L2


namespace L2
open PySem PySem.Spec PyProof.Rows
def Wu(h:Heap)(I:Addr)(f:Value)(i:Nat)(a:Addr)(n ep:Nat):Prop:=∃o,h.get? I=some o∧o.cls=.type "set_iterator" ∧ o.data=.fields #[f,.int (i:Int) 0,.ref a,.int (n:Int) 0,.int (ep:Int) 0]
def Wv(h:Heap)(a:Addr)(es:Array (Int×Value))(ep:Nat)(t:SetTable):Prop:=∃o,h.get? a=some o∧o.cls=.type "set" ∧ o.data=.set es ep t∧t.fits es.size=true
section
variable{prog:Program}{w:World}{A:Around}{E:Value→Shared→Prop}{s:Shared}{I a T:Addr}{f:Value}{i n ep:Nat}{es:Array (Int×Value)}{t:SetTable}
end
end L2


namespace L2
open PySem PySem.Spec PyProof.Rows
section
variable{prog:Program}{w:World}{A:Around}{E:Value→Shared→Prop}{s:Shared}{I a T:Addr}{f:Value}{i n ep:Nat}{es:Array (Int×Value)}{t:SetTable}
end
end L2


namespace L2
open PySem PySem.Spec PySem.Calls PyProof.Rows PyProof.V
section
variable{prog:Program}{w:World}{A:Around}{E:Value→Shared→Prop}{s:Shared}{I a T:Addr}{n:Nat}{S:Int→Bool}
end
end L2


namespace L2
open PySem PySem.Spec PySem.Calls PyProof.Rows PyProof.V
section
variable{X:Cx}{e:Expr}{t:TE}{x y:Str}{p p2 pos pos2:Pos}
end
end L2


namespace L2
open PySem PySem.Spec PySem.Calls PyProof.Rows PyProof.V
section
variable{prog:Program}{w:World}{A:Around}{E:Value→Shared→Prop}{s:Shared}{I l:Addr}
end
section
variable{K:aA}{X:Cx}{e:Expr}{t:TE}{f:FE}{x y:Str}{p p2 pos pos2:Pos}
end
end L2


namespace L2
open PySem PySem.Spec PySem.Calls PyProof.Rows PyProof.V PySem.W Att
section
variable{K:aA}{X:Cx}{e a b c:Expr}{es:List Expr}{t ta tb te:TE}{f g:FE}{pos:Pos}
def Hr(i j:Int):Prop:=Builtin.Int.intBits i≤4000000∧Builtin.Int.intBits j≤4000000
instance (i j:Int):Decidable (Hr i j):=by unfold Hr;exact inferInstance
variable{lo hi:Option Expr}{tl th:TO}{fl fh:FO}{p2:Pos}
end
end L2


namespace L2
open PySem PySem.Spec PySem.Calls PyProof.Rows PyProof.V
section
variable{K:aA}{X:Cx}
end
end L2


namespace L2
open PySem PySem.Spec PySem.Calls PyProof.Rows PyProof.V
section
variable{X:Cx}{pins:List (Addr×Obj)}{σ:St}{H:Hp}{s:Shared}{h':Heap}
end
section
variable{K:aA}{X:Cx}{e a b c:Expr}{es:List Expr}{t ta tb te:TE}{f g fe:FE}{tc:TT}{fc:FT}{pos p p2:Pos}{x:Str}
end
end L2


namespace L2
open PySem PySem.Spec PySem.Calls PyProof.Rows PyProof.V
section
variable{K:aA}{B H:Hp}{env:EN}{σ:St}{i:Nat}{v:V}{d:D}
end
section
variable{K:aA}{X:Cx}{st:Stmt}{sts:List Stmt}{t u tb:TS}{g g1 g2:GS}{e a b c:Expr}{es:List Expr}{te ta t0:TE}{f f0 fa fb:FE}{gk:FE}{tA:TA}{fs:FA}{tc:TT}{fc:FT}{pos:Pos}{i:Nat}{π:FP}
end
end L2


namespace L2
open PySem PySem.Spec PySem.Calls PyProof.Rows PyProof.V
section
variable{α β:Type}{R:α→Fp→β→Prop}
end
section
variable{K:aA}{B H H':Hp}{env:EN}{σ:St}{i:Nat}{v:V}{d:D}
end
def Qg:GS:=λ_=>.bad
theorem Lp{K:aA}{X:Cx}{st:Stmt}:YS K X st yX Qg:=⟨yZ,λ_ _ _ _ _ _ p=>p.elim⟩
section
variable{K:aA}{X:Cx}{st:Stmt}{sts:List Stmt}{t u tb:TS}{g g1 g2:GS}{e a b c o:Expr}{es:List Expr}{te ta t0 tv:TE}{f f0 fa fb:FE}{gk:FE}{tA:TA}{fs:FA}{tc:TT}{fc:FT}{pos apos:Pos}{i:Nat}{π:FP}
structure Wg(K:aA)(C:Addr)(nm:List Str):Prop where
 cl:Rh K C
 no:∀f∈nm,Ji K C f
end
section
variable{K:aA}{B H:Hp}{env:EN}{σ:St}
end
section
variable{K:aA}{X:Cx}{st:Stmt}{sts:List Stmt}{t u tb:TS}{g g1 g2:GS}{e a b c o:Expr}{es:List Expr}{te ta t0 tv:TE}{f f0 fa fb:FE}{gk:FE}{tA:TA}{fs:FA}{tc:TT}{fc:FT}{pos apos:Pos}{i:Nat}{π:FP}
end
end L2


namespace L2
open PySem PySem.Spec PySem.Calls PyProof.Rows PyProof.V
section
variable{K:aA}{B H H':Hp}{env:EN}{σ:St}{i:Nat}{p:List Step}{d0 d:D}
end
abbrev GM:=EN→Option (D×EN)
def Wh(K:aA)(t:TE)(g:GM):Prop:=∀(B:Hp)(σ:St)(H:Hp)(env:EN)(d:D)(env':EN)(Q:VK),Rel K B env σ H→g env=some (d,env')→(∀v H',Rel K B (env'++[.own d]) (σ++[some v]) H'→Q v H')→t σ H Q
structure XM(K:aA)(X:Cx)(e:Expr)(t:TE)(g:GM):Prop where
 hk:X.K=K
 pe:PE X e t
 ev:Wh K t g
abbrev GB:=EN→Option (Bool×EN)
def Qh(K:aA)(t:TT)(g:GB):Prop:=∀(B:Hp)(σ:St)(H:Hp)(env:EN)(b:Bool)(env':EN)(Q:Bool→Hp→Prop),Rel K B env σ H→g env=some (b,env')→(∀H',Rel K B env' σ H'→Q b H')→t σ H Q
structure Ww(K:aA)(X:Cx)(e:Expr)(t:TT)(g:GB):Prop where
 hk:X.K=K
 pt:PT X e t
 ev:Qh K t g
structure Wx(K:aA)(X:Cx)(e:Expr)(t:TT)(g:GB):Prop where
 hk:X.K=K
 pw:PW X e t
 ev:Qh K t g
abbrev FA2:=DE→DE→Option (List D)
def Tj(K:aA)(t:TA)(fs:FA2):Prop:=∀(A1:Fp)(σ:St)(H:Hp)(eF eZ:DE)(ds:List D)(Q:List V→Hp→Prop),(∀x,A1 x→gF H x)→iQ K H eF σ→iQ K (out H A1) eZ σ→fs eF eZ=some ds →
 (∀vs H',aB H H'→bB K (out H' A1) ds vs→Q vs H')→t σ H Q
structure Wy(K:aA)(X:Cx)(es:List Expr)(t:TA)(fs:FA2):Prop where
 hk:X.K=K
 pa:PA X es t
 ev:Tj K t fs
section
variable{K:aA}{X:Cx}{st:Stmt}{sts:List Stmt}{t u tb:TS}{g:GM}{g1 g2:GS}{e a b c o:Expr}{es rest:List Expr}{te ta t0 tv:TE}{f f0 fa fb:FE}{tA:TA}{fs:FA2}{tc td:TT}{fc:FT}{gb gc:GB}{pos apos:Pos}{i:Nat}{π:FP}
structure Wi(P:Program)(w:World)(K:aA)(mg:Str→Option Value)(base:Heap)(C:Addr)(m:Str)(k n:Nat)(df:Bool)(sp:Sp):Prop where
 ex:∃f fd ps,ps.length=n∧lC P w K mg base yP k f fd ps sp∧Binds K fd ps []∧(df=true→Binds K fd ps [Value.none])∧Meth K C m f
structure Wj(P:Program)(w:World)(K:aA)(mg:Str→Option Value)(base:Heap)(x:Str)(C:Addr)(k n:Nat)(sp:Sp):Prop where
 ex:∃f fd ps,ps.length=n∧lC P w K mg base yP k f fd ps sp∧Binds K fd ps []∧Mk K C f∧mg x=some (.ref C)
end
end L2


namespace L2
open PySem PySem.Spec PySem.Calls PyProof.Rows PyProof.V
def Tn(K:aA)(dN:Bool)(dV:Value):Prop:=match dN with
 | false=>dV=.none
 | true=>∃T o n,dV=.ref T∧K.lookup T=some o∧o.data=.seq #[.none] n
structure Qi(K:aA)(f:Addr)(m q:Str)(st:Stmt)(dN:Bool):Prop where
 ex:∃(oc:Value)(od:Option Addr)(dV kV doc pm:Value)(an:Option Addr)(cdv ct:Value)(osl:Array (Option Value)),
  K.lookup f=some ⟨oc,od,.func (C9 m q (bJ st) (aW st) (aC st) dV kV doc pm an cdv ct),osl⟩∧F2 K cdv q=true∧Tn K dN dV
structure Wk(K:aA)(C:Addr)(m q:Str)(st:Stmt)(dN:Bool):Prop where
 ex:∃f,Qi K f m q st dN∧Meth K C m f
structure Wl(K:aA)(mg:Str→Option Value)(x:Str)(C:Addr)(q:Str)(st:Stmt):Prop where
 ex:∃f,Qi K f "__init__" q st false∧Mk K C f∧mg x=some (.ref C)
def HB(x q:Str)(st:Stmt)(ps:List Str):Prop:=∀(kV doc pm:Value)(an:Option Addr)(cdv ct:Value)(us:List Value),us.length=ps.length→bindArgs (C9 x q (bJ st) (aW st) (aC st) .none kV doc pm an cdv ct) ⟨us,[]⟩=pure (ps.zip us)
def Wm(x q:Str)(st:Stmt)(ps:List Str):Prop:=∀(T:Addr)(kV doc pm:Value)(an:Option Addr)(cdv ct:Value)(us:List Value),(us.length=ps.length→∃k,bindArgs (C9 x q (bJ st) (aW st) (aC st) (.ref T) kV doc pm an cdv ct) ⟨us,[]⟩=seqItems? (Value.ref T) >>= k∧k (some #[Value.none])=pure (ps.zip us)) ∧
 (us.length+1=ps.length→∃k,bindArgs (C9 x q (bJ st) (aW st) (aC st) (.ref T) kV doc pm an cdv ct) ⟨us,[]⟩=seqItems? (Value.ref T) >>= k∧k (some #[Value.none])=pure (ps.zip (us++[Value.none])))
def Wz(dN:Bool)(x q:Str)(st:Stmt)(ps:List Str):Prop:=match dN with
 | false=>HB x q st ps
 | true=>Wm x q st ps
section
variable{P:Program}{w:World}{K:aA}{mg:Str→Option Value}{base:Heap}
end
section
variable{K:aA}{X:Cx}{st:Stmt}{g g1 g2 gb:GS}{e a b c o:Expr}{es rest:List Expr}{te ta tb tc t0 tv:TE}{f f0 fa fb fc:FE}{tA:TA}{fs:FA}{pos apos:Pos}{i j:Nat}{π:FP}{Vc:TS}
def Aw(φ φ':D→D→Option D)(f g h:FE):FT:=λe=>(f e).bind λa=>(g e).bind λb=>(φ a b).bind λr=>match r with
  | .bl true=>(h e).bind λc=>(φ' b c).bind λr2=>match r2 with | .bl k=>some k | _=>none
  | .bl false=>some false
  | _=>none
theorem Ax{op op':CmpOp}{r r':R2}{φ φ':D→D→Option D}(ho:eH X (compareOp op) r)(ho':eH X (compareOp op') r')(hd:vV K r φ)(hd':vV K r' φ')(ha:XR K X a ta fa)(hb:XR K X b tb fb)(hc:XR K X c tc fc)(hm:lastMarks [op,op'] [b,c]=false:=by with_unfolding_all rfl):XT K X (.Compare a [op,op'] [b,c] pos) (rF (zJ r r' ta tb tc)) (Aw φ φ' fa fb fc):=⟨ha.hk,zK ho ho' ha.pe hb.pe hc.pe hm,λσ H e k Q re q kk=>by
 obtain⟨d1,q1,q⟩:=aM q
 obtain⟨d2,q2,q⟩:=aM q
 obtain⟨d3,q3,q⟩:=aM q
 refine ha.ev σ H H e d1 _ (Zn.self K H) re q1 λx H1 Z1 s1 t1 z1 rx=>hb.ev σ H1 H1 e d2 _ (Zn.self K H1) (re.same s1) q2 λy H2 Z2 s2 t2 z2 ry=>?_
 refine hd x y H2 d1 d2 d3 _ (s2.rv _ _ (z1.sm.rv _ _ rx)) (z2.sm.rv _ _ ry) q3 λz H3 s3 n=>?_
 have rz:=n.rv
 split at q
 ·obtain⟨d4,q4,q⟩:=aM q
  obtain⟨d5,q5,q⟩:=aM q
  unfold Rv at rz
  refine⟨true,rz,?_⟩
  rw[if_pos rfl]
  refine hc.ev σ H3 H3 e d4 _ (Zn.self K H3) (re.same (s1.trans (s2.trans s3))) q4 λw H4 Z4 s4 t4 z4 Oq=>?_
  refine hd' y w H4 d2 d4 d5 _ ((s3.trans s4).rv _ _ (z2.sm.rv _ _ ry)) (z4.sm.rv _ _ Oq) q5 λv H5 s5 n5=>?_
  have r5:=n5.rv
  split at q
  ·cases q
   unfold Rv at r5
   exact⟨_,r5,kk H5 (s1.trans (s2.trans (s3.trans (s4.trans s5))))⟩
  ·cases q
 ·cases q
  unfold Rv at rz
  refine⟨false,rz,?_⟩
  rw[if_neg (by decide)]
  exact⟨_,rfl,kk H3 (s1.trans (s2.trans s3))⟩
 ·cases q⟩
end
end L2


namespace L2
open PySem PySem.Spec PySem.Calls PyProof.Rows PyProof.V
section
variable{K:aA}{B H:Hp}{env:EN}{σ:St}
end
abbrev FK:=DE→Option (List Key)
def Wn(K:aA)(t:TE)(fk:FK):Prop:=∀(σ:St)(H:Hp)(e:DE)(k:List Key)(Q:VK),iQ K H e σ→fk e=some k→(∀b H',aB H H'→H' b=some (.tup (k.map kV))→Q (.ref b) H')→t σ H Q
structure Xa(K:aA)(X:Cx)(e:Expr)(t:TE)(fk:FK):Prop where
 hk:X.K=K
 pe:PE X e t
 ev:Wn K t fk
section
variable{K:aA}{X:Cx}{st:Stmt}{e a b c o:Expr}{es rest:List Expr}{te ta tb tc t0 tv:TE}{f fa fb:FE}{g:FK}{gd:FE}{tA:TA}{fs:FA}{pos apos:Pos}{i j:Nat}{π:FP}{Vc:TS}
def Tp(K:aA)(t:TA)(fs:FA)(i:Nat):Prop:=∀(σ:St)(H:Hp)(e:DE)(ds:List D)(v:V)(Q:List V→Hp→Prop),iQ K H e σ→fs e=some ds→σ[i]?=some (some v)→(∀vs H',aB H H'→rN K H H' ds vs→Q (vs++[v]) H')→t σ H Q
structure Xb(K:aA)(X:Cx)(es:List Expr)(t:TA)(fs:FA)(i:Nat):Prop where
 hk:X.K=K
 pa:PA X es t
 ev:Tp K t fs i
end
end L2


namespace L2
open PySem PySem.Spec PySem.Calls PyProof.Rows PyProof.V
section
variable{K:aA}{X:Cx}{st:Stmt}{e a b c o:Expr}{es rest:List Expr}{te ta tb tc t0 tv:TE}{f fa fb g:FE}{gk:FK}{gd:FE}{tA:TA}{fs:FA}{pos apos:Pos}{i j:Nat}{π:FP}{Vc:TS}{gm:GM}
end
end L2
namespace L2
open PySem PySem.Spec PySem.Calls PyProof.Rows PyProof.V
end L2


namespace L2
open PySem PySem.Spec PySem.Calls PyProof.Rows PyProof.V
section
variable{K:aA}{X:Cx}{e stx:Expr}{te ts:TE}{f g:FE}{pos p2:Pos}
end
end L2


namespace L2
open PySem PySem.Spec PySem.Calls PyProof.Rows PyProof.V
abbrev FE2:=DE→DE→Option D
def Wo(K:aA)(t:TE)(f:FE2):Prop:=∀{N:Fp}(σ:St)(H Z:Hp)(eF eZ:DE)(d:D)(Q:VK),Zn K N Z H→iQ K H eF σ→iQ K Z eZ σ→f eF eZ=some d →
 (∀v H' Z',aB H H'→aB Z Z'→Zn K N Z' H'→Rv K Z' d v→Q v H')→t σ H Q
def Tq(K:aA)(t:TA)(f:FA2):Prop:=∀{N:Fp}(σ:St)(H Z:Hp)(eF eZ:DE)(ds:List D)(Q:List V→Hp→Prop),Zn K N Z H→iQ K H eF σ→iQ K Z eZ σ→f eF eZ=some ds →
 (∀vs H' Z',aB H H'→aB Z Z'→Zn K N Z' H'→bB K Z' ds vs→Q vs H')→t σ H Q
structure XZ(K:aA)(X:Cx)(e:Expr)(t:TE)(f:FE2):Prop where
 hk:X.K=K
 pe:PE X e t
 ev:Wo K t f
structure Xc(K:aA)(X:Cx)(es:List Expr)(t:TA)(f:FA2):Prop where
 hk:X.K=K
 pa:PA X es t
 ev:Tq K t f
section
variable{K:aA}{X:Cx}{e a b:Expr}{es:List Expr}{te ta tb:TE}{f:FE}{g h:FE2}{tA:TA}{fs:FA2}{pos:Pos}{i:Nat}
end
end L2


namespace L2
open PySem PySem.Spec PySem.Calls PyProof.Rows PyProof.V
inductive Ar where
  | ch (i:Nat) | rd (f:FE) | nw (f:FE)
def Rk:List Ar→List Nat
 | []=>[]
 | .ch i::as=>i::Rk as
 | .rd _::as=>Rk as
 | .nw _::as=>Rk as
def Rm:List Ar→DE→DE→Option (List D)
 | [],_,_=>some []
 | .ch _::as,eF,eZ=>Rm as eF eZ
 | .rd f::as,eF,eZ=>(f eZ).bind λd=>(Rm as eF eZ).map λr=>d::r
 | .nw f::as,eF,eZ=>(f eF).bind λd=>(Rm as eF eZ).map λr=>d::r
def wD(K:aA)(Z:Hp)(σ:St):List Ar→List D→List V→Prop
 | [],ds,vs=>ds=[]∧vs=[]
 | .ch i::as,ds,vs=>∃v r,vs=v::r∧σ[i]?=some (some v)∧wD K Z σ as ds r
 | .rd _::as,ds,vs=>∃d dr v r,ds=d::dr∧vs=v::r∧Rv K Z d v∧wD K Z σ as dr r
 | .nw _::as,ds,vs=>∃d dr v r,ds=d::dr∧vs=v::r∧Rv K Z d v∧wD K Z σ as dr r
def Vd(σ:St):List Nat→List V→Prop
 | [],vs=>vs=[]
 | j::js,vs=>∃v r,vs=v::r∧σ[j]?=some (some v)∧Vd σ js r
section
variable{K:aA}{X:Cx}{e:Expr}{es:List Expr}{te:TE}{f:FE}{tA:TA}{as:List Ar}{pos:Pos}{i:Nat}
def Tr(K:aA)(t:TA)(as:List Ar):Prop:=∀(A1:Fp)(σ:St)(H:Hp)(eF eZ:DE)(ds:List D)(cv:List V)(Q:List V→Hp→Prop),(∀x,A1 x→gF H x)→iQ K H eF σ→iQ K (out H A1) eZ σ→Vd σ (Rk as) cv→Rm as eF eZ=some ds →
 (∀vs H',aB H H'→wD K (out H' A1) σ as ds vs→Q vs H')→t σ H Q
structure Xd(K:aA)(X:Cx)(es:List Expr)(t:TA)(as:List Ar):Prop where
 hk:X.K=K
 pa:PA X es t
 ev:Tr K t as
end
section
variable{K:aA}{H H' Z Z' B:Hp}{σ:St}
end
section
variable{K:aA}{X:Cx}{e:Expr}{es:List Expr}{tA:TA}{as:List Ar}{pos pf:Pos}
end
section
variable{P:Program}{w:World}{K:aA}{mg:Str→Option Value}{base:Heap}
end
section
variable{K:aA}{X:Cx}{a b:Expr}{rest:List Expr}{ta tb:TE}{g h:GM}{f:FE}{pos:Pos}
end
end L2


namespace L2
open PySem PySem.Spec PySem.Calls PyProof.Rows PyProof.V
section
variable{prog:Program}{w:World}{A:Around}{R:Result→Shared→Prop}{I:Addr}{fp wr:List Addr}{n:Nat}{P:Nat→Value→Prop}{St:Nat→Heap→Prop}{kw:List (Str×Value)}
end
section
variable{prog:Program}{w:World}{A:Around}{E:Value→Shared→Prop}{s:Shared}
end
section
variable{K:aA}{X:Cx}{e e2:Expr}{te t2:TE}{f g:FE}{x:Str}{p pos kp:Pos}
end
end L2


namespace L2
open PySem PySem.Spec PySem.Calls PyProof.Rows PyProof.V
section
variable{X:Cx}
end
section
variable{K:aA}{X:Cx}{a b e:Expr}{ta tb te:TE}{f g:FE}{i:Nat}{π:FP}{pos apos cpos:Pos}{m:Str}
def Lq:List D→Option D
 | [.int a]=>some (.int (if a<0 then -a else a))
 | _=>none
def Qj:List V→Hp→VK→Prop:=λxs H Q=>∃a:Int,xs=[.int a]∧Q (.int (if a<0 then -a else a)) H
theorem Lr:fX K Qj Lq:=λvs H ds d Q rs q k=>by
 unfold Lq at q
 split at q
 ·cases q
  obtain⟨v,rfl,r⟩:=fG rs
  unfold Rv at r
  subst r
  exact⟨_,rfl,k _ H (aB.refl _) (.cD rfl (by unfold Rv;rfl))⟩
 ·cases q
theorem Ls:cN X (.builtin "abs") Qj:=by
 intro pins s σ H xs us Q I r h
 obtain⟨a,rfl,q⟩:=h
 obtain⟨u,rfl,rx⟩:=vals1 r
 obtain⟨t,rfl⟩:=rx
 exact call_abs_int λu tk=>⟨.int _,H,I.tok _,⟨u,rfl⟩,q⟩
end
end L2


namespace L2
open PySem PySem.Spec PySem.Calls PyProof.Rows PyProof.V
def Lw(ks:List Key)(vs:List V):List (V×V):=(ks.zip vs).map λkv=>(kV kv.1,kv.2)
def Tt(K:aA)(t:List (TE×TE))(ks:List Key)(is:List Nat)(fs:FA):Prop:=∀(σ:St)(H:Hp)(e:DE)(ds:List D)(xs:List V)(Q:List (V×V)→Hp→Prop),iQ K H e σ→fs e=some ds→xs.length=is.length →
 (∀(k i:Nat),is[k]?=some i→∃x,xs[k]?=some x∧σ[i]?=some (some x))→(∀vs H',aB H H'→rN K H H' ds vs→Q (Lw ks (xs++vs)) H')→tV t σ H Q
structure Xe(K:aA)(X:Cx)(p:Pos)(keys:List (Option Expr))(vals:List Expr)(t:List (TE×TE))(ks:List Key)(is:List Nat)(fs:FA):Prop where
 hk:X.K=K
 Xf:Vm X p keys vals t
 ev:Tt K t ks is fs
section
variable{K:aA}{X:Cx}{st:Stmt}{e:Expr}{vals:List Expr}{keys:List (Option Expr)}{te:TE}{f:FE}{fs:FA}{pos p p1:Pos}{i j:Nat}{t:List (TE×TE)}{ks:List Key}{is:List Nat}{x:Str}
end
section
variable{X:Cx}{K:aA}{x y:Str}{p p2 pos pos2:Pos}{a b:Expr}{t:TA}{fs:FA}
end
end L2


namespace L2
open PySem PySem.Spec PySem.Calls PyProof.Rows PyProof.V
section
variable{K:aA}{X:Cx}{a e:Expr}{ta te:TE}{f:FE}{π:FP}{i:Nat}{m:Str}{apos cpos pos:Pos}
end
end L2


namespace L2
open PySem PySem.Spec PySem.Calls PyProof.Rows PyProof.V
section
variable{K:aA}{X:Cx}{a b e:Expr}{es:List Expr}{ta tb te t:TE}{f g:FE}{tA:TA}{fs:FA}{pos apos cpos p2:Pos}{m:Str}
def lY(a b:D):Option D:=match a,b with
 | .str x,.str y=>if x.length+y.length≤100000 then some (.str (x++y))else none
 | _,_=>none
theorem Ey:vV K (λx y H Q=>∃i j,x=.str i∧y=.str j∧i.length+j.length≤sizeLine∧Q (.str (i++j)) H) lY:=λx y H a b d Q ra rb q k=>by
 unfold lY at q
 split at q
 ·split at q
  ·rename_i c
   cases q
   unfold Rv at ra rb
   exact⟨_,_,ra,rb,oE c,k _ H (aB.refl _) (.cD rfl (by unfold Rv;rfl))⟩
  ·cases q
 ·cases q
theorem wF(ha:XR K X a ta f)(hb:XR K X b tb g):XN K X (.BinOp a .Add b pos) (pF (λx y H Q=>∃i j,x=.str i∧y=.str j∧i.length+j.length≤sizeLine∧Q (.str (i++j)) H) ta tb) (f2 lY f g):=jL tU Ey ha hb
def Ay(x y:Str):Bool:=!(Builtin.Str.occurrences x y 0 x.length 1).isEmpty
def Az(a b:D):Option D:=match a,b with
 | .str y,.str x=>some (.bl (Ay x y))
 | _,_=>none
def Qk:R2:=λx y H Q=>∃i j,x=.str i∧y=.str j∧Q (.bl (!(Builtin.Str.occurrences j i 0 j.length 1).isEmpty)) H
theorem Lx:vV K Qk Az:=λx y H a b d Q ra rb q k=>by
 unfold Az at q
 split at q
 ·cases q
  unfold Rv at ra rb
  exact⟨_,_,ra,rb,k _ H (aB.refl _) (.cD rfl (by unfold Rv Ay;rfl))⟩
 ·cases q
theorem Ly:eH X (compareOp .In) Qk:=xH
def sG(a b:D):Option D:=match a,b with
 | .str x,.int i=>if x.length≤100000 then(yO x.cps.toList i).map λc=>.str ⟨#[c]⟩else none
 | _,_=>none
theorem Ba(ha:XR K X a ta f)(hb:XR K X b tb g)(hs:pJ b):XN K X (.Subscript a b pos) (pF Jp ta tb) (f2 sG f g):=
 ⟨ha.hk,Gy zN ha.pe hb.pe hs,vW (λx y H a b d Q ra rb q k=>by
  unfold sG at q
  split at q
  ·split at q
   ·rename_i c
    obtain⟨u,q1,rfl⟩:=eO q
    unfold Rv at ra rb
    exact⟨_,_,u,ra,rb,oE c,q1,k _ H (aB.refl _) (.cD rfl (by unfold Rv;rfl))⟩
   ·cases q
  ·cases q) ha.ev hb.ev⟩
def oJ:List D→Option D
 | [.str x]=>if x.length≤100000 then some (.int x.length)else none
 | _=>none
theorem Ez:fX K (λxs H Q=>∃z,xs=[.str z]∧z.length≤sizeLine∧Q (.int z.length) H) oJ:=λvs H ds d Q rs q k=>by
 unfold oJ at q
 split at q
 ·split at q
  ·rename_i c
   cases q
   obtain⟨v,rfl,r⟩:=fG rs
   unfold Rv at r
   subst r
   exact⟨_,rfl,oE c,k _ H (aB.refl _) (.cD rfl (by unfold Rv;rfl))⟩
  ·cases q
 ·cases q
def sH(i:Int):Str:=F9 (toString i)
def Bb:List D→Option D
 | [.int i]=>if i.natAbs.log2<1920 then some (.str (sH i))else none
 | _=>none
theorem Fb:fX K (λxs H Q=>∃i,xs=[.int i]∧i.natAbs.log2<1920∧Q (.str (toString i)) H) Bb:=λvs H ds d Q rs q k=>by
 unfold Bb at q
 split at q
 ·split at q
  ·rename_i c
   cases q
   obtain⟨v,rfl,r⟩:=fG rs
   unfold Rv at r
   subst r
   exact⟨_,rfl,c,k _ H (aB.refl _) (.cD rfl (by unfold Rv sH;rfl))⟩
  ·cases q
 ·cases q
noncomputable def Bc:List D→Option D
 | [.str x]=>if x.length≤640 then(F5 x).map .int else none
 | _=>none
def Hs:List V→Hp→VK→Prop:=λxs H Q=>∃x n,xs=[.str x]∧F5 x=some n∧x.length≤640∧Q (.int n) H
theorem Fd:cN X (.type "int") Hs:=by
 intro pins s σ H xs us Q I r h
 obtain⟨x,n,rfl,hn,hl,q⟩:=h
 obtain⟨u,rfl,t,rfl⟩:=vals1 r
 exact PySem.W.KIN.call_text hn hl ⟨.int n,H,I.tok _,⟨_,rfl⟩,q⟩
theorem Fe:fX K Hs Bc:=λvs H ds d Q rs q k=>by
 unfold Bc at q
 split at q
 ·split at q
  ·rename_i c
   obtain⟨n,q1,rfl⟩:=eO q
   obtain⟨v,rfl,r⟩:=fG rs
   unfold Rv at r
   subst r
   exact⟨_,n,rfl,q1,c,k _ H (aB.refl _) (.cD rfl (by unfold Rv;rfl))⟩
  ·cases q
 ·cases q
theorem sI:B7 K (.type "str") (.type "str")=some true:=by with_unfolding_all rfl
def yE(f:FE):FE:=λe=>(f e).bind λd=>match d with | .str _=>some (.bl true) | _=>none
def Ql(K:aA):List V→Hp→VK→Prop:=λxs H Q=>∃x,xs=[.str x,.ty "str"]∧Q (.bl true) H
theorem Lz:cN X (.builtin "isinstance") (Ql K):=by
 intro pins s σ H xs us Q I r h
 obtain⟨x,rfl,q⟩:=h
 obtain⟨u,w',rfl,rx,rt⟩:=vals2 r
 cases rt
 exact iR I rx (.str x) sI λtk=>⟨.bl true,H,I.tok _,rfl,q⟩
theorem Bd{p:Pos}{eT:Expr}(h:XR K X e t f)(hT:PE X eT (tC (.ty "str"))) (hg:Gl X "isinstance") (hm:X.mg "isinstance" = none) (hst:starEach (e::[eT]) X.env=(false,eval e X.env)::starEach [eT] X.env:=by rfl) (hst2:starEach [eT] X.env=(false,eval eT X.env)::starEach [] X.env:=by rfl)
  (hpl:(backTo pos (starEach [eT] X.env)).any (·.1)=false:=by rfl):XN K X (.Call (.Name "isinstance" p) [e,eT] [] pos) (Jo (Ql K) (cZ t (cZ (tC (.ty "str")) jV))) (yE f):=
 ⟨h.hk,lD Lz hg hm G9 (dB h.pe (dB hT iT hst2) hst) (by decide) (by decide) hst hpl,λσ H e d Q re q k=>by
  unfold yE at q
  obtain⟨d0,q1,q2⟩:=aM q
  split at q2
  ·cases q2
   refine h.ev σ H H e _ _ (Zn.self K H) re q1 λv H1 Z1 s1 t1 z1 rv=>?_
   unfold Rv at rv
   subst rv
   exact⟨_,rfl,k _ H1 s1 (.cD rfl (by unfold Rv;rfl))⟩
  ·cases q2⟩
structure jP(mg:Str→Option Value)(x:Str)(i:Str):Prop where
 ex:∃t,mg x=some (.str i t)
theorem lZ{K:aA}{h:Heap}{mg:Str→Option Value}{x:Str}{i:Str}{t:Tok}(X:K.In h)(G:h.Ns mainGlobals mg)(a:K2 K mainGlobals x=some (some (.str i t))):jP mg x i:=⟨t,M3 X G a⟩
theorem wG{x:Str}{i:Str}(G:jP X.mg x i)(hg:Gl X x)(hd:(x==("__debug__" : Str))=false:=by decide) (hk:X.K=K:=by rfl):XN K X (.Name x pos) (tC (.str i)) (fC (.str i)):=by
 obtain⟨t,h⟩:=G.ex
 exact⟨hk,vH hg h ⟨t,rfl⟩ hd,Aa i⟩
def uP:V→List V→Hp→VK→Prop:=λx vs H Q=>∃z y,x=.str z∧vs=[.str y]∧Q (.bl (Txt.startswith z y)) H
theorem Be:Uq X "str.startswith" uP:=by
 intro pins s σ H x vs v us Q I rx rv h
 obtain⟨z,y,rfl,rfl,q⟩:=h
 obtain⟨t,rfl⟩:=rx
 obtain⟨u,rfl,ru⟩:=rv.one
 obtain⟨t',rfl⟩:=ru
 exact PySem.SC.startswith ⟨.bl _,H,I,rfl,q⟩
def qL(a b:D):Option D:=match a,b with
 | .str x,.str y=>some (.bl (Txt.startswith x y))
 | _,_=>none
theorem Bf(ha:XR K X a ta f)(hb:XR K X b tb g)(hp:PE X a ta→PE X b tb→PE X (.Call (.Attribute a m apos) [b] [] cpos) (Ng X.K "str" uP ta (cZ tb jV))):XN K X (.Call (.Attribute a m apos) [b] [] cpos) (Ng X.K "str" uP ta (cZ tb jV)) (f2 qL f g):=
 ⟨ha.hk,hp ha.pe hb.pe,λσ H e d Q re q k=>by
  obtain⟨x,y,q1,q2,q3⟩:=pQ q
  unfold qL at q3
  split at q3
  ·cases q3
   refine ha.ev σ H H e _ _ (Zn.self K H) re q1 λv H1 Z1 s1 t1 z1 rx=>?_
   unfold Rv at rx
   subst rx
   refine⟨rfl,hb.ev σ H1 H1 e _ _ (Zn.self K H1) (re.same s1) q2 λv' H2 Z2 s2 t2 z2 ry=>?_⟩
   unfold Rv at ry
   subst ry
   exact⟨_,_,rfl,rfl,k _ H2 (s1.trans s2) (.cD rfl (by unfold Rv;rfl))⟩
  ·cases q3⟩
def Qm:V→Option Int→Option Int→Hp→VK→Prop:=λx lo hi H Q=>∃z,x=.str z∧lo=some 1∧hi=none∧1≤z.length∧z.length≤sizeLine∧Q (.str ⟨(z.cps.toList.drop 1).toArray⟩) H
theorem Ma(n:Nat):Builtin.Str.strSliceIndices (some 1) none 1 n=Builtin.Str.strSliceIndices (some ((1:Nat):Int)) (some (n:Int)) 1 n:=by
 have h2:¬((n:Int)<0):=by omega
 have e2:max (0:Int) (min (n:Int) (n:Int))=n:=by omega
 simp only[Builtin.Str.strSliceIndices,h2,if_false,e2,show ((1:Int) > 0)=True from by simp,if_true]
 rfl
theorem Mf:Uo X Qm:=by
 intro pins s σ H x v vl vu lo hi sl Q I rx hs pl pu h
 obtain⟨z,rfl,rfl,rfl,h1,hz,q⟩:=h
 obtain⟨t,rfl⟩:=rx
 cases pl with
 | int i t'=>
  cases pu
  have Ht:slicePicked z (some (1,t')) none none=(D8 (z.length-1)).map (λk=>1+k):=by
   unfold slicePicked
   show Builtin.Str.strSliceIndices (some 1) none 1 z.length=_
   rw[Ma,StrLaws.strSliceIndices_plain h1 (B4 _)]
  have hm:sliceMade z t (some (1,t')) none none=.str ⟨(z.cps.toList.drop 1).toArray⟩:=by
   unfold sliceMade
   rw[if_neg]
   ·congr 1
    have e:slicePicked z (some (1,t')) none none=Builtin.Str.strSliceIndices (some ((1:Nat):Int)) (some (z.length:Int)) 1 z.length:=by
     rw[Ht,StrLaws.strSliceIndices_plain h1 (B4 _)]
    rw[e,StrLaws.sliced_plain z h1 (B4 _),List.take_of_length_le]
    rw[N8]
    exact B4 _
   ·rw[Ht]
    simp
    omega
  refine⟨"str", _,F.slot_str_getitem.lookup,typeIs_str _ _ _,wpAny_getItem_str_slice (l:=some (1,t')) (u:=none) (st:=none) hs rfl ?_⟩
  rw[hm]
  refine⟨?_,.str _,H,I.tok _,⟨_,rfl⟩,q⟩
  show (z.cps.toList.drop 1).toArray.size≤sizeLine
  rw[A9,N8]
  have:z.cps.toList.length=z.length:=F6
  omega
def Ff(d:D)(lo hi:Option Int):Option D:=match d with
 | .str z=>if lo=some 1∧hi=none∧1≤z.length∧z.length≤100000 then some (.str ⟨(z.cps.toList.drop 1).toArray⟩)else none
 | _=>none
def Fg(f:FE)(fl fh:FO):FE:=λe=>(f e).bind λd=>(fl e).bind λlo=>(fh e).bind λhi=>Ff d lo hi
theorem Mg{lo hi:Option Expr}{tl th:TO}{fl fh:FO}(h:XR K X e t f)(hl:XO K X lo tl fl)(hu:XO K X hi th fh):XN K X (.Subscript e (.Slice lo hi none p2) pos) (Up Qm t tl th) (Fg f fl fh):=⟨h.hk,zM Mf h.pe hl.po hu.po,λσ H e d Q re q k=>by
 unfold Fg at q
 obtain⟨d0,q1,qa⟩:=aM q
 obtain⟨lo,q2,qb⟩:=aM qa
 obtain⟨hi,q3,qc⟩:=aM qb
 clear q qa qb
 unfold Ff at qc
 split at qc
 ·split at qc
  ·rename_i c
   cases qc
   refine h.ev σ H H e _ _ (Zn.self K H) re q1 λv H1 Z1 s1 t1 z1 rv=>hl.ev σ H1 e lo _ (re.same s1) q2 λH2 s2=>hu.ev σ H2 e hi _ (re.same (s1.trans s2)) q3 λH3 s3=>?_
   unfold Rv at rv
   subst rv
   exact⟨_,rfl,c.1,c.2.1,c.2.2.1,oE c.2.2.2,k _ H3 (s1.trans (s2.trans s3)) (.cD rfl (by unfold Rv;rfl))⟩
  ·cases qc
 ·cases qc⟩
def oK(i j:Int):Prop:=0<j∧j.natAbs.log2<9000
instance:∀i j,Decidable (oK i j):=λi j=>by unfold oK;exact inferInstance
theorem Bg:eH X (binaryOp .FloorDiv) (rI oK λi j=>.int (i/j)):=Ob λi j _ _ _ _ _ hc q=>by
 have h1:(0:Int)<j:=hc.1
 exact floordiv_int (by omega) (by rw[J0 i (by omega)];exact q) (.inl (PyProof.noPylong_of_log2 hc.2))
def oM:D→D→Option D:=kO oK λi j=>.int (i/j)
theorem Fi(ha:XR K X a ta f)(hb:XR K X b tb g):XN K X (.BinOp a .FloorDiv b pos) (pF (rI oK λi j=>.int (i/j)) ta tb) (f2 oM f g):=jL Bg (lO λ_ _ h=>h) ha hb
end
def Tu(x:Str):It:=⟨λi _=>i<x.cps.size,λi H v H'=>H'=H∧∃c,x.cps[i]?=some c∧v=.str ⟨#[c]⟩,λi _=>x.cps.size≤i⟩
section
variable{P:Program}{w:World}{K:aA}{tg:Expr}
theorem sJ{it:Addr}{ty:String}{x:Str}{t:Tok}(W:∀A:Around,A.handled=none→Walks P w A it [it] [it] x.cps.size (SignAt x) (λi h=>h.IsStrIter it ty x t i))
  (hn:["enumerate", "zip", "dict_itemiterator", "dict_reverseitemiterator", "odict_iterator", "itertools.zip_longest", "itertools.pairwise"].contains ty=false)
  (hd:∀(A:Around)(s:Shared)(i:Nat)(Q:Option Value→Shared→Prop)(E:Value→Shared→Prop),A.handled=none→s.heap.IsStrIter it ty x t i→x.cps[i]?=none→(∀h',Heap.ExtBut it s.heap h'→Q none {s with heap:=h'})→wpAny (model P w) A (pyNext (.ref it)) Q E s)
  (hs:∀(A:Around)(i:Nat)(s:Shared)(Q:Value→Shared→Prop)(E:Value→Shared→Prop),s.heap.IsStrIter it ty x t i→Q (.ref it) s→wpAny (model P w) A (pyIter (.ref it)) Q E s):Turn P w K tg (Tu x) [it] it (λi h=>h.IsStrIter it ty x t i) where
 mem:=by simp
 obj:=λi h st b hb=>by
  have e:b=it:=by simpa using hb
  subst e
  obtain⟨o,e,c,d⟩:=st
  exact⟨o,e,λv z=>by rw[d]at z;cases z⟩
 keep:=λi h h' st k=>let ⟨o,ho,r⟩:=st;⟨o,k it (by simp) o ho,r⟩
 item:=by
  intro X hP hw hK hc i pins s σ H E I hf st hg
  subst hP hw hK
  obtain⟨f0,f1,f2,f3,f4,f5⟩:=hf it (by simp)
  refine(W X.A (I.ok.hd hc)).item i s _ _ hg st λv h' tk hv st' kk=>?_
  obtain⟨c,u,hx,rfl⟩:=hv
  have I1:Inv X pins σ H {s with heap:=h',toks:=tk}:=I.turned (λb o hb e=>kk b o (by simpa using hb) e) f0 f1 f3 f4 f5
  obtain⟨o,e,c',d⟩:=id st'
  exact⟨_,rfl,vJ (s:={s with heap:=h',toks:=tk}) e c' d hn ⟨.str ⟨#[c]⟩,H,I1,⟨u,rfl⟩,⟨rfl,c,hx,rfl⟩,st',λb hb=>(hf b hb).1⟩⟩
 done:=by
  intro X hP hw hK hc i pins s σ H E I hf st hg
  subst hP hw hK
  obtain⟨f0,f1,f2,f3,f4,f5⟩:=hf it (by simp)
  have hg:x.cps.size≤i:=hg
  exact hd X.A s i _ _ (I.ok.hd hc) st (by simp;omega) λh' eb=>⟨rfl,I.turned (t':=s.toks) (λb o hb e=>eb b o hb e) f0 f1 f3 f4 f5⟩
 self:=λA i s Q E st h=>hs A i s Q E st h
end
section
variable{K:aA}{X:Cx}{tg e l:Expr}{t tl:TE}{f:FE}
def Qn(tl:TE):TI:=λσ H R=>tl σ H λx H1=>∃z,x=.str z∧R (Tu z) H1
theorem Mh(hl:PE X l tl):PI X tg l (Qn tl):=by
 intro pins s σ H R I h
 refine bY (hl pins s σ H _ I h) λv s1 ⟨x,H1,I1,r1,q1⟩=>?_
 obtain⟨z,e,q⟩:=q1
 subst e
 obtain⟨t,rfl⟩:=r1
 have fin:∀b,b∈[s1.heap.objs.size]→mZ X pins H1 b:=λb hb=>by
  have e:b=s1.heap.objs.size:=by simpa using hb
  subst e
  exact I1.Df (B4 _) (I1.hok.fresh (B4 _))
 cases ha:z.cps.all (·<128)
 ·exact wpAny_pyIter_wide ha ⟨s1.heap.objs.size,[s1.heap.objs.size],_,_,H1,rfl,I1.kept (t':=s1.toks) λb o e=>Heap.get?_push_of_some _ e,sJ (t:=t) (λA hA=>Walks.strWide hA _ z t) (by decide) (λA s i Q E hh st hx hQ=>wpAny_pyNext_wide_end hh st hx hQ) (λA i s Q E st h=>wpAny_pyIter_striter_wide st h),⟨_,Heap.get?_push_size _ rfl,rfl,rfl⟩,fin,q⟩
 ·exact wpAny_pyIter_ascii ha ⟨s1.heap.objs.size,[s1.heap.objs.size],_,_,H1,rfl,I1.kept (t':=s1.toks) λb o e=>Heap.get?_push_of_some _ e,sJ (t:=t) (λA hA=>Walks.strAscii hA _ z t) (by decide) (λA s i Q E hh st hx hQ=>wpAny_pyNext_ascii_end hh st hx hQ) (λA i s Q E st h=>wpAny_pyIter_striter_ascii st h),⟨_,Heap.get?_push_size _ rfl,rfl,rfl⟩,fin,q⟩
def Mi(x:Str):List V:=x.cps.toList.map λc=>V.str ⟨#[c]⟩
def Tv(x:Str):List D:=x.cps.toList.map λc=>D.str ⟨#[c]⟩
theorem Fj{x:Str}:Ju (Tu x) (λ_=>True) (Mi x):=λi H _=>by
 have hl:(Mi x).length=x.cps.size:=by unfold Mi;rw[D5,F6]
 refine⟨λh=>show i<x.cps.size by omega,λv H' ⟨e,c,hc,hv⟩=>⟨e,λh=>?_⟩,λh=>show x.cps.size≤i by omega⟩
 subst hv
 unfold Mi
 rw[B9,Array.getElem?_toList,hc]
 rfl
theorem Mj{H:Hp}(x:Str):bB K H (Tv x) (Mi x):=by
 unfold Tv Mi
 refine bB.of (by simp) λi d v h1 h2=>?_
 rw[B9]at h1 h2
 cases q:x.cps.toList[i]? with
 | none=>rw[q]at h1;cases h1
 | some j=>rw[q]at h1 h2;cases h1;cases h2;unfold Rv;rfl
def Bh(f:FE):FA:=λe=>(f e).bind λd=>match d with | .str z=>some (Tv z) | _=>none
theorem Ml(h:XR K X e t f):XI K X tg e (Qn t) (Bh f):=⟨h.hk,Mh h.pe,λσ H Z e ds R z re q k=>by
 unfold Bh at q
 obtain⟨d,q1,q2⟩:=aM q
 split at q2
 ·rename_i x
  cases q2
  refine h.ev σ H Z e _ _ z re q1 λv H1 Z1 s1 t1 z1 rv=>?_
  unfold Rv at rv
  subst rv
  exact⟨x,rfl,k _ H1 Z1 _ (Mi x) s1 t1 z1 Fj (λ_ _=>trivial) (Mj x)⟩
 ·cases q2⟩
end
end L2


namespace L2
open PySem PySem.Spec PyProof.Rows
abbrev cB(ns:List Int):D:=.lst (ns.map D.int)
theorem jB{i:Nat}{g:GS}(I:Nat→EN→Prop):∀(xs:List D)(env:EN)(n:Nat),I n env→(∀k x env,xs[k]?=some x→I (n+k) env→i<env.length∧∃env',g (env.set i (.fro x))=.next env'∧I (n+k+1) env')→∃env',jA i g xs env=.next env'∧I (n+xs.length) env'
 | [],env,n,h,_=>⟨env,by unfold jA;rfl,h⟩
 | x::xs,env,n,h,st=>by
  obtain⟨h1,env',h2,h3⟩:=st 0 x env rfl h
  obtain⟨cP,a1,a2⟩:=jB I xs env' (n+1) h3 λk y e hk hi=>by
   have:=st (k+1) y e (by simpa using hk) (by rw[show n+(k+1)=n+1+k by omega];exact hi)
   rw[show n+(k+1)+1=n+1+k+1 by omega]at this
   exact this
  refine⟨cP,?_,?_⟩
  ·unfold jA
   rw[if_pos h1,h2]
   exact a1
  ·rw[D9,show n+(xs.length+1)=n+1+xs.length by omega]
   exact a2
theorem dJ{g1 g2:GS}{env env':EN}(h:g1 env=.next env'):aK g1 g2 env=g2 env':=by unfold aK;rw[h]
theorem sO{g1 g2:GS}{env:EN}{d:D}(h:g1 env=.ret d):aK g1 g2 env=.ret d:=by unfold aK;rw[h]
theorem mC{f:FT}{g1 g2:GS}{env:EN}(h:f (rE env)=some true):gC f g1 g2 env=g1 env:=by unfold gC;rw[h]
theorem jC{f:FT}{g1 g2:GS}{env:EN}(h:f (rE env)=some false):gC f g1 g2 env=g2 env:=by unfold gC;rw[h]
theorem qM{i:Nat}{f:FE}{env:EN}{d:D}(h:f (rE env)=some d)(hi:i<env.length):bU i f env=.next (env.set i (.own d)):=by unfold bU;rw[h];dsimp only;rw[if_pos hi]
theorem fP{f:FE}{env:EN}{d:D}(h:f (rE env)=some d):cJ f env=.ret d:=by unfold cJ;rw[h]
theorem Bj{i:Nat}{fi:FA}{g:GS}{env:EN}{xs:List D}(h:fi (rE env)=some xs):jO i fi g env=jA i g xs env:=by unfold jO;rw[h]
theorem Fl{js:List Nat}{i:Nat}{fi:FA}{g:GS}{env jZ:EN}{xs:List D}(h0:jG js env=jZ)(h:fi (zE jZ)=some xs):uL js i fi g env=jA i g xs jZ:=by unfold uL;rw[h0,h]
theorem iD{n m:Nat}{g:GS}{ds:List D}{d:D}(hl:ds.length=m)(h:g (ds.map SD.fro++C6 (n-m) SD.no)=.ret d):iC n m g ds=some d:=by unfold iC;rw[if_pos hl,h]
theorem aL{φ:D→D→Option D}{f g:FE}{e:DE}{a b d:D}(h1:f e=some a)(h2:g e=some b)(h:φ a b=some d):f2 φ f g e=some d:=by unfold f2;rw[h1,h2];exact h
theorem jQ{φ:List D→Option D}{fs:FA}{e:DE}{ds:List D}{d:D}(h1:fs e=some ds)(h:φ ds=some d):fL φ fs e=some d:=by unfold fL;rw[h1];exact h
theorem aG{f:FE}{fs:FA}{e:DE}{a:D}{r:List D}(h1:f e=some a)(h2:fs e=some r):aH f fs e=some (a::r):=by unfold aH;rw[h1,h2];rfl
theorem dM{n:Nat}{F:List D→Option D}{fs:FA}{e:DE}{ds:List D}{d:D}(h1:fs e=some ds)(hl:ds.length=n)(h:F ds=some d):gA n F fs e=some d:=by unfold gA;rw[h1];dsimp only[D3];rw[if_pos hl];exact h
theorem bM{f:FE}{e:DE}{b:Bool}(h:f e=some (.bl b)):fB f e=some b:=by unfold fB;rw[h];rfl
theorem dY{f:FT}{e:DE}{b:Bool}(h:f e=some b):iW f e=some (!b):=by unfold iW;rw[h];rfl
theorem wH{f g:FT}{e:DE}(h:f e=some false):vY f g e=g e:=by unfold vY;rw[h];rfl
theorem wI{f:FE}{e:DE}{d:D}(h:f e=some d)(i:d.cD=true):xV f e=some d:=nZ.mpr ⟨h,i⟩
theorem oO(i j:Int):jN (.int i) (.int j)=some (.int (i+j)):=rfl
theorem mD(i j:Int):Ac (.int i) (.int j)=some (.int (i-j)):=by unfold Ac kO;exact if_pos True.intro
theorem sU{i j:Int}(h:nA i j):lQ (.int i) (.int j)=some (.int (i*j)):=by unfold lQ kO;exact if_pos h
theorem mF{i j:Int}(h:0<j)(h2:j<1073741824):pW (.int i) (.int j)=some (.int (i/j)):=by unfold pW kO;exact if_pos (show xF i j from⟨h,h2⟩)
theorem bT{i j:Int}(h:0<j):dF (.int i) (.int j)=some (.int (i%j)):=by unfold dF kO;exact if_pos h
theorem cC{i j:Int}(h:xG i j):gY (.int i) (.int j)=some (.int (i ^ j.toNat)):=by unfold gY kO;exact if_pos h
theorem wJ(i j:Int):Sx (.int i) (.int j)=some (.bl (decide (i<j))):=by unfold Sx kO;exact if_pos True.intro
theorem qN(i j:Int):Pj (.int i) (.int j)=some (.bl (decide (j<i))):=by unfold Pj kO;exact if_pos True.intro
theorem qO(i j:Int):Hi (.int i) (.int j)=some (.bl (decide (i≤j))):=by unfold Hi kO;exact if_pos True.intro
theorem wK(i j:Int):decide (V.int i=V.int j)=decide (i=j):=by
 by_cases c:i=j
 ·subst c;simp
 ·rw[decide_eq_false c,decide_eq_false (λz=>c (by cases z;rfl))]
theorem iG(i j:Int):mY (.int i) (.int j)=some (.bl (decide (i=j))):=by
 unfold mY toV
 dsimp only
 rw[if_pos (by rfl),wK]
theorem wL(i j:Int):Cu (.int i) (.int j)=some (.bl (!decide (i=j))):=by
 unfold Cu toV
 dsimp only
 rw[if_pos (by rfl),wK]
theorem Bk{α:Type}{xs:List α}{i:Int}{x:α}(h0:0≤i)(h:xs[i.toNat]?=some x):yO xs i=some x:=by
 have h1:i.toNat<xs.length:=by
  obtain⟨h1,_⟩:=B6.mp h
  exact h1
 unfold yO Ol
 rw[if_pos h0,if_pos (by omega)]
 exact h
theorem sV{ns:List Int}{i:Int}(h0:0≤i)(h:i<ns.length):Nh (cB ns) (.int i)=some (.int (ns.getD i.toNat 0)):=Bk h0 (by
 rw[B9,E8,B3 (show i.toNat<ns.length by omega)];rfl)
theorem oR(ns:List Int):uG [cB ns]=some (.int ns.length):=by show some (D.int ((ns.map D.int).length:Nat))=_;rw[D5]
theorem Bl{fi:FA}{fr:List Nat}{fc:FT}{fe:FE}{e:DE}{xs ys:List D}(h1:fi e=some xs)(hl:xs.length≤100000)(h:gZ (λx=>fc (some x::fZ e fr)) (λx=>fe (some x::fZ e fr)) xs=some ys):iB fi fr fc fe e=some (.lst ys):=by
 unfold iB
 rw[h1,D3,if_pos hl,h]
 rfl
theorem uQ(lo:Int)(n:Nat):(cI lo n).length=n:=by unfold cI;rw[D5,N1]
theorem uR{lo:Int}{n k:Nat}{x:D}(h:(cI lo n)[k]?=some x):k<n∧x=.int (lo+k):=by
 unfold cI at h
 rw[B9]at h
 cases q:(D8 n)[k]? with
 | none=>rw[q]at h;cases h
 | some j=>
  rw[q]at h
  obtain⟨h1,h2⟩:=B6.mp q
  rw[N1]at h1
  rw[List.getElem_range]at h2
  subst h2
  exact⟨h1,(C3 h).symm⟩
theorem Bm{fs:FA}{e:DE}{n:Int}(h:fs e=some [.int n])(h1:-100000≤n)(h2:n≤100000):oG fs e=some (cI 0 n.toNat):=by
 unfold oG
 rw[h]
 dsimp only[D3]
 rw[if_pos (show lim n=true from decide_eq_true ⟨h1,h2⟩)]
theorem Tw{i j:Int}(h1:-18446744073709551616<i)(h2:i<18446744073709551616):nA i j:=.inl ⟨h1,h2⟩
theorem Tz{i j:Int}(h1:-18446744073709551616<j)(h2:j<18446744073709551616):nA i j:=.inr ⟨h1,h2⟩
theorem Mm{i:Nat}{f:FE}{env:EN}{ds:List D}{d:D}(h1:env[i]?=some (.own (.lst ds)))(h2:f (rE env)=some d)(hl:ds.length<100000):uN i Ao f env=.next (env.set i (.own (.lst (ds++[d])))):=by
 unfold uN Ao
 rw[h1,h2]
 dsimp only[rY]
 rw[if_pos hl]
 rfl
end L2


namespace L2
open PySem PySem.Spec PyProof.Rows
section
variable{i j:Nat}{f:FE}{c:FT}{g1 g2 g:GS}{env env':EN}{d:D}{r:SR}{ds:List D}
theorem jD(h:f (rE env)=some d)(hi:i<env.length)(k:g (env.set i (.own d))=r):aK (bU i f) g env=r:=(dJ (qM h hi)).trans k
theorem Hu{b:Bool}(h:c (rE env)=some b)(k1:b=true→aK g1 g env=r)(k2:b=false→aK g2 g env=r):aK (gC c g1 g2) g env=r:=by
 cases b with
 | true=>have k:=k1 rfl;unfold aK at k ⊢;rw[mC h];exact k
 | false=>have k:=k2 rfl;unfold aK at k ⊢;rw[jC h];exact k
theorem Bo{b:Bool}(h:c (rE env)=some b)(hb:b=false)(k:aK g2 g env=r):aK (gC c g1 g2) g env=r:=Hu h (λz=>by rw[hb]at z;cases z) λ_=>k
theorem Mp{b:Bool}(h:c (rE env)=some b)(hb:b=true)(k:aK g1 g env=r):aK (gC c g1 g2) g env=r:=Hu h (λ_=>k) (λz=>by rw[hb]at z;cases z)
theorem Hv(k:g env=r):aK bH g env=r:=k
theorem Qo(h:f (rE env)=some d)(k:SR.ret d=r):aK (cJ f) g env=r:=(sO (fP h)).trans k
theorem yF(h:env[i]?=some (.own d)):gB i env=.ret d:=by unfold gB;rw[h]
theorem wM{fs:FA}{e:DE}(h:fs e=some ds)(hl:ds.length≤100000):xW fs e=some (.lst ds):=by unfold xW cap;rw[h];dsimp only[D3];rw[if_pos hl]
theorem kW{e:DE}{z:Int}(h:f e=some (.int z)):qJ f e=some (.int (-z)):=by unfold qJ;rw[h];rfl
theorem wN{e:DE}{T:String}{d':D}(h:f e=some d)(k:rZ T d=some d'):xZ T f e=some d':=by unfold xZ;rw[h];exact k
theorem uT{e:DE}{c':FT}{a b:Bool}(h:c e=some a)(k:c' e=some b):vY c c' e=some (a||b):=by
 unfold vY;rw[h]
 cases a with
 | true=>rfl
 | false=>exact k
theorem Bp{e:DE}(h:f e=some (.lst ds)):Ak f e=some ds:=by unfold Ak;rw[h];rfl
end
end L2
namespace L2
theorem Fo{i:Nat}{e:DE}{d:D}(h:e[i]?=some (some d)):aF i e=some d:=by unfold aF;rw[h];rfl
theorem Qp{e:DE}{d:D}:fC d e=some d:=rfl
theorem Bq{e:DE}:bC e=some []:=rfl
end L2
namespace L2
theorem Br{i:Nat}{fi:FA}{gb:GS}{env:EN}{n:Nat}(I:Nat→EN→Prop)(h:fi (rE env)=some (cI 0 n))(h0:I 0 env)
  (st:∀(k:Nat) env,k<n→I k env→i<env.length∧∃env',gb (env.set i (.fro (.int k)))=.next env'∧I (k+1) env'):∃env',jO i fi gb env=.next env'∧I n env':=by
 obtain⟨env',h1,h2⟩:=jB (i:=i) (g:=gb) I (cI 0 n) env 0 h0 λk x e hx hi=>by
  rw[K3]at hi ⊢
  obtain⟨hk,rfl⟩:=uR hx
  rw[Int.zero_add]
  exact st k e hk hi
 rw[K3,uQ]at h2
 exact⟨env',(Bj h).trans h1,h2⟩
theorem uU(ns:List Int)(n:Int):D.lst (ns.map D.int++[.int n])=cB (ns++[n]):=by unfold cB;rw[L0];rfl
end L2


namespace L2
open PySem PySem.Spec PyProof.Rows
def Qs(Pr:SR→Prop)(r:SR):Prop:=Pr r
section
variable{i j:Nat}{f:FE}{c:FT}{g1 g2 g gb:GS}{env env':EN}{d:D}{ds:List D}{Pr:SR→Prop}
theorem eN(h:f (rE env)=some d)(hi:i<env.length)(k:Qs Pr (g (env.set i (.own d)))):Qs Pr (aK (bU i f) g env):=by rw[dJ (qM h hi)];exact k
theorem sW(k:Qs Pr (g env)):Qs Pr (aK bH g env):=k
theorem Qq(k:Pr (.next env)):Qs Pr (bH env):=k
theorem yG{b:Bool}(h:c (rE env)=some b)(k1:b=true→Qs Pr (aK g1 g env))(k2:b=false→Qs Pr (aK g2 g env)):Qs Pr (aK (gC c g1 g2) g env):=by
 cases b with
 | true=>have k:=k1 rfl;unfold aK at k ⊢;rw[mC h];exact k
 | false=>have k:=k2 rfl;unfold aK at k ⊢;rw[jC h];exact k
theorem Qt{b:Bool}(h:c (rE env)=some b)(k1:b=true→Qs Pr (g1 env))(k2:b=false→Qs Pr (g2 env)):Qs Pr (gC c g1 g2 env):=by
 cases b with
 | true=>rw[mC h];exact k1 rfl
 | false=>rw[jC h];exact k2 rfl
theorem Bu{b:Bool}(h:c (rE env)=some b)(hb:b=false)(k:Qs Pr (aK g2 g env)):Qs Pr (aK (gC c g1 g2) g env):=yG h (λz=>by rw[hb]at z;cases z) λ_=>k
theorem Mq{b:Bool}(h:c (rE env)=some b)(hb:b=false)(k:Qs Pr (g2 env)):Qs Pr (gC c g1 g2 env):=Qt h (λz=>by rw[hb]at z;cases z) λ_=>k
theorem Hw(h:f (rE env)=some d)(k:Pr (.ret d)):Qs Pr (aK (cJ f) g env):=by rw[sO (fP h)];exact k
theorem Bv(h:f (rE env)=some d)(k:Pr (.ret d)):Qs Pr (cJ f env):=by rw[fP h];exact k
theorem Bw(h:env[i]?=some (.own d))(k:Pr (.ret d)):Qs Pr (gB i env):=by rw[yF h];exact k
theorem Mr(h1:env[i]?=some (.own (.lst ds)))(h2:f (rE env)=some d)(hl:ds.length<100000)(k:Pr (.next (env.set i (.own (.lst (ds++[d])))))):Qs Pr (uN i Ao f env):=by rw[Mm h1 h2 hl];exact k
theorem Fq{fi:FA}{n:Nat}(I:Nat→EN→Prop)(h:fi (rE env)=some (cI 0 n))(h0:I 0 env)
  (st:∀(k:Nat) env,k<n→I k env→i<env.length∧Qs (λr=>∃env',r=.next env'∧I (k+1) env') (gb (env.set i (.fro (.int k))))) (k:∀env',I n env'→Qs Pr (g env')):Qs Pr (aK (jO i fi gb) g env):=by
 obtain⟨env',h1,h2⟩:=Br (gb:=gb) I h h0 λk env hk hi=>⟨(st k env hk hi).1,let ⟨e,a,b⟩:=(st k env hk hi).2;⟨e,a,b⟩⟩
 rw[dJ h1]
 exact k env' h2
theorem Qu{js:List Nat}{fi:FA}{jZ:EN}{xs:List D}(I:Nat→EN→Prop)(hf:jG js env=jZ)(h:fi (zE jZ)=some xs)(h0:I 0 jZ)
  (st:∀(k:Nat) x env,xs[k]?=some x→I k env→i<env.length∧Qs (λr=>∃env',r=.next env'∧I (k+1) env') (gb (env.set i (.fro x)))) (k:∀env',I xs.length env'→Qs Pr (g env')):Qs Pr (aK (uL js i fi gb) g env):=by
 obtain⟨env',h1,h2⟩:=jB (i:=i) (g:=gb) I xs jZ 0 h0 λk x e hx hi=>by
  rw[K3]at hi ⊢
  exact⟨(st k x e hx hi).1,let ⟨e,a,b⟩:=(st k x e hx hi).2;⟨e,a,b⟩⟩
 rw[K3]at h2
 rw[dJ ((Fl hf h).trans h1)]
 exact k env' h2
theorem qP{n m:Nat}{Pd:D→Prop}(hl:ds.length=m)(h:Qs (λr=>∃d,r=.ret d∧Pd d) (g (ds.map SD.fro++C6 (n-m) SD.no))):∃d,iC n m g ds=some d∧Pd d:=by
 obtain⟨d,h1,h2⟩:=h
 exact⟨d,iD hl h1,h2⟩
theorem Ft{fs:FA}{e:DE}{n:Nat}(h:fs e=some [.int (n:Int)])(hn:n≤100000):oG fs e=some (cI 0 n):=by
 rw[Bm h (by omega) (by omega),Int.toNat_natCast]
end
end L2
namespace L2
theorem yH{fi:FA}{fr:List Nat}{fe:FE}{e:DE}{α:Type}{xs:List α}{ψ φ:α→D}(h1:fi e=some (xs.map ψ))(hn:xs.length≤1000)(he:∀x∈xs,fe (some (ψ x)::fZ e fr)=some (φ x)):iB fi fr rW fe e=some (.lst (xs.map φ)):=by
 refine Bl h1 (by rw[D5];omega) ?_
 clear h1 hn
 induction xs with
 | nil=>rw[F4,F4];unfold gZ;rfl
 | cons x xs ih=>
  rw[E7]
  unfold gZ
  show (some true).bind _=_
  rw[D3,if_pos rfl,he x E1,D3,ih λy hy=>he y (C8 _ hy)]
  rfl
end L2


namespace L2
open PySem PySem.Spec PyProof.Rows
section
variable{i j:Nat}{f:FE}{c:FT}{g1 g2 g gb:GS}{env env':EN}{d:D}{ds:List D}{Pr:SR→Prop}
theorem oU{fc:FT}(I:Nat→EN→Prop)(hs:∀n env,I n env→(fc (rE env)=some false)∨(fc (rE env)=some true∧0<n∧∃env',gb env=.next env'∧I (n-1) env')):∀(fuel n:Nat)(env:EN),n<fuel→I n env→∃env' n',cM fc gb fuel env=.next env'∧I n' env'∧fc (rE env')=some false
 | 0,n,env,h,_=>absurd h (by omega)
 | fuel+1,n,env,h,hi=>by
  rcases hs n env hi with q | ⟨q,hn,env',h1,h2⟩
  ·exact⟨env,n,by unfold cM;rw[q],hi,q⟩
  ·obtain⟨e2,n2,a1,a2,a3⟩:=oU I hs fuel (n-1) env' (by omega) h2
   refine⟨e2,n2,?_,a2,a3⟩
   unfold cM
   rw[q,h1]
   exact a1
end
end L2
namespace L2
theorem Fv{fc:FT}{gb g:GS}{env:EN}{Pr:SR→Prop}{fuel n:Nat}(I:Nat→EN→Prop)(h0:I n env)(hn:n<fuel)(hs:∀n env,I n env→(fc (rE env)=some false)∨(fc (rE env)=some true∧0<n∧∃env',gb env=.next env'∧I (n-1) env'))
  (k:∀env' n',I n' env'→fc (rE env')=some false→Qs Pr (g env')):Qs Pr (aK (cM fc gb fuel) g env):=by
 obtain⟨env',n',a1,a2,a3⟩:=oU I hs fuel n env hn h0
 rw[dJ a1]
 exact k env' n' a2 a3
end L2
namespace L2
end L2


namespace L2
open PySem PySem.Spec PyProof.Rows
structure Ve where
 Wq:Int
 place:Int
 thing:List Int
 needs:List Int
 deriving Inhabited
abbrev at_(cs:List Ve)(k:Nat):Ve:=cs.getD k default
theorem yI(i j:Int):vZ [.int i,.int j]=some (.int (if j<i then j else i)):=rfl
end L2
namespace L2
end L2
namespace L2
end L2


namespace L2
open PySem PySem.Spec PyProof.Rows
theorem Fw{e:DE}{f f':FE}{a b:Bool}(h:f e=some (.bl a))(k:f' e=some (.bl b)):xX f f' e=some (.bl (a||b)):=by
 unfold xX;rw[bM h]
 cases a with
 | true=>rfl
 | false=>exact k
theorem Bx{α:Type}(p:α→Bool)(l:List α):Ah [.lst (l.map λx=>D.bl (p x))]=some (.bl (l.all p)):=by
 show (fY (l.map λx=>D.bl (p x))).map _=_
 rw[oF]
 show some (D.bl ((l.map p).all id))=_
 rw[List.all_map]
 rfl
end L2


namespace L2
open PySem PySem.Spec PyProof.Rows
section
variable{i j:Nat}{f f':FE}{c:FT}{g1 g2 g gb:GS}{env env':EN}{d d0 d' r:D}{ds:List D}{Pr:SR→Prop}{v:V}{π:FP}{p:List Step}
theorem Qv{f g:FE}{e:DE}(h:c e=some true)(h2:f e=some d):Ko c f g e=some d:=by unfold Ko;rw[h];exact h2
theorem Qw{f g:FE}{e:DE}(h:c e=some false)(h2:g e=some d):Ko c f g e=some d:=by unfold Ko;rw[h];exact h2
end
end L2


local macro_rules | `(tactic| walk_at "fs")=>`(tactic| exact⟨rfl,rfl,rfl,by decide +kernel,rfl,by decide +kernel,by decide +kernel⟩)
namespace Rs
open PySem L2
def top(i:Nat):Stmt:=PySem.Challenge.pw_ripestone_k52_numbers.main.body.getD i (.Pass ⟨0,0,0,0⟩)
abbrev mG:Stmt:=top 14
noncomputable def sX:GS:=aK (bU 1 (fC (.str "")))
 (aK (bU 2 (fL Lq (aH (aF 0) bC)))
 (aK (cM (vY (fB (f2 Pj (aF 2) (fC (.int 0)))) (fB (f2 mY (aF 1) (fC (.str ""))))) (aK (bU 1 (f2 lY (f2 sG (fC (.str "0123456789")) (f2 dF (aF 2) (fC (.int 10)))) (aF 1)))
 (bU 2 (f2 pW (aF 2) (fC (.int 10))))) 400)
 (aK (gC (fB (f2 Sx (aF 0) (fC (.int 0)))) (cJ (f2 lY (fC (.str "-")) (aF 1))) bH)
 (gB 1))))
noncomputable def fJ:List D→Option D:=iC 3 1 (sX)
abbrev dZ:Stmt:=top 9
noncomputable def iH:GS:=cJ (fL Bb (aH (aF 0) bC))
noncomputable def cQ:List D→Option D:=iC 1 1 (iH)
abbrev fQ:Stmt:=top 8
noncomputable def oV:GS:=aK (bU 1 (Ko (fB (f2 qL (aF 0) (fC (.str "-")))) (Fg (aF 0) (uH (fC (.int 1))) (Ai)) (xV (aF 0))))
 (aK (gC (iW (Aw Hi Hi (fC (.int 1)) (fL oJ (aH (aF 1) bC)) (fC (.int (60))))) (cJ (fC (.bl false))) bH)
 (aK (gC (iW (fB (fL Ah (aH (iB (Bh (aF 1)) [] rW (f2 Az (aF 0) (fC (.str "0123456789")))) bC)))) (cJ (fC (.bl false))) bH)
 (cJ (xX (f2 Cu (f2 sG (aF 1) (fC (.int 0))) (fC (.str "0"))) (f2 mY (aF 0) (fC (.str "0")))))))
noncomputable def dO:List D→Option D:=iC 2 1 (oV)
abbrev fK:Stmt:=top 10
noncomputable def jR:GS:=aK (gC (vY (iW (fB (yE (aF 0)))) (iW (fB (gA 1 dO (aH (aF 0) bC))))) Qg bH)
 (cJ (fL Bc (aH (aF 0) bC)))
noncomputable def dD:List D→Option D:=iC 1 1 (jR)
abbrev mH:Stmt:=top 12
noncomputable def sY:GS:=aK (gC (fB (f2 mY (fL uG (aH (aF 0) bC)) (fC (.int 0)))) (cJ (fC (.int 0))) bH)
 (aK (bU 2 (f2 pW (aF 1) (fL uG (aH (aF 0) bC))))
 (aK (bU 3 (f2 jN (fC (.int 48271)) (f2 lQ (f2 lQ (fC (.int 7919)) (aF 2)) (aF 2))))
 (aK (bU 4 (f2 jN (f2 lQ (f2 Nh (aF 0) (f2 dF (aF 1) (fL uG (aH (aF 0) bC)))) (aF 3)) (f2 lQ (f2 lQ (aF 1) (aF 1)) (fC (.int 104729)))))
 (aK (bU 4 (f2 dF (aF 4) (fC (.int 2147483647))))
 (cJ (f2 dF (f2 lQ (aF 4) (aF 4)) (fC (.int 2147483629))))))))
noncomputable def iI:List D→Option D:=iC 5 2 (sY)
abbrev gK:Stmt:=top 15
noncomputable def mJ:GS:=aK (bU 2 (gA 2 iI (aH (aF 0) (aH (aF 1) bC))))
 (aK (bU 3 (f2 dF (f2 Nh (aF 0) (aF 1)) (f2 gY (fC (.int 10)) (fC (.int 60)))))
 (aK (gC (fB (f2 mY (f2 dF (aF 2) (fC (.int 4))) (fC (.int 0)))) (bU 3 (f2 dF (aF 3) (fC (.int 100)))) bH)
 (aK (gC (fB (f2 mY (f2 dF (aF 2) (fC (.int 4))) (fC (.int 1)))) (bU 3 (f2 dF (f2 jN (f2 lQ (f2 gY (aF 2) (fC (.int 6))) (fC (.int 104729))) (aF 3)) (f2 gY (fC (.int 10)) (fC (.int 60))))) bH)
 (aK (gC (fB (f2 mY (f2 dF (aF 2) (fC (.int 4))) (fC (.int 2)))) (bU 3 (f2 oM (aF 3) (f2 gY (fC (.int 10)) (fC (.int 30))))) bH)
 (aK (gC (fB (f2 mY (f2 dF (f2 pW (aF 2) (fC (.int 4))) (fC (.int 2))) (fC (.int 1)))) (cJ (qJ (aF 3))) bH)
 (gB 3))))))
noncomputable def cX:List D→Option D:=iC 4 2 (mJ)
abbrev Ms:Stmt:=top 16
noncomputable def Qx:GS:=aK (bU 1 (xW (aH (fC (.int 0)) (aH (qJ (fC (.int 1))) (aH (fC (.int 9)) (aH (fC (.int 10)) (aH (qJ (fC (.int 10))) (aH (f2 gY (fC (.int 10)) (fC (.int 59))) (aH (f2 Ac (f2 gY (fC (.int 10)) (fC (.int 60))) (fC (.int 1))) (aH (f2 Ac (fC (.int 1)) (f2 gY (fC (.int 10)) (fC (.int 60)))) bC))))))))))
 (aK (jO 2 (oG (aH (fL vZ (aH (fL uG (aH (aF 0) bC)) (aH (fC (.int 63)) bC))) bC)) (uN 1 Ao (gA 2 cX (aH (aF 0) (aH (aF 2) bC)))))
 (aK (uL [1] 3 (Ak (aF 1)) (aK (bU 4 (gA 1 fJ (aH (aF 3) bC)))
 (aK (bU 5 (gA 1 cQ (aH (aF 3) bC)))
 (aK (gC (vY (iW (fB (yE (aF 5)))) (fB (f2 Cu (aF 5) (aF 4)))) (cJ (fC (.bl false))) bH)
 (aK (bU 6 (gA 1 dD (aH (aF 4) bC)))
 (gC (vY (iW (fB (xZ "int" (aF 6)))) (vY (fB (xZ "bool" (aF 6))) (fB (f2 Cu (aF 6) (aF 3))))) (cJ (fC (.bl false))) bH))))))
 (cJ (fC (.bl true)))))
noncomputable def Mt:List D→Option D:=iC 7 1 (Qx)
section
variable{P:Program}{w:World}{K:aA}{mg:Str→Option Value}{base:Heap}
theorem dR:bI ["number", "figures", "rest"] ["number"] (aC mG):=by walk_at "fs"
theorem uV(R:Raw K mg "_law_text" mG) (Mu:mg "abs" = none):tL P w K mg base "_law_text" 1 1 (uJ K 1 fJ):=by
 refine R.yC dR (λ_ _ _ _ _ _ us hl=>match us,hl with | [_],_=>rfl) (λ_ _ _ _ _ _ _ hr=>?_)
 have fV:=hr.units
 have hu:=lE hr
 exact⟨_,aJ (bF (i:=1) (pU) (λh=>bD dR.nd rfl (by first | exact D4 rfl | exact D2 rfl) h))
  (aJ (bF (i:=2) (jM Lr Ls rfl Mu PyProof.Rows.boot_abs (aR (aP (pv 0)) bG)) (λh=>bD dR.nd rfl (by first | exact D4 rfl | exact D2 rfl) h))
  (aJ (An 400 PassesOwn.never (XW.xt (rR (dG Oh pR (aP (pv 2)) (XN.r (aD)) (cG _)) (pZ (dG (or_eq fV rfl) lU (aP (pv 1)) (XN.r (pU)) (cG _))))) (aJ (bF (i:=1) (wF (XN.r (Ba (XN.r (pU)) (XN.r (cU (aP (pv 2)) (XN.r (aD)))) (λ_ _=>rfl))) (aP (pv 1))) (λh=>bD dR.nd rfl (by first | exact D4 rfl | exact D2 rfl) h))
  (aX (bF (i:=2) (uE (aP (pv 2)) (XN.r (aD))) (λh=>bD dR.nd rfl (by first | exact D4 rfl | exact D2 rfl) h)))))
  (aJ (fH (dG Og pR (aP (pv 0)) (XN.r (aD)) (cG _)) (aX (cL (wF (XN.r (pU)) (aP (pv 1))))) cW)
  (aX (wB (pv 1))))))⟩
theorem nH:bI ["number"] ["number"] (aC dZ):=by walk_at "fs"
theorem mK(R:Raw K mg "write_number" dZ) (qQ:mg "str" = none):tL P w K mg base "write_number" 1 1 (uJ K 1 cQ):=by
 refine R.yC nH (λ_ _ _ _ _ _ us hl=>match us,hl with | [_],_=>rfl) (λ_ _ _ _ _ _ _ hr=>?_)
 have fV:=hr.units
 have hu:=lE hr
 exact⟨_,aX (cL (Hq Fb pG rfl qQ G4 (aR (aP (pv 0)) bG)))⟩
theorem mL:bI ["text", "figures"] ["text"] (aC fQ):=by walk_at "fs"
theorem sZ(R:Raw K mg "is_number" fQ) (mO:mg "len" = none) (Mv:mg "all" = none) (uW:jP mg "MINUS" "-") (eE:wC mg "MOST_FIGURES" (60)) (mQ:jP mg "FIGURES" "0123456789") (wO:jP mg "ZERO" "0"):tL P w K mg base "is_number" 1 1 (uJ K 1 dO):=by
 refine R.yC mL (λ_ _ _ _ _ _ us hl=>match us,hl with | [_],_=>rfl) (λ_ _ _ _ _ _ _ hr=>?_)
 have fV:=hr.units
 have hu:=lE hr
 exact⟨_,aJ (bF (i:=1) (Px (gJ (XN.r (Bf (aP (pv 0)) (XN.r (wG uW rfl)) (λa b=>Gz PySem.F.plainAttrs_str PySem.F.slot_str_startswith PySem.F.type_str_startswith Be a (dB b iT))))) (Mg (aP (pv 0)) (En (XN.r (aD))) (Em)) (XR.n (aP (pv 0)))) (λh=>bD mL.nd rfl (by first | exact D4 rfl | exact D2 rfl) h))
  (aJ (fH (iY (Ax Gv Gv pR pR (XN.r (aD)) (XN.r (jM Ez pL rfl mO G0 (aR (aP (pv 1)) bG))) (XN.r (Qf eE rfl)))) (aX (cL (rP))) cW)
  (aJ (fH (iY (gJ (XN.r (jM Ks (Ku rfl) rfl Mv PyProof.Rows.boot_all (aR (XN.r (Eu ["sign"] [] rfl (.at (aC fQ) ["text", "figures"] (by decide +kernel)) (Ml (aP (pv 1))) (Dz (by decide +kernel) rfl rfl) (λ_ _ _ _ _=>Et) (λ_ _ _ _ _=>uF Ly Lx (aP (pv 0)) (XN.r (wG mQ rfl)) (by with_unfolding_all rfl)))) bG))))) (aX (cL (rP))) cW)
  (aX (cL (Pu (XN.r (uF (Ag fV rfl) Af (XN.r (Ba (aP (pv 1)) (XN.r (aD)) (λ_ _=>rfl))) (XN.r (wG wO rfl)) (cG _))) (Ej (uF (or_eq fV rfl) lU (aP (pv 0)) (XN.r (wG wO rfl)) (cG _))))))))⟩
theorem qR:bI ["text"] ["text"] (aC fK):=by walk_at "fs"
theorem nJ(R:Raw K mg "read_number" fK) (jE:tL P w K mg base "is_number" 1 1 (uJ K 1 dO)) (aY:mg "isinstance" = none) (qQ:mg "str" = none) (yJ:mg "int" = none):tL P w K mg base "read_number" 2 1 (uJ K 1 dD):=by
 refine R.yC qR (λ_ _ _ _ _ _ us hl=>match us,hl with | [_],_=>rfl) (λ_ _ _ _ _ _ _ hr=>?_)
 have fV:=hr.units
 have hu:=lE hr
 exact⟨_,aJ (fH (XW.xt (rR (iY (gJ (XN.r (Bd (aP (pv 0)) (kE (v:=.ty "str") rfl qQ G4 rfl) rfl aY)))) (pZ (iY (gJ (XN.r (iZ jE (hr.mono (by decide)) rfl (aR (aP (pv 0)) bG)))))))) (aX (Lp)) cW)
  (aX (cL (Hq Fe Fd rfl yJ L7 (aR (aP (pv 0)) bG))))⟩
theorem dU:bI ["script", "k", "turn", "factor", "mixed"] ["script", "k"] (aC mH):=by walk_at "fs"
theorem uX(R:Raw K mg "_law_draw" mH) (mO:mg "len" = none):tL P w K mg base "_law_draw" 1 2 (uJ K 2 iI):=by
 refine R.yC dU (λ_ _ _ _ _ _ us hl=>match us,hl with | [_,_],_=>rfl) (λ_ _ _ _ _ _ _ hr=>?_)
 have fV:=hr.units
 have hu:=lE hr
 exact⟨_,aJ (fH (dG (or_eq fV rfl) lU (XN.r (jM qC (qD rfl) rfl mO G0 (aR (aP (pv 0)) bG))) (XN.r (aD)) (cG _)) (aX (cL aD)) cW)
  (aJ (bF (i:=2) (uE (aP (pv 1)) (XN.r (jM qC (qD rfl) rfl mO G0 (aR (aP (pv 0)) bG)))) (λh=>bD dU.nd rfl (by first | exact D4 rfl | exact D2 rfl) h))
  (aJ (bF (i:=3) (qF (XN.r (aD)) (XN.r (gG (XN.r (gG (XN.r (aD)) (aP (pv 2)))) (aP (pv 2))))) (λh=>bD dU.nd rfl (by first | exact D4 rfl | exact D2 rfl) h))
  (aJ (bF (i:=4) (qF (XN.r (gG (Hl (aP (pv 0)) (XN.r (cU (aP (pv 1)) (XN.r (jM qC (qD rfl) rfl mO G0 (aR (aP (pv 0)) bG))))) (λ_ _=>rfl)) (aP (pv 3)))) (XN.r (gG (XN.r (gG (aP (pv 1)) (aP (pv 1)))) (XN.r (aD))))) (λh=>bD dU.nd rfl (by first | exact D4 rfl | exact D2 rfl) h))
  (aJ (bF (i:=4) (cU (aP (pv 4)) (XN.r (aD))) (λh=>bD dU.nd rfl (by first | exact D4 rfl | exact D2 rfl) h))
  (aX (cL (cU (XN.r (gG (aP (pv 4)) (aP (pv 4)))) (XN.r (aD)))))))))⟩
theorem bO:bI ["script", "k", "some", "number"] ["script", "k"] (aC gK):=by walk_at "fs"
theorem qT(R:Raw K mg "_law_number" gK) (mR:tL P w K mg base "_law_draw" 1 2 (uJ K 2 iI)):tL P w K mg base "_law_number" 2 2 (uJ K 2 cX):=by
 refine R.yC bO (λ_ _ _ _ _ _ us hl=>match us,hl with | [_,_],_=>rfl) (λ_ _ _ _ _ _ _ hr=>?_)
 have fV:=hr.units
 have hu:=lE hr
 exact⟨_,aJ (bF (i:=2) (iZ mR (hr.mono (by decide)) rfl (aR (aP (pv 0)) (aR (aP (pv 1)) bG))) (λh=>bD bO.nd rfl (by first | exact D4 rfl | exact D2 rfl) h))
  (aJ (bF (i:=3) (cU (Hl (aP (pv 0)) (aP (pv 1)) (λ_ _=>rfl)) (XN.r (gH (XN.r (aD)) (XN.r (aD))))) (λh=>bD bO.nd rfl (by first | exact D4 rfl | exact D2 rfl) h))
  (aJ (fH (dG (or_eq fV rfl) lU (XN.r (cU (aP (pv 2)) (XN.r (aD)))) (XN.r (aD)) (cG _)) (aX (bF (i:=3) (cU (aP (pv 3)) (XN.r (aD))) (λh=>bD bO.nd rfl (by first | exact D4 rfl | exact D2 rfl) h))) cW)
  (aJ (fH (dG (or_eq fV rfl) lU (XN.r (cU (aP (pv 2)) (XN.r (aD)))) (XN.r (aD)) (cG _)) (aX (bF (i:=3) (cU (XN.r (qF (XN.r (gG (XN.r (gH (aP (pv 2)) (XN.r (aD)))) (XN.r (aD)))) (aP (pv 3)))) (XN.r (gH (XN.r (aD)) (XN.r (aD))))) (λh=>bD bO.nd rfl (by first | exact D4 rfl | exact D2 rfl) h))) cW)
  (aJ (fH (dG (or_eq fV rfl) lU (XN.r (cU (aP (pv 2)) (XN.r (aD)))) (XN.r (aD)) (cG _)) (aX (bF (i:=3) (Fi (aP (pv 3)) (XN.r (gH (XN.r (aD)) (XN.r (aD))))) (λh=>bD bO.nd rfl (by first | exact D4 rfl | exact D2 rfl) h))) cW)
  (aJ (fH (dG (or_eq fV rfl) lU (XN.r (cU (XN.r (uE (aP (pv 2)) (XN.r (aD)))) (XN.r (aD)))) (XN.r (aD)) (cG _)) (aX (cL (qK (aP (pv 3))))) cW)
  (aX (wB (pv 3))))))))⟩
theorem mU:bI ["script", "numbers", "k", "number", "due", "told", "back"] ["script"] (aC Ms):=by walk_at "fs"
theorem Mw{f:Addr}{fd:FuncData}(F:Cq K "law" "law" Ms f fd) (gM:tL P w K mg base "_law_number" 2 2 (uJ K 2 cX)) (mV:tL P w K mg base "_law_text" 1 1 (uJ K 1 fJ)) (eG:tL P w K mg base "write_number" 1 1 (uJ K 1 cQ)) (fM:tL P w K mg base "read_number" 2 1 (uJ K 1 dD)) (mO:mg "len" = none) (Mx:mg "min" = none) (uY:mg "range" = none) (aY:mg "isinstance" = none) (qQ:mg "str" = none) (By:mg "bool" = none) (yJ:mg "int" = none) (Ln:∀ns:List Int,ns.length≤63→Mt [.lst (ns.map D.int)]=some (.bl true)):lC P w K mg base yP 3 f fd ["script"] (Ti K):=by
 refine F.We mU (λcdv A outer s H E hr=>?_) Ln
 have fV:=hr.units
 have hu:=lE hr
 exact⟨_,aJ (bF (i:=1) (Kl (dC aD (dC (qK (XN.r (aD))) (dC aD (dC aD (dC (qK (XN.r (aD))) (dC (gH (XN.r (aD)) (XN.r (aD))) (dC (Ad (XN.r (gH (XN.r (aD)) (XN.r (aD)))) (XN.r (aD))) (dC (Ad (XN.r (aD)) (XN.r (gH (XN.r (aD)) (XN.r (aD))))) Kh))))))))) (λh=>bD mU.nd rfl (by first | exact D4 rfl | exact D2 rfl) h))
  (aJ (Ex PassesOwn.never rfl (yD rfl uY (aR (XN.r (jM El (xJ rfl) rfl Mx PyProof.Rows.boot_min (aR (XN.r (jM qC (qD rfl) rfl mO G0 (aR (aP (pv 0)) bG))) (aR (XN.r (aD)) bG)))) bG)) (pD (i:=2) mU.nd rfl (by first | exact D4 rfl | exact D2 rfl)) (aX (Lh (Th (pv 1)) (iZ gM (hr.mono (by decide)) rfl (aR (aP (pv 0)) (aR (aP (pv 2)) bG))) (λa b=>Dd (Gz PySem.F.plainAttrs_list PySem.F.slot_list_append PySem.F.type_list_append nT a (dB b iT))))))
  (aJ (Lb [1] PassesOwn.never rfl (Kv (aP (pv 1))) (pD (i:=3) mU.nd rfl (by first | exact D4 rfl | exact D2 rfl)) (aJ (bF (i:=4) (iZ mV (hr.mono (by decide)) rfl (aR (aP (pv 3)) bG)) (λh=>bD mU.nd rfl (by first | exact D4 rfl | exact D2 rfl) h))
  (aJ (bF (i:=5) (iZ eG (hr.mono (by decide)) rfl (aR (aP (pv 3)) bG)) (λh=>bD mU.nd rfl (by first | exact D4 rfl | exact D2 rfl) h))
  (aJ (fH (XW.xt (rR (iY (gJ (XN.r (Bd (aP (pv 5)) (kE (v:=.ty "str") rfl qQ G4 rfl) rfl aY)))) (pZ (dG (Ag fV rfl) Af (aP (pv 5)) (aP (pv 4)) (cG _))))) (aX (cL (rP))) cW)
  (aJ (bF (i:=6) (iZ fM (hr.mono (by decide)) rfl (aR (aP (pv 4)) bG)) (λh=>bD mU.nd rfl (by first | exact D4 rfl | exact D2 rfl) h))
  (aX (fH (XW.xt (rR (iY (gJ (XN.r (Aq (aP (pv 6)) (kE (v:=.ty "int") rfl yJ L7 rfl) rfl aY)))) (rR (gJ (XN.r (Aq (aP (pv 6)) (kE (v:=.ty "bool") rfl By PyProof.Rows.boot_bool rfl) rfl aY))) (pZ (dG (Ag fV rfl) Af (aP (pv 6)) (aP (pv 3)) (cG _)))))) (aX (cL (rP))) cW)))))))
  (aX (cL (rP)))))⟩
end
end Rs

namespace Rs
open PySem L2
local macro_rules | `(tactic| walk_at "lt")=>`(tactic| exact Nat.le_of_ble_eq_true rfl)
local macro_rules | `(tactic| walk_at "sc")=>`(tactic| first | omega | with_reducible assumption | exact N4 (by decide) | exact Tw (by omega) (by omega) | exact Tz (by omega) (by omega))
local macro_rules | `(tactic| walk_at "op")=>`(tactic| first | with_reducible assumption | with_reducible exact oO _ _ | with_reducible exact mD _ _ | with_reducible exact iG _ _ | with_reducible exact wL _ _ | with_reducible exact wJ _ _ | with_reducible exact qN _ _ | with_reducible exact dGe_int _ _ | with_reducible exact qO _ _ | with_reducible exact oR _ | with_reducible exact dLen_lst _ | with_reducible exact dLen_tup _ | ((with_reducible apply sU);walk_at "sc") | ((with_reducible apply bT);walk_at "sc") | ((with_reducible apply mF);(walk_at "sc");walk_at "sc") | ((with_reducible apply cC);exact⟨by decide,by decide,by omega⟩) | ((with_reducible apply sV);(walk_at "sc");walk_at "sc"))
local macro_rules | `(tactic| walk_at "ea")=>`(tactic| first | with_reducible exact Bq | ((with_reducible apply aG);(walk_at "ev");walk_at "ea"))
local macro_rules | `(tactic| walk_at "ev")=>`(tactic| first | ((with_reducible apply Fo);exact rfl) | with_reducible exact Qp | with_reducible assumption | ((with_reducible apply aL);(walk_at "ev");(walk_at "ev");walk_at "op") | ((with_reducible apply jQ);(walk_at "ea");walk_at "op") | ((with_reducible apply dM);(walk_at "ea");exact rfl;with_reducible assumption) | ((with_reducible apply wI);(walk_at "ev");exact rfl) | ((with_reducible apply kW);walk_at "ev") | ((with_reducible apply fTup_ok);(walk_at "ea");walk_at "lt") | ((with_reducible apply wM);(walk_at "ea");walk_at "lt"))
local macro_rules | `(tactic| walk_at "et")=>`(tactic| first | ((with_reducible apply dY);walk_at "et") | ((with_reducible apply uT);(walk_at "et");walk_at "et") | ((with_reducible apply fAnd_ok);(walk_at "et");walk_at "et") | ((with_reducible apply bM);walk_at "ev"))
local macro_rules | `(tactic| walk_at "set")=>`(tactic| (apply jD;(walk_at "ev");(walk_at "lt")))
local macro_rules | `(tactic| walk_at "q")=>`(tactic| (apply eN;(walk_at "ev");(walk_at "lt")))
def oW(ns:List Int)(k:Int):Int:=if ns.length=0 then 0 else
 ((ns.getD (k%ns.length).toNat 0*(48271+7919*(k/ns.length)*(k/ns.length))+k*k*104729)%2147483647)*((ns.getD (k%ns.length).toNat 0*(48271+7919*(k/ns.length)*(k/ns.length))+k*k*104729)%2147483647)%2147483629
theorem Fx(ns:List Int)(k:Int):0≤oW ns k∧oW ns k<2147483629:=by
 unfold oW
 split
 ·exact⟨by decide,by decide⟩
 ·exact⟨E9 _ (by decide),E5 _ (by decide)⟩
theorem Fy{ns:List Int}{k:Int}(hl:ns.length≤63)(h0:0≤k)(h1:k≤1000):iI [cB ns,.int k]=some (.int (oW ns k)):=by
 refine iD rfl ?_
 unfold sY oW
 by_cases c:ns.length=0
 ·rw[if_pos c]
  apply Mp
  ·walk_at "et"
  ·exact decide_eq_true (by omega)
  apply Qo
  ·walk_at "ev"
  ·rfl
 ·rw[if_neg c]
  have cp:(0:Int)<ns.length:=by omega
  have cq:(ns.length:Int)<1073741824:=by omega
  have m0:=E9 k (show (ns.length:Int)≠0 by omega)
  have m1:=E5 k cp
  have t0:0≤k/(ns.length:Int):=O4 h0 (by omega)
  have t1:k/(ns.length:Int)≤1000:=Int.le_trans (N9 _ h0) h1
  apply Bo
  ·walk_at "et"
  ·exact decide_eq_false (by omega)
  apply Hv
  apply jD
  ·walk_at "ev"
  ·walk_at "lt"
  generalize k/(ns.length:Int)=tn at *
  have q1:0≤tn*tn:=O7 t0 t0
  have q2:tn*tn≤1000*1000:=O8 t1 t1 t0 (by decide)
  have q3:7919*tn*tn=7919*(tn*tn):=Int.mul_assoc _ _ _
  apply jD
  ·walk_at "ev"
  ·walk_at "lt"
  have k2:0≤k*k:=O7 h0 h0
  have k3:k*k≤1000*1000:=O8 h1 h1 h0 (by decide)
  apply jD
  ·walk_at "ev"
  ·walk_at "lt"
  apply jD
  ·walk_at "ev"
  ·walk_at "lt"
  generalize hM:(ns.getD (k%ns.length).toNat 0*(48271+7919*tn*tn)+k*k*104729)%2147483647=M
  have b0:0≤M:=by rw[←hM];exact E9 _ (by decide)
  have b1:M<2147483647:=by rw[←hM];exact E5 _ (by decide)
  apply fP
  walk_at "ev"
def sS(l:List Nat):Str:=⟨l.toArray⟩
theorem cY(l:List Nat):(sS l).length=l.length:=A9 ..
theorem iJ(l:List Nat):(sS l).cps.toList=l:=rfl
theorem My(a b:List Nat):sS a++sS b=sS (a++b):=Str.ext' (by show a.toArray++b.toArray=(a++b).toArray;simp)
theorem Ca(x:Str):x=sS x.cps.toList:=Str.ext' (by show x.cps=x.cps.toList.toArray;simp)
theorem tD(s:String):F9 s=sS (s.toList.map Char.toNat):=by rw[Ca (F9 s),PyProof.Rows.signs_ofString]
theorem Mz{a b:List Nat}(h:sS a=sS b):a=b:=by
 have:=congrArg (λx:Str=>x.cps.toList) h
 exact this
theorem Ua:("" : Str)=sS []:=tD ""
theorem Qy:("-" : Str)=sS [45]:=tD "-"
theorem Ub:("0" : Str)=sS [48]:=tD "0"
theorem Qz:("0123456789" : Str)=sS [48,49,50,51,52,53,54,55,56,57]:=tD "0123456789"
theorem qU(a b:Str):mY (.str a) (.str b)=some (.bl (a==b)):=by
 unfold mY
 show (if rD (V.str a) (V.str b)=true then _ else _)=_
 rw[show rD (V.str a) (V.str b)=true from rfl,if_pos rfl,kI]
theorem wQ(a b:Str):Cu (.str a) (.str b)=some (.bl (!(a==b))):=by
 unfold Cu
 show (if rD (V.str a) (V.str b)=true then _ else _)=_
 rw[show rD (V.str a) (V.str b)=true from rfl,if_pos rfl,kI]
theorem uZ(a b:List Nat):(sS a==sS b)=(a==b):=by
 rw[E6,beq_iff_eq,beq_iff_eq]
 exact⟨Mz,λh=>by rw[h]⟩
theorem tE(a b:List Nat)(h:a.length+b.length≤100000):lY (.str (sS a)) (.str (sS b))=some (.str (sS (a++b))):=by
 unfold lY
 dsimp only
 rw[if_pos (by rw[cY,cY];exact h),My]
theorem wR{l:List Nat}{i:Int}{c:Nat}(h0:0≤i)(h:l[i.toNat]?=some c)(hl:l.length≤100000):sG (.str (sS l)) (.int i)=some (.str (sS [c])):=by
 unfold sG
 dsimp only
 rw[if_pos (by rw[cY];exact hl),iJ,Bk h0 h]
 rfl
theorem Cd(l:List Nat)(h:l.length≤100000):oJ [.str (sS l)]=some (.int l.length):=by
 unfold oJ
 dsimp only
 rw[cY,if_pos h]
theorem Fz(c:Nat)(l:List Nat):Txt.startswith (sS (c::l)) (sS [45])=(c==45):=by
 unfold Txt.startswith
 rw[StrLaws.subAt_eq,cY,cY,iJ,iJ,show decide (0+[45].length≤(c::l).length)=true from decide_eq_true (by simp),Bool.true_and]
 show ([c]==[45])=(c==45)
 simp
theorem Ga{c:Nat}(h1:48≤c)(h2:c≤57):Ay (sS [48,49,50,51,52,53,54,55,56,57]) (sS [c])=true:=by
 have:∀d:Nat,d<10→Ay (sS [48,49,50,51,52,53,54,55,56,57]) (sS [48+d])=true:=by decide +kernel
 have h:=this (c-48) (by omega)
 rw[show 48+(c-48)=c by omega]at h
 exact h
def iK(m:Nat):List Nat:=(K4 10 m).map Char.toNat
theorem Vf(d:Nat)(h:d<10):(J2 d).toNat=48+d:=by
 have:∀d:Nat,d<10→(J2 d).toNat=48+d:=by decide
 exact this d h
theorem jF{m:Nat}(h:m<10):iK m=[48+m]:=by
 unfold iK
 rw[K6 h]
 show [(J2 m).toNat]=_
 rw[Vf m h]
theorem mW{m:Nat}(h:10≤m):iK m=iK (m/10)++[48+m%10]:=by
 have hm:m%10<10:=Nat.mod_lt m (by decide)
 have t:K4 10 (m/10)++K4 10 (m%10)=K4 10 (10*(m/10)+m%10):=Nat.toDigits_append_toDigits (by decide) (by omega) hm
 rw[Nat.div_add_mod]at t
 unfold iK
 rw[←t,L0,K6 hm]
 show _++[(J2 (m%10)).toNat]=_
 rw[Vf _ hm]
theorem qW(m:Nat):∀c∈iK m,48≤c∧c≤57:=by
 induction m using L1 with
 | _ m ih=>
  intro c hc
  by_cases h:m<10
  ·rw[jF h]at hc
   rw[F8.mp hc]
   omega
  ·rw[mW (by omega)]at hc
   rcases G5.mp hc with q | q
   ·exact ih (m/10) (by omega) c q
   ·rw[F8.mp q]
    omega
theorem kY(m:Nat):∀k,1≤k→m<10 ^ k→1≤(iK m).length∧(iK m).length≤k:=by
 induction m using L1 with
 | _ m ih=>
  intro k h1 hk
  by_cases h:m<10
  ·rw[jF h]
   exact⟨B4 _,h1⟩
  ·have hk2:k≠1:=λz=>by subst z;omega
   have e:(10:Nat) ^ k=10 ^ (k-1)*10:=by rw[←Nat.pow_succ];congr 1;omega
   have:=ih (m/10) (by omega) (k-1) (by omega) (by rw[e]at hk;omega)
   rw[mW (by omega),E4,F3]
   omega
theorem tG(m:Nat):0<m→∃c t,iK m=c::t∧c≠48:=by
 induction m using L1 with
 | _ m ih=>
  intro h0
  by_cases h:m<10
  ·exact⟨48+m,[],jF h,by omega⟩
  ·obtain⟨c,t,e,hc⟩:=ih (m/10) (by omega) (by omega)
   exact⟨c,t++[48+m%10],by rw[mW (by omega),e];rfl,hc⟩
theorem Gb(m:Nat):sH (m:Int)=sS (iK m):=by
 unfold sH
 rw[Ca (F9 _),PySem.W.KIN.signs_num]
 rfl
theorem Gd(m:Nat)(h:0<m):sH (-(m:Int))=sS (45::iK m):=by
 obtain⟨k,rfl⟩:∃k,m=k+1:=⟨m-1,by omega⟩
 unfold sH
 rw[tD]
 show sS (("-" ++ Nat.repr (k+1)).toList.map Char.toNat)=_
 rw[String.toList_append,Nat.toList_repr,L0]
 rfl
theorem Ge{m:Nat}(h:m<10 ^ 60):F5 (sS (iK m))=some (m:Int):=by
 obtain⟨h1,h2⟩:=kY m 60 (by decide) h
 rw[PySem.intText_digits (x:=sS (iK m)) (qW m) (λz=>by rw[iJ]at z;rw[z]at h1;simp at h1) (by rw[cY];omega),iJ]
 exact congrArg (λn:Nat=>some (n:Int)) (M0 m)
theorem Gf{m:Nat}(h:m<10 ^ 60):F5 (sS (45::iK m))=some (-(m:Int)):=by
 obtain⟨h1,h2⟩:=kY m 60 (by decide) h
 rw[PySem.intText_neg (x:=sS (45::iK m)) (cs:=iK m) rfl (qW m) (λz=>by rw[z]at h1;simp at h1) (by rw[cY,D9];omega)]
 exact congrArg (λn:Nat=>some (-(n:Int))) (M0 m)
def txt(n:Int):List Nat:=if n<0 then 45::iK n.natAbs else iK n.natAbs
theorem Gg(n:Int):sH n=sS (txt n):=by
 unfold txt
 by_cases h:n<0
 ·rw[if_pos h]
  have e:=Gd n.natAbs (by omega)
  rw[show -((n.natAbs:Nat):Int)=n by omega]at e
  exact e
 ·rw[if_neg h]
  have e:=Gb n.natAbs
  rw[show ((n.natAbs:Nat):Int)=n by omega]at e
  exact e
theorem Gh{f1 f2 f3:FE}{e:DE}{a b c:Int}(h1:f1 e=some (.int a))(h2:f2 e=some (.int b))(h3:f3 e=some (.int c)):Aw Hi Hi f1 f2 f3 e=some (decide (a≤b)&&decide (b≤c)):=by
 unfold Aw
 rw[h1,h2,h3]
 dsimp only[D3]
 rw[qO,D3]
 by_cases q:a≤b
 ·rw[decide_eq_true q]
  dsimp only
  rw[qO]
  rfl
 ·rw[decide_eq_false q]
  rfl
theorem tH(c:Nat)(l:List Nat):qL (.str (sS (c::l))) (.str (sS [45]))=some (.bl (c==45)):=by
 show some (D.bl (Txt.startswith (sS (c::l)) (sS [45])))=_
 rw[Fz]
theorem wU{f:FE}{e:DE}{x:Str}(h:f e=some (.str x)):yE f e=some (.bl true):=by unfold yE;rw[h];rfl
theorem mX{l:List Nat}{x:Str}(h1:1≤l.length)(h2:l.length≤60)(hf:∀c∈l,48≤c∧c≤57)(hz:l.head?=some 48→x=sS [48]) :
  Qs (λr=>∃d,r=.ret d∧d=.bl true) ((aK (gC (iW (Aw Hi Hi (fC (.int 1)) (fL oJ (aH (aF 1) bC)) (fC (.int (60))))) (cJ (fC (.bl false))) bH)
 (aK (gC (iW (fB (fL Ah (aH (iB (Bh (aF 1)) [] rW (f2 Az (aF 0) (fC (.str (sS [48,49,50,51,52,53,54,55,56,57]))))) bC)))) (cJ (fC (.bl false))) bH)
 (cJ (xX (f2 Cu (f2 sG (aF 1) (fC (.int 0))) (fC (.str (sS [48])))) (f2 mY (aF 0) (fC (.str (sS [48])))))))) [.fro (.str x),.own (.str (sS l))]):=by
 refine Bu (dY (Gh (a:=1) (b:=l.length) (c:=60) rfl (jQ (aG rfl rfl) (Cd l (by omega))) rfl)) ?_ (sW ?_)
 ·rw[decide_eq_true (show (1:Int)≤l.length by omega),decide_eq_true (show (l.length:Int)≤60 by omega)]
  rfl
 have hc:iB (Bh (aF 1)) [] rW (f2 Az (aF 0) (fC (.str (sS [48,49,50,51,52,53,54,55,56,57])))) (rE [.fro (.str x),.own (.str (sS l))])=some (.lst (l.map λc=>D.bl ((λ_=>true) c))):=by
  refine yH (xs:=l) (ψ:=λc=>D.str ⟨#[c]⟩) (φ:=λc=>D.bl true) rfl (by omega) λc hc=>?_
  refine aL rfl rfl ?_
  show some (D.bl (Ay (sS [48,49,50,51,52,53,54,55,56,57]) (sS [c])))=_
  rw[Ga (hf c hc).1 (hf c hc).2]
 refine Bu (dY (bM (jQ (aG hc rfl) (Bx (λ_=>true) l)))) ?_ (sW ?_)
 ·simp
 obtain⟨c,t,rfl⟩:∃c t,l=c::t:=by
  cases l with
  | nil=>simp at h1
  | cons c t=>exact⟨c,t,rfl⟩
 refine Bv (Fw (aL (aL rfl rfl (wR (c:=c) (by decide) rfl (by omega))) rfl (wQ _ _)) (aL rfl rfl (qU _ _))) ⟨_,rfl,?_⟩
 by_cases q:c=48
 ·subst q
  rw[hz rfl]
  simp
 ·rw[uZ]
  simp[q]
theorem Ce{n:Int}(h:n.natAbs<10 ^ 60):dO [.str (sS (txt n))]=some (.bl true):=by
 suffices hh:∃d,dO [.str (sS (txt n))]=some d∧d=.bl true by
  obtain⟨d,h1,rfl⟩:=hh
  exact h1
 obtain⟨h1,h2⟩:=kY n.natAbs 60 (by decide) h
 have hf:=qW n.natAbs
 refine qP rfl ?_
 unfold oV
 rw[Qy,Ub,Qz]
 by_cases c:n<0
 ·have et:txt n=45::iK n.natAbs:=by unfold txt;rw[if_pos c]
  obtain⟨a,t,e,ha⟩:=tG n.natAbs (by omega)
  rw[et]
  refine eN (d:=.str (sS (iK n.natAbs))) (Qv (bM (aL rfl rfl (tH 45 _))) ?_) (by exact Nat.le_of_ble_eq_true rfl) (mX h1 h2 hf λz=>?_)
  ·unfold Fg
   show (Ff (.str (sS (45::iK n.natAbs))) (some 1) none)=_
   unfold Ff
   dsimp only
   rw[if_pos ⟨rfl,rfl,by rw[cY,D9];omega,by rw[cY,D9];omega⟩]
   rfl
  ·rw[e]at z
   cases z
   exact absurd rfl ha
 ·have et:txt n=iK n.natAbs:=by unfold txt;rw[if_neg c]
  rw[et]
  obtain⟨a,t,e⟩:∃a t,iK n.natAbs=a::t:=by
   cases q:iK n.natAbs with
   | nil=>rw[q]at h1;simp at h1
   | cons a t=>exact⟨a,t,rfl⟩
  have ha:=hf a (by rw[e];exact E1)
  refine eN (d:=.str (sS (iK n.natAbs))) (Qw ?_ (wI rfl rfl)) (by exact Nat.le_of_ble_eq_true rfl) (mX h1 h2 hf λz=>?_)
  ·rw[e]
   refine(bM (aL rfl rfl (tH a t))).trans ?_
   rw[show (a==45)=false from beq_eq_false_iff_ne.mpr (by omega)]
  ·by_cases q:n.natAbs=0
   ·rw[q,jF (by decide)]
   ·obtain⟨a',t',e',ha'⟩:=tG n.natAbs (by omega)
    rw[e']at z
    cases z
    exact absurd rfl ha'
theorem Gi{n:Int}(h:n.natAbs<10 ^ 60):F5 (sS (txt n))=some n:=by
 unfold txt
 by_cases c:n<0
 ·rw[if_pos c,Gf h]
  exact congrArg some (by omega)
 ·rw[if_neg c,Ge h]
  exact congrArg some (by omega)
theorem Gj{n:Int}(h:n.natAbs<10 ^ 60):(txt n).length≤61:=by
 obtain⟨h1,h2⟩:=kY n.natAbs 60 (by decide) h
 unfold txt
 split
 ·rw[D9];omega
 ·omega
theorem Cg{n:Int}(h:n.natAbs<10 ^ 60):dD [.str (sS (txt n))]=some (.int n):=by
 refine iD rfl ?_
 unfold jR
 refine Bo (b:=false) ((wH (dY (b:=true) (bM (wU rfl)))).trans (dY (bM (dM (aG rfl rfl) rfl (Ce h))))) rfl (Hv ?_)
 refine fP (jQ (aG rfl rfl) ?_)
 show (if(sS (txt n)).length≤640 then(F5 (sS (txt n))).map D.int else none)=_
 rw[if_pos (by rw[cY];have:=Gj h;omega),Gi h]
 rfl
theorem yK{n:Int}(h:n.natAbs<10 ^ 60):cQ [.int n]=some (.str (sS (txt n))):=by
 refine iD rfl ?_
 unfold iH
 refine fP (jQ (aG rfl rfl) ?_)
 show (if n.natAbs.log2<1920 then some (D.str (sH n))else none)=_
 have hl:n.natAbs.log2<1920:=by
  by_cases c:n.natAbs=0
  ·rw[c];decide
  ·rw[Nat.log2_lt c]
   exact Nat.lt_trans h (by decide)
 rw[if_pos hl,Gg]
theorem Ci{n:Int}(h:n.natAbs<10 ^ 60):fJ [.int n]=some (.str (sS (txt n))):=by
 suffices hh:∃d,fJ [.int n]=some d∧d=.str (sS (txt n)) by
  obtain⟨d,h1,rfl⟩:=hh
  exact h1
 refine qP rfl ?_
 unfold sX
 rw[Ua,Qy,Qz]
 walk_at "q"
 refine eN (d:=.int (n.natAbs:Int)) (jQ (aG rfl rfl) ?_) (by exact Nat.le_of_ble_eq_true rfl) ?_
 ·show some (D.int (if n<0 then -n else n))=_
  exact congrArg (λi=>some (D.int i)) (by split<;>omega)
 refine Fv (n:=61) (λk env=>∃(F:List Nat)(r:Nat),env=[.fro (.int n),.own (.str (sS F)),.own (.int (r:Int))]∧r<10 ^ k∧F.length+k≤61∧((F=[]∧r=n.natAbs∧0<k)∨(F≠[]∧((0<r∧iK n.natAbs=iK r++F)∨(r=0∧iK n.natAbs=F)))))
  ⟨[],n.natAbs,rfl,Nat.lt_trans h (by decide),by decide,.inl ⟨rfl,rfl,by decide⟩⟩ (by exact Nat.le_of_ble_eq_true rfl) ?_ ?_
 ·rintro k env ⟨F,r,rfl,hr,hl,hF⟩
  have hc:(vY (fB (f2 Pj (aF 2) (fC (.int 0)))) (fB (f2 mY (aF 1) (fC (.str (sS [])))))) (rE [.fro (.int n),.own (.str (sS F)),.own (.int (r:Int))])=some (decide (0<r)||(F==[])):=by
   refine uT (bM (aL rfl rfl ((qN _ _).trans ?_))) (bM (aL rfl rfl ((qU _ _).trans ?_)))
   ·exact congrArg (λb=>some (D.bl b)) (by by_cases q:0<r<;>simp[q]<;>omega)
   ·rw[uZ]
  by_cases q:r=0∧F≠[]
  ·left
   rw[hc]
   obtain⟨q1,q2⟩:=q
   subst q1
   cases F with
   | nil=>exact absurd rfl q2
   | cons a t=>rfl
  ·right
   have hk:0<k:=by
    rcases hF with ⟨_,_,z⟩ | ⟨z,⟨z2,_⟩ | ⟨z2,_⟩⟩
    ·exact z
    ·by_cases kz:k=0
     ·rw[kz]at hr;omega
     ·omega
    ·exact absurd ⟨z2,z⟩ q
   refine⟨?_,hk,?_⟩
   ·rw[hc]
    rcases hF with ⟨z,_,_⟩ | ⟨z,⟨z2,_⟩ | ⟨z2,_⟩⟩
    ·rw[z];simp
    ·rw[decide_eq_true z2];rfl
    ·exact absurd ⟨z2,z⟩ q
   have hm:r%10<10:=Nat.mod_lt _ (by decide)
   have hix:sG (.str (sS [48,49,50,51,52,53,54,55,56,57])) (.int ((r:Int)%10))=some (.str (sS [48+r%10])):=by
    refine wR (by omega) ?_ (by decide)
    have e:((r:Int)%10).toNat=r%10:=by omega
    rw[e]
    have:∀d:Nat,d<10→([48,49,50,51,52,53,54,55,56,57]:List Nat)[d]?=some (48+d):=by decide
    exact this _ hm
   refine⟨[.fro (.int n),.own (.str (sS ((48+r%10)::F))),.own (.int ((r/10:Nat):Int))],?_,(48+r%10)::F,r/10,rfl,?_,?_,?_⟩
   ·refine jD (aL (aL rfl (aL rfl rfl (bT (by decide))) hix) rfl (tE [48+r%10] F (by rw[F3];omega))) (by exact Nat.le_of_ble_eq_true rfl) ?_
    refine(qM (d:=.int ((r/10:Nat):Int)) (aL rfl rfl ((mF (by decide) (by decide)).trans ?_)) (by exact Nat.le_of_ble_eq_true rfl)).trans rfl
    exact congrArg (λi=>some (D.int i)) (by omega)
   ·have e:(10:Nat) ^ k=10 ^ (k-1)*10:=by rw[←Nat.pow_succ];congr 1;omega
    rw[e]at hr
    omega
   ·rw[D9];omega
   ·right
    refine⟨List.cons_ne_nil _ _,?_⟩
    rcases hF with ⟨z,z1,_⟩ | ⟨z,⟨z2,z3⟩ | ⟨z2,_⟩⟩
    ·subst z z1
     by_cases c:n.natAbs<10
     ·right
      refine⟨by omega,?_⟩
      rw[jF c,O0 c]
     ·left
      exact⟨by omega,mW (by omega)⟩
    ·by_cases c:r<10
     ·right
      refine⟨by omega,?_⟩
      rw[z3,jF c,O0 c]
      rfl
     ·left
      refine⟨by omega,?_⟩
      rw[z3,mW (by omega),List.append_assoc]
      rfl
    ·exact absurd ⟨z2,z⟩ q
 ·rintro env k ⟨F,r,rfl,hr,hl,hF⟩ hc
  have hc2:(vY (fB (f2 Pj (aF 2) (fC (.int 0)))) (fB (f2 mY (aF 1) (fC (.str (sS [])))))) (rE [.fro (.int n),.own (.str (sS F)),.own (.int (r:Int))])=some (decide (0<r)||(F==[])):=by
   refine uT (bM (aL rfl rfl ((qN _ _).trans ?_))) (bM (aL rfl rfl ((qU _ _).trans ?_)))
   ·exact congrArg (λb=>some (D.bl b)) (by by_cases q:0<r<;>simp[q]<;>omega)
   ·rw[uZ]
  rw[hc2]at hc
  have hc:=C3 hc
  rw[Bool.or_eq_false_iff]at hc
  have h0:¬0<r:=of_decide_eq_false hc.1
  have hF:iK n.natAbs=F:=by
   rcases hF with ⟨z,_,_⟩ | ⟨z,⟨z2,_⟩ | ⟨_,z3⟩⟩
   ·rw[z]at hc;simp at hc
   ·exact absurd z2 h0
   ·exact z3
  refine yG (bM (aL rfl rfl (wJ _ _))) (λhb=>?_) (λhb=>?_)
  ·refine Hw (aL rfl rfl (tE [45] F (by rw[F3];omega))) ⟨_,rfl,?_⟩
   unfold txt
   rw[if_pos (of_decide_eq_true hb),hF]
   rfl
  ·refine sW (Bw rfl ⟨_,rfl,?_⟩)
   unfold txt
   rw[if_neg (of_decide_eq_false hb),hF]
theorem yL{i j:Int}(h:oK i j):oM (.int i) (.int j)=some (.int (i/j)):=by unfold oM kO;exact if_pos h
def iM(n:Int):Prop:=n.natAbs<10 ^ 60
theorem Gk{ns:List Int}{k:Nat}(hl:ns.length≤63)(hk:k<ns.length):∃n,cX [cB ns,.int k]=some (.int n)∧iM n:=by
 suffices h:∃d,cX [cB ns,.int k]=some d∧∃n,d=.int n∧iM n by
  obtain⟨d,h1,n,rfl,h2⟩:=h
  exact⟨n,h1,h2⟩
 refine qP rfl ?_
 unfold mJ
 have hd:=Fy (k:=(k:Int)) hl (by omega) (by omega)
 obtain⟨b0,b1⟩:=Fx ns k
 generalize oW ns k=r at *
 walk_at "q"
 have Rn:(0:Int)<10 ^ (60:Int).toNat:=N4 (by decide)
 have Vg:(0:Int)<10 ^ (30:Int).toNat:=N4 (by decide)
 have hix:Nh (cB ns) (.int k)=some (.int (ns.getD (k:Int).toNat 0)):=sV (by omega) (by omega)
 refine eN (aL (aL rfl rfl hix) (aL rfl rfl (cC ⟨by decide,by decide,by decide⟩)) (bT Rn)) (by exact Nat.le_of_ble_eq_true rfl) ?_
 have m0:=E9 (ns.getD (k:Int).toNat 0) (show (10 ^ (60:Int).toNat:Int)≠0 by omega)
 have m1:=E5 (ns.getD (k:Int).toNat 0) Rn
 generalize ns.getD (k:Int).toNat 0%10 ^ (60:Int).toNat=x at *
 have fin:∀x:Int,0≤x→x<10 ^ (60:Int).toNat→Qs (λr=>∃d,r=.ret d∧∃n,d=.int n∧iM n) ((aK (gC (fB (f2 mY (f2 dF (f2 pW (aF 2) (fC (.int 4))) (fC (.int 2))) (fC (.int 1)))) (cJ (qJ (aF 3))) bH)
 (gB 3)) [.fro (cB ns),.fro (.int k),.own (.int r),.own (.int x)]):=by
  intro x m0 m1
  have m1:x<10 ^ 60:=m1
  refine yG (bM (aL (aL (aL rfl rfl (mF (by decide) (by decide))) rfl (bT (by decide))) rfl (iG _ _))) (λhb=>?_) (λhb=>?_)
  ·refine Hw (kW rfl) ⟨_,rfl,_,rfl,?_⟩
   unfold iM
   omega
  ·refine sW (Bw rfl ⟨_,rfl,_,rfl,?_⟩)
   unfold iM
   omega
 have third:∀x:Int,0≤x→x<10 ^ (60:Int).toNat→Qs (λr=>∃d,r=.ret d∧∃n,d=.int n∧iM n) ((aK (gC (fB (f2 mY (f2 dF (aF 2) (fC (.int 4))) (fC (.int 2)))) (bU 3 (f2 oM (aF 3) (f2 gY (fC (.int 10)) (fC (.int 30))))) bH)
 (aK (gC (fB (f2 mY (f2 dF (f2 pW (aF 2) (fC (.int 4))) (fC (.int 2))) (fC (.int 1)))) (cJ (qJ (aF 3))) bH)
 (gB 3))) [.fro (cB ns),.fro (.int k),.own (.int r),.own (.int x)]):=by
  intro x m0 m1
  refine yG (bM (aL (aL rfl rfl (bT (by decide))) rfl (iG _ _))) (λhb=>?_) (λhb=>?_)
  ·refine eN (aL rfl (aL rfl rfl (cC ⟨by decide,by decide,by decide⟩)) (yL ⟨Vg,by decide +kernel⟩)) (by exact Nat.le_of_ble_eq_true rfl) (fin _ ?_ ?_)
   ·exact O4 m0 (Int.le_of_lt Vg)
   ·exact Int.lt_of_le_of_lt (N9 _ m0) m1
  ·exact sW (fin x m0 m1)
 have second:∀x:Int,0≤x→x<10 ^ (60:Int).toNat→Qs (λr=>∃d,r=.ret d∧∃n,d=.int n∧iM n) ((aK (gC (fB (f2 mY (f2 dF (aF 2) (fC (.int 4))) (fC (.int 1)))) (bU 3 (f2 dF (f2 jN (f2 lQ (f2 gY (aF 2) (fC (.int 6))) (fC (.int 104729))) (aF 3)) (f2 gY (fC (.int 10)) (fC (.int 60))))) bH)
 (aK (gC (fB (f2 mY (f2 dF (aF 2) (fC (.int 4))) (fC (.int 2)))) (bU 3 (f2 oM (aF 3) (f2 gY (fC (.int 10)) (fC (.int 30))))) bH)
 (aK (gC (fB (f2 mY (f2 dF (f2 pW (aF 2) (fC (.int 4))) (fC (.int 2))) (fC (.int 1)))) (cJ (qJ (aF 3))) bH)
 (gB 3)))) [.fro (cB ns),.fro (.int k),.own (.int r),.own (.int x)]):=by
  intro x m0 m1
  refine yG (bM (aL (aL rfl rfl (bT (by decide))) rfl (iG _ _))) (λhb=>?_) (λhb=>?_)
  ·refine eN (aL (aL (aL (aL rfl rfl (cC ⟨by decide,by decide,by omega⟩)) rfl (sU (.inr ⟨by decide,by decide⟩))) rfl (oO _ _)) (aL rfl rfl (cC ⟨by decide,by decide,by decide⟩)) (bT Rn)) (by exact Nat.le_of_ble_eq_true rfl) (third _ ?_ ?_)
   ·exact E9 _ (by omega)
   ·exact E5 _ Rn
  ·exact sW (third x m0 m1)
 refine yG (bM (aL (aL rfl rfl (bT (by decide))) rfl (iG _ _))) (λhb=>?_) (λhb=>?_)
 ·refine eN (aL rfl rfl (bT (by decide))) (by exact Nat.le_of_ble_eq_true rfl) (second _ ?_ ?_)
  ·exact E9 _ (by decide)
  ·have:=E5 x (show (0:Int)<100 by decide)
   exact Int.lt_trans this (by decide)
 ·exact sW (second x m0 m1)
theorem Cj(ns:List Int)(hl:ns.length≤63):Mt [.lst (ns.map D.int)]=some (.bl true):=by
 suffices h:∃d,Mt [cB ns]=some d∧d=.bl true by
  obtain⟨d,h1,rfl⟩:=h
  exact h1
 refine qP rfl ?_
 unfold Qx
 refine eN (d:=cB [0,-1,9,10,-10,10 ^ (59:Int).toNat,10 ^ (60:Int).toNat-1,1-10 ^ (60:Int).toNat]) (wM (aG rfl (aG (kW rfl) (aG rfl (aG rfl (aG (kW rfl) (aG (aL rfl rfl (cC ⟨by decide,by decide,by decide⟩)) (aG (aL (aL rfl rfl (cC ⟨by decide,by decide,by decide⟩)) rfl (mD _ _)) (aG (aL rfl (aL rfl rfl (cC ⟨by decide,by decide,by decide⟩)) (mD _ _)) rfl)))))))) (by decide)) (by exact Nat.le_of_ble_eq_true rfl) ?_
 refine Fq (n:=ns.length) (λk env=>∃(l:List Int)(v:SD),env=[.fro (cB ns),.own (cB l),v,.no,.no,.no,.no]∧l.length=8+k∧∀x∈l,iM x) ?_ ⟨_,_,rfl,rfl,?_⟩ ?_ ?_
 ·refine Ft (n:=ns.length) (aG (jQ (aG (jQ (aG rfl rfl) (oR ns)) (aG rfl rfl)) ((yI _ _).trans ?_)) rfl) (by omega)
  rw[if_neg (by omega)]
 ·intro x hx
  unfold iM
  rcases C5.mp hx with z | hx
  ·rw[z];decide
  rcases C5.mp hx with z | hx
  ·rw[z];decide
  rcases C5.mp hx with z | hx
  ·rw[z];decide
  rcases C5.mp hx with z | hx
  ·rw[z];decide
  rcases C5.mp hx with z | hx
  ·rw[z];decide
  rcases C5.mp hx with z | hx
  ·rw[z];decide
  rcases C5.mp hx with z | hx
  ·rw[z];decide
  rcases C5.mp hx with z | hx
  ·rw[z];decide
  cases hx
 ·rintro k env hk ⟨l,v,rfl,hll,hall⟩
  refine⟨by show 2<7;decide,?_⟩
  obtain⟨n,hn,hs⟩:=Gk hl hk
  refine Mr (ds:=l.map D.int) (d:=.int n) rfl (dM (aG rfl (aG rfl rfl)) rfl hn) (by rw[D5];omega) ?_
  rw[uU]
  refine⟨_,rfl,l++[n],.fro (.int k),rfl,by rw[E4,hll];rfl,λx hx=>?_⟩
  rcases G5.mp hx with z | z
  ·exact hall x z
  ·rw[F8.mp z];exact hs
 rintro env ⟨l,v,rfl,hll,hall⟩
 refine Qu (xs:=l.map D.int) (λk env=>∃v3 v4 v5 v6,env=[.fro (cB ns),.fro (cB l),v,v3,v4,v5,v6]) rfl (Bp rfl) ⟨_,_,_,_,rfl⟩ ?_ ?_
 ·rintro k x env hx ⟨v3,v4,v5,v6,rfl⟩
  refine⟨by show 3<7;decide,?_⟩
  rw[B9]at hx
  cases qq:l[k]? with
  | none=>rw[qq]at hx;cases hx
  | some n=>
   rw[qq]at hx
   cases hx
   have hs:n.natAbs<10 ^ 60:=hall n (G7 qq)
   refine eN (dM (aG rfl rfl) rfl (Ci hs)) (by exact Nat.le_of_ble_eq_true rfl) ?_
   refine eN (dM (aG rfl rfl) rfl (yK hs)) (by exact Nat.le_of_ble_eq_true rfl) ?_
   refine Bu (b:=false) ((wH (dY (b:=true) (bM (wU rfl)))).trans (bM (aL rfl rfl ((wQ _ _).trans ?_)))) rfl (sW ?_)
   ·simp
   refine eN (dM (aG rfl rfl) rfl (Cg hs)) (by exact Nat.le_of_ble_eq_true rfl) ?_
   refine Mq (b:=false) ((wH (dY (b:=true) (bM (wN rfl rfl)))).trans ((wH (bM (b:=false) (wN rfl rfl))).trans (bM (aL rfl rfl ((wL _ _).trans ?_))))) rfl (Qq ⟨_,rfl,_,_,_,_,rfl⟩)
   simp
 ·rintro env' ⟨v3,v4,v5,v6,rfl⟩
  exact Bv rfl ⟨_,rfl,rfl⟩
end Rs

def PySem.W.Fast.tw17786593950454711315:Unit:=()
def PySem.W.Fast.tw9009481682719610301:Unit:=()
def PySem.W.Fast.tw15286085978435503982:Unit:=()
def PySem.W.Fast.tw16162185414921100401:Unit:=()
def PySem.W.Fast.tw185776199159549070:Unit:=()
def PySem.W.Fast.tw7105152552881295043:Unit:=()
def PySem.W.Fast.tw3522000566242172722:Unit:=()
def PySem.W.Fast.tw5849062690609993953:Unit:=()
namespace Rs
open PySem L2
theorem Gm{K:aA}{f:Addr}{oc:Value}{od:Option Addr}{fd:FuncData}{sl:Array (Option Value)}(l:K.lookup f=some ⟨oc,od,.func fd,sl⟩):E2 K (.ref f)=true:=by
 unfold E2
 dsimp only
 rw[l]
theorem Uc{K:aA}{h:Heap}{mg:Str→Option Value}{x:Str}{st:Stmt}{f:Addr}{oc:Value}{od an:Option Addr}{osl:Array (Option Value)}{kV doc pm cdv ct:Value}(X:K.In h)(G:h.Ns mainGlobals mg)(a:K2 K mainGlobals x=some (some (.ref f)))(l:K.lookup f=some ⟨oc,od,.func (C9 x x (bJ st) (aW st) (aC st) .none kV doc pm an cdv ct),osl⟩)(c:F2 K cdv x=true):Raw K mg x st:=Jy X G a l c (Gm l)
theorem walk{l:O3}{q:Program}{loose:List Str}{XP:(Str→Option Value)→Heap→Prop}{YP:World→Heap→Prop}{d:DefRec}{K:Params→aA}(hn:l.most=some 63)(hdf:d.params.defaults=[])(hdn:d.name = "law")
  (hY:∀(w:World)(h:Heap),YP w h→(K w.params).In h)
  (F:∀(w:World)(mg:Str→Option Value)(h:Heap),(K w.params).In h→h.Ns mainGlobals mg→Raw (K w.params) mg "_law_text" mG∧Raw (K w.params) mg "write_number" dZ∧Raw (K w.params) mg "is_number" fQ∧Raw (K w.params) mg "read_number" fK∧Raw (K w.params) mg "_law_draw" mH∧Raw (K w.params) mg "_law_number" gK∧Raw (K w.params) mg "law" Ms∧mg "abs" = none∧mg "str" = none∧mg "len" = none∧mg "all" = none∧mg "isinstance" = none∧mg "int" = none∧mg "min" = none∧mg "range" = none∧mg "bool" = none∧jP mg "MINUS" "-" ∧ wC mg "MOST_FIGURES" (60)∧jP mg "FIGURES" "0123456789" ∧ jP mg "ZERO" "0") :
  O9 q loose XP YP l.row.toRowW d [] (λf vs=>O2 f vs):=by
 refine L2.Ds (n:=63) (k:=3) (x := "script") (CX:=λ_=>yP) (sp:=λw=>Ti (K w.params)) hn (by decide) hdf ⟨rfl,by decide,by decide⟩ hY ?_ (λ_ _ a ns hl _ hS=>⟨a,ns,rfl,hS,hl,λ_=>rfl⟩) λ_ _ _ _ _ z=>z
 intro w mg fa h KX G hmg
 obtain⟨Ck,qX,yM,tK,Cm,vA,Ud,Mu,qQ,mO,Mv,aY,yJ,Mx,uY,By,uW,eE,mQ,wO⟩:=F w mg h KX G
 obtain⟨f,fd,FL,m⟩:=Ud.ex
 rw[hdn]at hmg
 have e:=hmg.symm.trans m
 cases e
 refine⟨fd,uO FL (λ_ _ _ _ _ _ u=>rfl),λbase _ _=>?_⟩
 have mV:=uV (P:=l.prog) (w:=w) (mg:=mg) (base:=base) Ck Mu
 have eG:=mK (P:=l.prog) (w:=w) (mg:=mg) (base:=base) qX qQ
 have jE:=sZ (P:=l.prog) (w:=w) (mg:=mg) (base:=base) yM mO Mv uW eE mQ wO
 have fM:=nJ (P:=l.prog) (w:=w) (mg:=mg) (base:=base) tK jE aY qQ yJ
 have mR:=uX (P:=l.prog) (w:=w) (mg:=mg) (base:=base) Cm mO
 have gM:=qT (P:=l.prog) (w:=w) (mg:=mg) (base:=base) vA mR
 exact Mw FL gM mV eG fM mO Mx uY aY qQ By yJ Cj
end Rs
open PySem PySem.W PyProof.Rows
set_option maxRecDepth 100000 in
set_option maxHeartbeats 0 in
theorem PySem.Challenge.cw_ripestone_k52_numbers_holds : PySem.Challenge.rw_ripestone_k52_numbers.Holds := by
 w_on;o_law;k_head;(case hw=>w_witness2)
 k_fill
 refine Rs.walk (l:=PySem.Challenge.rw_ripestone_k52_numbers) rfl rfl rfl (λw h Y=>PySem.W.kIn_of Y) ?F
 case F=>
  intro w mg h KX G
  refine⟨?_,?_,?_,?_,?_,?_,?_,D1 KX G ?_,D1 KX G ?_,D1 KX G ?_,D1 KX G ?_,D1 KX G ?_,D1 KX G ?_,D1 KX G ?_,D1 KX G ?_,D1 KX G ?_,?_,?_,?_,?_⟩
  iterate 7
   ·refine' Rs.Uc KX G ?a ?l ?c
    (case a=>k_is);(case l=>k_is);(case c=>k_is)
  iterate 9
   ·k_is
  ·refine' L2.lZ KX G ?a
   (case a=>k_is)
  ·refine' L2.Av KX G ?a
   (case a=>k_is)
  ·refine' L2.lZ KX G ?a
   (case a=>k_is)
  ·refine' L2.lZ KX G ?a
   (case a=>k_is)
#print axioms PySem.Challenge.cw_ripestone_k52_numbers_holds
