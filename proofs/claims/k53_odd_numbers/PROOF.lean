import PyProof.Rows.All
import Wide.All
import OpenK.AllK
import Wide.FinOn
import Lean
import PyProof.EqAt
import PyProof.EqKinds
import PyProof.TupleCall
import PySem.Challenge.RW_ripestone_k53_odd_numbers
open Array renaming length_toList→J7,toList→T8
open Bool renaming false_ne_true→B8,and_eq_true→C1,eq_iff_iff→F6,not_eq_true'→J1,not_eq_false'→K9,and_eq_false_iff→M5,true_and→N1,false_eq_true→R4,eq_false_iff→R6,or_eq_true→T1,and_false→T2
open Int renaming emod_nonneg→F7,emod_lt_of_pos→G8,mul_nonneg→Q2,mul_le_mul→Q3
open List renaming getElem?_eq_getElem→B3,size_toArray→B5,getElem?_eq_some_iff→B6,mem_append_right→B7,mem_cons_of_mem→B9,length_append→C2,mem_cons_self→C4,getD_eq_getElem?_getD→C5,getElem?_map→C8,length_map→D1,length_singleton→D2,replicate→D3,map_cons→D8,mem_append_left→F2,length_take→F8,mem_singleton→F9,mem_cons→G0,filterMap_cons→G2,range→G5,length_cons→G9,all_eq_true→I0,mem_range→J5,map_nil→J6,getElem?_set_self→J9,getElem?_set_ne→K1,mem_of_getElem?→K2,length_drop→K3,nodup_cons→K5,drop_eq_getElem_cons→K6,cons_append→M3,getElem?_append_right→N0,getElem?_set→N7,length_range→N8,getElem?_append_left→N9,lookup_cons→O3,getElem?_replicate→O7,mem_append→P0,append_nil→P2,of_mem_zip→P4,take_of_length_le→P6,length_replicate→P9,any_cons→Q5,replicate_succ→Q7,mem_filterMap→R0,ext_getElem→S1,drop_length→S2,not_mem_nil→S3,take_length→S4,mem_filter→S6,length_nil→S7,map_append→T0,filterMap→T3,drop_zero→T4
open Nat renaming lt_of_lt_of_le→B4,le_refl→C0,ne_of_lt→C3,le_trans→F4,lt_irrefl→G4,le_of_ble_eq_true→G6,zero_le→L8,digitChar→N2,lt_succ_of_lt→N6,ne_of_gt→O2,zero_add→O5,toDigits→O6,toDigits_of_lt_base→O8,le_of_lt→Q9,le_succ→R7,lt_succ_self→R9
open Option renaming bind_some→F3,isSome_iff_exists→K7,getD_some→S0,none→U0
open Option.some renaming inj→D6
open Or renaming inr→C7,inl→C9
open PyProof.Rows renaming boot_isinstance→J0,boot_str→M4,callWith_type1→M9,boot_int→Q1
open PySem renaming mem_of_lookup→G3,boot_len→G7,intText?→M8,call→S8,Within→T7
open PySem.F renaming excBase_ValueError→K4,plainAttrs_str→P7
open PySem.NumText renaming digitsVal→J8
open PySem.Str renaming ofString→K8
open PySem.W renaming exmOne→B0,kia_one→C6,fnOf→D4,mg_of→D5,nsIn→D7,excIn→D9,findIn→F0,mg_none_of→F1,Looks→F5,keepIn→G1,codeIn→K0,kitOne→L5,kitCls→L6,specialIn→L7,mroIn→L9,clsIn→M0,exm_one→M6,looks_findIn→M7,methodObj→N3,kitx_list→N4,kitx_dict→N5,instObj→O9,takesIn→P1,cellsFrom_some→P5,lookIn→P8,kitAny→Q0,hideAll_none→Q4,hideAll_get→Q6,of_hideAll→Q8,kitx_tuple→R1,callWith_K→R3,plainGet→R8,hideAll→S5,OpenLaw→S9,WalkO→T5,subIn→T6,isFn→T9
open PySem.W.KF renaming slot_gs→R5
open PySem.W.Looks renaming ld→O4
open Sum renaming inl→O0,inr→O1
abbrev aA:=PySem.W.Frag
theorem aQ{α:Type u_1}{b:α}{β:Type u_2}{x:Option β}{f:β→Option α}(h:x.bind f=some b):∃a,x=some a∧f a=some b:=Option.bind_eq_some_iff.mp h
theorem fP{α:Type u_1}{b:α}{β:Type u_2}{x:Option β}{f:β→α}(h:x.map f=some b):∃a,x=some a∧f a=b:=Option.map_eq_some_iff.mp h

set_option Elab.async false
set_option linter.all false
set_option maxRecDepth 100000
namespace L2
open PySem PySem.Spec PyProof.Rows
abbrev Key:=Sum Int Str
def tE:Key→Value→Bool
 | .inl k,v=>Value.isInt k v
 | .inr x,v=>Value.isStrOf x v
def HR(w:World):Key→Int
 | .inl k=>hashInt k
 | .inr x=>hashStr w x
theorem bI:∀{k:Key} {v:Value},tE k v=true→(∃i t,k=O0 i∧v=Value.int i t)∨(∃x t,k=O1 x∧v=Value.str x t)
 | .inl i,v,h=>by
  obtain⟨t,e⟩:=Value.isInt_shape (k:=i) (v:=v) h
  exact .inl ⟨i,t,rfl,e⟩
 | .inr x,v,h=>by
  obtain⟨t,e⟩:=Value.isStrOf_shape (x:=x) (v:=v) h
  exact .inr ⟨x,t,rfl,e⟩
theorem Cm(i:Int)(t:Tok):tE (.inl i) (.int i t)=true:=by simp[tE,Value.isInt]
theorem Cp(x:Str)(t:Tok):tE (.inr x) (.str x t)=true:=by simp[tE,Value.isStrOf]
theorem Sh(a b:Int):decide ((O0 a:Key)=O0 b)=(a==b):=by
 by_cases e:a=b
 ·subst e;simp
 ·have h:¬(O0 a:Key)=O0 b:=λq=>e (Sum.inl.inj q)
  rw[decide_eq_false h]
  exact(beq_eq_false_iff_ne.mpr e).symm
theorem Sq(a b:Str):decide ((O1 a:Key)=O1 b)=decide (a=b):=by
 by_cases e:a=b
 ·subst e;simp
 ·have h:¬(O1 a:Key)=O1 b:=λq=>e (Sum.inr.inj q)
  rw[decide_eq_false h,decide_eq_false e]
theorem Ss(a:Int)(b:Str):decide ((O0 a:Key)=O1 b)=false:=decide_eq_false (λq=>nomatch q)
theorem Su(a:Str)(b:Int):decide ((O1 a:Key)=O0 b)=false:=decide_eq_false (λq=>nomatch q)
def eE(prog:Program)(w:World):PySem.KeyKind prog w Key where
  is:=tE
  hash:=HR w
  inj:=λv a b ha hb=>by
    rcases bI ha with ⟨i,t,rfl,rfl⟩ | ⟨x,t,rfl,rfl⟩
    · rcases bI hb with ⟨j,u,rfl,e⟩ | ⟨y,u,rfl,e⟩
      · injection e with e1 _;rw[e1]
      · exact nomatch e
    · rcases bI hb with ⟨j,u,rfl,e⟩ | ⟨y,u,rfl,e⟩
      · exact nomatch e
      · injection e with e1 _;rw[e1]
  byValue:=λk v h=>by
    rcases bI h with ⟨i,t,rfl,rfl⟩ | ⟨x,t,rfl,rfl⟩<;>rfl
  pyHash:=λhv h=>by
    rcases bI hv with ⟨i,t,rfl,rfl⟩ | ⟨x,t,rfl,rfl⟩
    · exact wpAny_pyHash_int h
    · exact wpAny_pyHash_str h
  eqBool:=λhu hv h=>by
    rcases bI hu with ⟨i,t,rfl,rfl⟩ | ⟨x,t,rfl,rfl⟩
    · rcases bI hv with ⟨j,u,rfl,rfl⟩ | ⟨y,u,rfl,rfl⟩
      · rw[Sh]at h;exact wpAny_eqBool_int h
      · rw[Ss]at h;exact SeqAt.EqAt.int_str i t y u _ _ _ _ h
    · rcases bI hv with ⟨j,u,rfl,rfl⟩ | ⟨y,u,rfl,rfl⟩
      · rw[Su]at h;exact SeqAt.EqAt.str_int x t j u _ _ _ _ h
      · rw[Sq]at h;exact wpAny_eqBool_str h
  «strs»:=λk x t v h=>by
    rcases bI h with ⟨i,u,rfl,e⟩ | ⟨y,u,rfl,e⟩
    · exact nomatch e
    · injection e with e1 _
      subst e1
      cases v<;>rfl
theorem wO(prog:Program)(w:World)(i:Int)(t:Tok):(eE prog w).is (.inl i) (.int i t)=true:=Cm i t
theorem wQ(prog:Program)(w:World)(x:Str)(t:Tok):(eE prog w).is (.inr x) (.str x t)=true:=Cp x t
end L2
namespace L2
open PySem PySem.Spec PyProof.Rows
inductive V where
  | non | bl (b:Bool) | int (i:Int) | str (x:Str) | byt (b:Array UInt8) | flt (b:UInt64) | ref (a:Addr) | ty (n:String)
  deriving DecidableEq
def RelV:V→Value→Prop
 | .non,u=>u=Value.none
 | .bl b,u=>u=Value.bool b
 | .int i,u=>∃t,u=Value.int i t
 | .str x,u=>∃t,u=Value.str x t
 | .byt b,u=>∃t,u=Value.bytes b t
 | .flt b,u=>∃t,u=Value.float b t
 | .ref a,u=>u=Value.ref a
 | .ty n,u=>u=Value.type n
abbrev Vals:List V→List Value→Prop:=Paired RelV
theorem Vals.length{xs:List V}{us:List Value}(r:Vals xs us):xs.length=us.length:=Paired.length r
theorem Vals.get:∀{xs:List V} {us:List Value} {i:Nat} {x:V},Vals xs us→xs[i]?=some x→∃u,us[i]?=some u∧RelV x u
 | _,_,_,_,.nil,e=>by simp at e
 | _,_,0,_,.cons r _,e=>by simp at e;subst e;exact⟨_,rfl,r⟩
 | _,_,i+1,x,.cons _ t,e=>by
  obtain⟨u,h1,h2⟩:=Vals.get (i:=i) (x:=x) t (by simpa using e)
  exact⟨u,by simpa using h1,h2⟩
theorem Vals.append:∀{xs ys:List V} {us ws:List Value},Vals xs us→Vals ys ws→Vals (xs++ys) (us++ws)
 | _,_,_,_,.nil,s=>s
 | _,_,_,_,.cons r t,s=>.cons r (Vals.append t s)
def Sv:Option V→Option Value→Prop
 | some v,some u=>RelV v u
 | none,none=>True
 | _,_=>False
def KV{κ:Type}:List (κ×V)→List (κ×Value)→Prop:=Paired λ(p:κ×V) (q:κ×Value)=>p.1=q.1∧RelV p.2 q.2
def kV:Key→V
 | .inl i=>.int i
 | .inr x=>.str x
inductive HO where
  | lst (xs:List V)
  | tup (xs:List V)
  | dK (kvs:List (Key×V)) | dT (kvs:List (List Key×V))
  | set (S:Int→Bool) (n:Nat)
  | ins (C dx:Addr) (fs:List (Str×V))
  | own (x:Addr)
  | xd (fs:List (Str×V))
  | met (f x:Addr)
  | rng (lo hi:Int)
  | nR (o:Obj) (u:HO)
  | tbl (ps:Array Value)
  | ext (φ:Heap→Prop)
abbrev Hp:=Addr→Option HO
def upd(H:Hp)(a:Addr)(o:HO):Hp:=λb=>if b=a then some o else H b
theorem bB{H:Hp}{a:Addr}{o:HO}:upd H a o a=some o:=by unfold upd;rw[if_pos rfl]
theorem aZ{H:Hp}{a b:Addr}{o:HO}(h:b≠a):upd H a o b=H b:=by unfold upd;rw[if_neg h]
theorem Ky{H:Hp}{a:Addr}{o u:HO}:upd (upd H a o) a u=upd H a u:=by
 funext b;unfold upd;split<;>rfl
theorem cI{H:Hp}{a b:Addr}{o:HO}(h:H a=some o)(h':H b=none):a≠b:=by
 intro e;subst e;rw[h]at h';cases h'
section
variable(P:Program)(w:World)
def cG(H:Hp)(h:Heap)(a:Addr):HO→Prop
 | .lst xs=>xs.length≤sizeLine∧∃(its:List Value)(n:Nat),Vals xs its∧h.get? a=some {cls:=.type "list", data:=.seq its.toArray n}
 | .tup xs=>xs.length≤sizeLine∧∃its:List Value,Vals xs its∧IsTup h a its.toArray
 | .dK kvs=>kvs.length≤sizeLine∧(a==sysModules)=false∧∃vs,KV kvs vs∧h.DictOf (eE P w) a vs
 | .dT kvs=>kvs.length≤sizeLine∧(a==sysModules)=false∧∃xs:List (List Key×Addr×Value),
   Paired (λ(p:List Key×V) (q:List Key×Addr×Value)=>p.1=q.1∧H q.2.1=some (.tup (p.1.map kV))∧RelV p.2 q.2.2) kvs xs ∧
   ∃o es ep,h.get? a=some o∧o.ExactDict∧o.data=.dict es ep∧es.toList=xs.map (entryOfKey (tupleKind (eE P w)))∧(xs.map (·.1)).Nodup
 | .set S n=>h.SetOf (intKind P w) a S n
 | .ins C dx fs=>H dx=some (.own a)∧fs.length≤1000∧dx≠a∧h.get? a=some (O9 C dx) ∧
   ∃mA,h.Ns1 dx mA∧(∀f,Sv (fs.lookup f) (mA f))∧T7 mA (fs.map (·.1))
 | .own _=>∃o,h.get? a=some o
 | .xd fs=>∃mA,h.Ns1 a mA∧∀f,Sv (fs.lookup f) (mA f)
 | .rng lo hi=>∃t u v,h.get? a=some {cls:=.type "range", data:=.fields #[.int lo t,.int hi u,.int 1 v]}
 | .nR o u=>h.get? a=some o∧cG H h a u
 | .tbl ps=>h.get? a=some {cls:=.none,data:=.fields ps}
 | .met f x=>h.get? a=some (N3 (.ref f) (.ref x))
 | .ext φ=>φ h∧(∃o,h.get? a=some o)∧∀h1 h2:Heap,φ h1→(∀o,h1.get? a=some o→h2.get? a=some o)→φ h2
def jY(H:Hp)(h:Heap):Prop:=∀a o,H a=some o→cG P w H h a o
end
section
variable{P:Program}{w:World}{H H':Hp}{h h':Heap}{a:Addr}{o:HO}
theorem cG.lt(x:cG P w H h a o):a<h.objs.size:=by
 cases o with
 | lst xs=>obtain⟨_,_,_,_,e⟩:=x;exact Heap.lt_size e
 | tup xs=>obtain⟨_,_,_,p⟩:=x;exact p.lt
 | dK kvs=>obtain⟨_,_,_,_,o,_,_,e,_⟩:=x;exact Heap.lt_size e
 | dT kvs=>obtain⟨_,_,_,_,o,_,_,e,_⟩:=x;exact Heap.lt_size e
 | set S n=>obtain⟨o,_,_,_,e,_⟩:=x;exact Heap.lt_size e
 | ins C dx fs=>obtain⟨_,_,_,e,_⟩:=x;exact Heap.lt_size e
 | own y=>obtain⟨_,e⟩:=x;exact Heap.lt_size e
 | xd fs=>obtain⟨_,⟨_,_,_,e,_⟩,_⟩:=x;exact Heap.lt_size e
 | rng lo hi=>obtain⟨_,_,_,e⟩:=x;exact Heap.lt_size e
 | nR ob u=>obtain⟨e,_⟩:=x;exact Heap.lt_size e
 | tbl ps=>exact Heap.lt_size (show h.get? a=some _ from x)
 | met f y=>exact Heap.lt_size (show h.get? a=some _ from x)
 | ext φ=>obtain⟨_,⟨_,e⟩,_⟩:=x;exact Heap.lt_size e
theorem Paired.Yc{α β:Type}{F G:α→β→Prop}:∀{l₁:List α} {l₂:List β},Paired F l₁ l₂→(∀a b,F a b→G a b)→Paired G l₁ l₂
 | _,_,.nil,_=>.nil
 | _,_,.cons r t,f=>.cons (f _ _ r) (Paired.Yc t f)
theorem cG.stay(x:cG P w H h a o)(k:∀b u,(b=a∨H b=some (.own a))→h.get? b=some u→h'.get? b=some u)
  (ho:∀b,H b=some (.own a)→H' b=some (.own a)) (ht:∀b xs,H b=some (.tup xs)→H' b=some (.tup xs)):cG P w H' h' a o:=by
 induction o with
 | lst xs=>obtain⟨z,its,n,r,e⟩:=x;exact⟨z,its,n,r,k _ _ (.inl rfl) e⟩
 | tup xs=>obtain⟨z,its,r,ob,e,c⟩:=x;exact⟨z,its,r,ob,k _ _ (.inl rfl) e,c⟩
 | dK kvs=>obtain⟨z,y,vs,r,ob,es,ep,e,c⟩:=x;exact⟨z,y,vs,r,ob,es,ep,k _ _ (.inl rfl) e,c⟩
 | dT kvs=>
  obtain⟨z,y,xs,r,ob,es,ep,e,c⟩:=x
  exact⟨z,y,xs,Paired.Yc r λp q z=>⟨z.1,ht _ _ z.2.1,z.2.2⟩,ob,es,ep,k _ _ (.inl rfl) e,c⟩
 | set S n=>obtain⟨ob,es,ep,t,e,c⟩:=x;exact⟨ob,es,ep,t,k _ _ (.inl rfl) e,c⟩
 | ins C dx fs=>
  obtain⟨d,z,ne,e,mA,⟨od,es,ep,e2,c⟩,r⟩:=x
  exact⟨ho _ d,z,ne,k _ _ (.inl rfl) e,mA,⟨od,es,ep,k _ _ (.inr d) e2,c⟩,r⟩
 | own y=>obtain⟨ob,e⟩:=x;exact⟨ob,k _ _ (.inl rfl) e⟩
 | xd fs=>obtain⟨mA,⟨od,es,ep,e,c⟩,r⟩:=x;exact⟨mA,⟨od,es,ep,k _ _ (.inl rfl) e,c⟩,r⟩
 | rng lo hi=>obtain⟨t,u,v,e⟩:=x;exact⟨t,u,v,k _ _ (.inl rfl) e⟩
 | nR ob u ih=>obtain⟨e,q⟩:=x;exact⟨k _ _ (.inl rfl) e,ih q⟩
 | tbl ps=>
  have e:h.get? a=some {cls:=.none,data:=.fields ps}:=x
  show h'.get? a=some {cls:=.none,data:=.fields ps}
  exact k a _ (.inl rfl) e
 | met f y=>
  have e:h.get? a=some (N3 (.ref f) (.ref y)):=x
  show h'.get? a=some (N3 (.ref f) (.ref y))
  exact k a _ (.inl rfl) e
 | ext φ=>obtain⟨p,⟨o,e⟩,st⟩:=x;exact⟨st _ _ p λo q=>k _ _ (.inl rfl) q,⟨o,k _ _ (.inl rfl) e⟩,st⟩
theorem jY.lt(x:jY P w H h)(e:H a=some o):a<h.objs.size:=(x a o e).lt
theorem jY.fresh(x:jY P w H h)(e:h.objs.size≤a):H a=none:=by
 cases q:H a with
 | none=>rfl
 | some u=>exact absurd (B4 (x.lt q) e) (G4 _)
theorem jY.kept(x:jY P w H h)(k:∀b u,h.get? b=some u→h'.get? b=some u):jY P w H h':=λa o e=>
 (x a o e).stay (λb u _ q=>k b u q) (λ_ q=>q) λ_ _ q=>q
theorem jY.laid(x:jY P w H h)(k:∀b u,h.get? b=some u→h'.get? b=some u)(hp:h.objs.size≤a)(new:cG P w (upd H a o) h' a o):jY P w (upd H a o) h':=λb u e=>by
 have hn:=x.fresh hp
 by_cases hb:b=a
 ·subst hb;rw[bB]at e;cases e;exact new
 ·rw[aZ hb]at e
  exact(x b u e).stay (λc v _ q=>k c v q) (λc q=>by rw[aZ (cI q hn)];exact q) λc xs q=>by rw[aZ (cI q hn)];exact q
end
def Rd(H:Hp)(a:Addr)(u:HO):Prop:=H a=some u∨∃o,H a=some (.nR o u)
theorem Rd.ok{P:Program}{w:World}{H:Hp}{h:Heap}{a:Addr}{u:HO}(r:Rd H a u)(x:jY P w H h):cG P w H h a u:=by
 rcases r with r | ⟨o,r⟩
 ·exact x a u r
 ·obtain⟨_,q⟩:=x a _ r
  exact q
def Yd:Option HO→Prop
 | some (.lst _)=>True
 | some (.dK _)=>True
 | some (.dT _)=>True
 | some (.set _ _)=>True
 | some (.ins _ _ _)=>True
 | some (.ext _)=>True
 | _=>False
section
variable{P:Program}{w:World}{H:Hp}{h h':Heap}{x e:Addr}{o':HO}
theorem jY.write(ok:jY P w H h)(mu:Yd (H x))(he:e=x∨H e=some (.own x))(k:∀b u,b≠e→h.get? b=some u→h'.get? b=some u)(heo:∃u,h'.get? e=some u)
  (new:cG P w (upd H x o') h' x o'):jY P w (upd H x o') h':=λb u q=>by
 have Ye:∀c y,H c=some (.own y)→c≠x:=λc y r z=>by subst z;rw[r]at mu;exact mu
 have HS:∀c xs,H c=some (.tup xs)→c≠x:=λc xs r z=>by subst z;rw[r]at mu;exact mu
 by_cases hb:b=x
 ·subst hb;rw[bB]at q;cases q;exact new
 ·rw[aZ hb]at q
  by_cases hbe:b=e
  ·have q':H b=some (.own x):=by
    rcases he with z | z
    ·exact absurd (hbe.trans z) hb
    ·rw[hbe];exact z
   rw[q]at q';cases q'
   obtain⟨v,hv⟩:=heo
   exact⟨v,by rw[hbe];exact hv⟩
  ·refine(ok b u q).stay (λc v hc r=>k c v ?_ r) (λc r=>by rw[aZ (Ye c b r)];exact r) λc xs r=>by rw[aZ (HS c xs r)];exact r
   rcases hc with rfl | hc
   ·exact hbe
   ·rintro rfl
    rcases he with z | z
    ·exact Ye c b hc z
    ·rw[hc]at z;cases z;exact hb rfl
end
structure Un(fs ex:List Addr)(H H':Hp)(h h':Heap):Prop where
 keep:∀b o,h.get? b=some o→H b=none→b∉fs→b∉ex→h'.get? b=some o
 slot:∀b o,h.get? b=some o→H b=none→b∈fs→b∉ex→∃sl,h'.get? b=some {o with slots:=sl}
 free:∀b o,h.get? b=some o→H b=none→b∉ex→H' b=none
 there:∀b o,h.get? b=some o→b∉ex→∃o',h'.get? b=some o'
 tups:∀b xs,H b=some (.tup xs)→H' b=some (.tup xs)
 pC:∀b o u,H b=some (.nR o u)→H' b=some (.nR o u)
 qC:∀b ps,H b=some (.tbl ps)→∃more,H' b=some (.tbl (ps++more))
section
variable{fs fs' ex ex':List Addr}{H H1 H2:Hp}{h h1 h2 h':Heap}{a x e:Addr}{o:HO}
theorem Un.any(u:Un fs ex H H1 h h1){b:Addr}{ob:Obj}(q:h.get? b=some ob)(n:H b=none)(hx:b∉ex):∃sl,h1.get? b=some {ob with slots:=sl}:=by
 by_cases hb:b∈fs
 ·exact u.slot b ob q n hb hx
 ·exact⟨ob.slots,u.keep b ob q n hb hx⟩
theorem Un.kept(k:∀b u,h.get? b=some u→h'.get? b=some u):Un fs ex H H h h':=
 ⟨λb ob q _ _ _=>k b ob q,λb ob q _ _ _=>⟨ob.slots,k b ob q⟩,λ_ _ _ n _=>n,λb ob q _=>⟨ob,k b ob q⟩,λ_ _ q=>q,λ_ _ _ q=>q,λ_ ps q=>⟨#[],by rw[q];simp⟩⟩
theorem Un.refl:Un fs ex H H h h:=Un.kept λ_ _ q=>q
theorem Un.laid(k:∀b u,h.get? b=some u→h'.get? b=some u)(hp:h.objs.size≤a)(hn:H a=none):Un fs ex H (upd H a o) h h' where
 keep:=λb u q _ _ _=>k b u q
 slot:=λb u q _ _ _=>⟨u.slots,k b u q⟩
 free:=λb u q n _=>by rw[aZ (C3 (B4 (Heap.lt_size q) hp))];exact n
 there:=λb u q _=>⟨u,k b u q⟩
 tups:=λb xs q=>by rw[aZ (cI q hn)];exact q
 pC:=λb u xs q=>by rw[aZ (cI q hn)];exact q
 qC:=λb ps q=>⟨#[],by rw[aZ (cI q hn),q];simp⟩
theorem Un.write(mu:Yd (H x))(he:e=x∨H e=some (.own x))(k:∀b u,b≠e→h.get? b=some u→h'.get? b=some u)(heo:∃u,h'.get? e=some u):Un fs ex H (upd H x o) h h':=by
 have hx:∀b,H b=none→b≠x:=λb n z=>by subst z;rw[n]at mu;exact mu
 have hb:∀b,H b=none→b≠e:=λb n z=>by
  subst z
  rcases he with r | r
  ·exact hx b n r
  ·rw[n]at r;cases r
 have hm:∀b u,H b=some u→¬Yd (some u)→b≠x:=λb u q nm z=>by subst z;rw[q]at mu;exact nm mu
 refine⟨λb u q n _ _=>k b u (hb b n) q,λb u q n _ _=>⟨u.slots,k b u (hb b n) q⟩,λb u q n _=>by rw[aZ (hx b n)];exact n,λb u q _=>?_,
  λb xs q=>by rw[aZ (hm b _ q λz=>z)];exact q,λb u xs q=>by rw[aZ (hm b _ q λz=>z)];exact q,λb ps q=>⟨#[],by rw[aZ (hm b _ q λz=>z),q];simp⟩⟩
 by_cases hbe:b=e
 ·subst hbe;exact heo
 ·exact⟨u,k b u hbe q⟩
end
def FZ(h:Heap)(H:Hp):List Addr:=(G5 h.objs.size).filter λa=>(H a).isSome
def uJ(h:Heap)(H:Hp):Heap:=S5 h (FZ h H)
theorem Cq(h:Heap)(H:Hp):(uJ h H).objs.size=h.objs.size:=PySem.W.hideAll_size _ _
theorem Fe{h:Heap}{H:Hp}{b:Addr}{o:Obj}(e:h.get? b=some o)(n:H b=none):(uJ h H).get? b=some o:=
 Q6 _ e λhm=>by
  have q:(H b).isSome=true:=(S6.mp hm).2
  rw[n]at q;simp at q
theorem Kz{h:Heap}{H:Hp}{b:Addr}{o:Obj}(e:(uJ h H).get? b=some o):h.get? b=some o∧H b=none:=by
 have e':h.get? b=some o:=Q8 (FZ h H) e
 refine⟨e',?_⟩
 cases q:H b with
 | none=>rfl
 | some x=>
  have hm:b∈FZ h H:=S6.mpr ⟨J5.mpr (Heap.lt_size e'),by simp[q]⟩
  have z:(uJ h H).get? b=none:=Q4 (FZ h H) hm
  rw[z]at e;cases e
def La(g h:Heap)(L:Addr):List (Addr×Obj):=(G5 h.objs.size).filterMap λa=>if a=L∨(g.get? a).isSome=true then none else(h.get? a).map λo=>(a,o)
def rest(g h:Heap)(L d:Addr):List (Addr×Obj):=(La g h L).filter λp=>decide (p.1≠d)
end L2
namespace L2
open PySem PySem.Spec PyProof.Rows
structure Mod(K:aA)(mg:Str→Option Value)(base:Heap):Prop where
 Yg:K.In base
 glob:base.Ns mainGlobals mg
 blt:∃mb,base.Ns builtinsNs mb∧∀x:Str,x ≠ "__name__" → mb x=bootBuiltins x
 nolimit:base.NoLimit
structure Cx where
 prog:Program
 w:World
 K:aA
 mg:Str→Option Value
 base:Heap
 A:Around
 N:List Str
 s₀:Shared
 H₀:Hp
 env:Env
 outer:List Env
 stack:List Env
 ex:List Addr
 fn:Str→Bool
 calm:Bool
 pn:List (Addr×Obj)
 xe:Value→Shared→Prop
def frs(l:List Env):List Addr:=l.filterMap (·.frame)
abbrev Cx.fs(X:Cx):List Addr:=frs X.outer
def GC(sc:Scope)(x:Str):Prop:=sc.names.lookup x=some .local∨sc.names.lookup x=some .cell∨sc.names.lookup x=some .free
def Loc(sc:Scope)(x:Str):Prop:=sc.names.lookup x=some .local∨sc.names.lookup x=some .cell
def Look(env:Env)(h:Heap)(m:Str→Option Value)(x:Str)(u:Value):Prop:=
 (env.kindOf x=some .local∧m x=some u)∨((env.kindOf x=some .cell∨env.kindOf x=some .free)∧∃c,env.cells.lookup x=some c∧h.IsCell c (some u))
structure Cx.Ok(X:Cx):Prop where
 mod:Mod X.K X.mg X.base
 kind:X.env.scope.kind=.function
 glob:X.env.globals=mainGlobals
 blt:X.env.builtins=builtinsNs
 above:X.s₀.heap.objs.size≤X.env.locals
 inj:∀x y c,X.env.cells.lookup x=some c→X.env.cells.lookup y=some c→x=y
 has:∀x,(X.env.kindOf x=some .cell∨X.env.kindOf x=some .free)→∃c,X.env.cells.lookup x=some c
 cab:∀x c,X.fn x=true→X.env.cells.lookup x=some c→X.s₀.heap.objs.size≤c
 hd:X.calm=true→X.A.handled=none
 frames:X.A.frames=some X.stack
 Qm:X.stack=X.outer∨(X.stack=X.env::X.outer∧X.env.frame=some X.env.locals)
 Xq:∀b∈X.ex,b≠X.env.locals∧∀x c,X.env.cells.lookup x=some c→c≠b
 bs:∀b o,X.base.get? b=some o→X.s₀.heap.get? b=some o∧X.H₀ b=none
 Ez:X.base.objs.size≤X.s₀.heap.objs.size
 uK:∀b o,X.base.get? b=some o→b∉X.ex
 wR:∀b∈X.ex,b∉X.fs
 kY:X.s₀.heap.FunFrames X.base X.outer
 Kq:∀b∈X.fs,X.H₀ b=none
structure Inv(X:Cx)(pins:List (Addr×Obj))(σ:List (Option V))(H:Hp)(s:Shared):Prop where
 ok:X.Ok
 os:s.os=X.s₀.os
 bare:AllBare s.gens
 base:Un X.fs X.ex X.H₀ H X.s₀.heap s.heap
 loc:∃m,s.heap.Ns X.env.locals m∧∀(i:Nat)(x:Str)(v:V),X.N[i]?=some x→σ[i]?=some (some v)→GC X.env.scope x→∃u,RelV v u∧Look X.env s.heap m x u
 cell:∀x c,X.env.cells.lookup x=some c→∃v,s.heap.IsCell c v
 free:H X.env.locals=none
 fH:∀x c,X.env.cells.lookup x=some c→H c=none
 pin:∀p∈X.pn++pins,s.heap.get? p.1=some p.2∧H p.1=none∧p.1≠X.env.locals∧p.1∉X.fs∧∀v,p.2.data≠.cell v
 hok:jY X.prog X.w H s.heap
 len:σ.length=X.N.length
section
variable{X:Cx}{pins:List (Addr×Obj)}{σ:List (Option V)}{H H':Hp}{s:Shared}{h':Heap}
theorem Cx.Ok.HW(ok:X.Ok){b:Addr}{o:Obj}(e:X.base.get? b=some o):b∉X.fs:=λhb=>by
 have:=(ok.kY.mem hb).1
 rw[e]at this;cases this
theorem Inv.bs(I:Inv X pins σ H s):∀b o,X.base.get? b=some o→s.heap.get? b=some o∧H b=none:=λb o e=>
 ⟨I.base.keep b o (I.ok.bs b o e).1 (I.ok.bs b o e).2 (I.ok.HW e) (I.ok.uK b o e),I.base.free b o (I.ok.bs b o e).1 (I.ok.bs b o e).2 (I.ok.uK b o e)⟩
theorem Inv.bk(I:Inv X pins σ H s):∀b o,X.base.get? b=some o→s.heap.get? b=some o:=λb o e=>(I.bs b o e).1
theorem Inv.mod(I:Inv X pins σ H s):Mod X.K X.mg X.base:=I.ok.mod
theorem Inv.lZ(I:Inv X pins σ H s):X.K.In s.heap:=I.ok.mod.Yg.keeps I.bk
theorem Inv.lt(I:Inv X pins σ H s):X.env.locals<s.heap.objs.size:=let ⟨_,hn,_⟩:=I.loc;hn.lt
theorem Inv.sz(I:Inv X pins σ H s):X.s₀.heap.objs.size≤s.heap.objs.size:=F4 I.ok.above (Q9 I.lt)
theorem Inv.HX(I:Inv X pins σ H s){a:Addr}(h:s.heap.objs.size≤a):a∉X.fs:=λhb=>by
 obtain⟨_,o,ho,_⟩:=I.ok.kY.mem hb
 exact absurd (B4 (Heap.lt_size ho) (F4 I.sz h)) (G4 _)
theorem Inv.Ff(I:Inv X pins σ H s):∀x c,X.env.cells.lookup x=some c→c≠X.env.locals:=λx c e z=>by
 obtain⟨v,o,ho,hd⟩:=I.cell x c e
 obtain⟨m,⟨o',es,ep,ho',hd',_⟩,_⟩:=I.loc
 rw[z,ho']at ho;cases ho;rw[hd']at hd;cases hd
theorem Inv.kY(I:Inv X pins σ H s):s.heap.FunFrames X.base X.outer:=by
 have all:∀(l:List Env),(∀b∈frs l,b∈X.fs)→X.s₀.heap.FunFrames X.base l→s.heap.FunFrames X.base l:=by
  intro l
  induction l with
  | nil=>intro _ _;trivial
  | cons env r ih=>
   intro hs hl
   obtain⟨hk,⟨L,o,hf,hn,ho,hd⟩,hr⟩:=hl
   have hL:L∈X.fs:=hs L (by unfold frs;rw[G2,hf];exact C4)
   obtain⟨sl,e⟩:=I.base.slot L o ho (I.ok.Kq L hL) hL λz=>I.ok.wR L z hL
   exact⟨hk,⟨L,_,hf,hn,e,hd⟩,ih (λb hb=>hs b (by unfold frs;rw[G2,hf];exact B9 _ hb)) hr⟩
 exact all X.outer (λ_ hb=>hb) I.ok.kY
theorem Inv.stack(I:Inv X pins σ H s):s.heap.FunFrames X.base X.stack:=by
 rcases I.ok.Qm with e | ⟨e,hf⟩
 ·rw[e];exact I.kY
 ·rw[e]
  obtain⟨m,hn,_⟩:=I.loc
  refine .cons (by rw[I.ok.kind];decide) hf hn ?_ I.kY
  exact Heap.get?_none_of_le (F4 I.ok.Ez I.ok.above)
theorem Inv.uL(I:Inv X pins σ H s):∀b∈frs X.stack,b∈X.env.locals::X.fs:=λb hb=>by
 rcases I.ok.Qm with e | ⟨e,hf⟩
 ·rw[e]at hb;exact B9 _ hb
 ·rw[e]at hb
  unfold frs at hb
  rw[G2,hf]at hb
  exact hb
theorem Inv.uM(I:Inv X pins σ H s):∀b∈frs X.stack,H b=none:=λb hb=>by
 rcases G0.mp (I.uL b hb)with e | hb
 ·rw[e];exact I.free
 ·obtain⟨_,o,ho,_⟩:=I.ok.kY.mem hb
  exact I.base.free b o ho (I.ok.Kq b hb) λz=>I.ok.wR b z hb
theorem Inv.step{g':Array GenState}{t':Nat}{d':Drawn}{ch:List Addr}(I:Inv X pins σ H s)
  (hch:∀b∈ch,(b∈X.ex∨X.s₀.heap.objs.size≤b)∧b≠X.env.locals∧(∀x c,X.env.cells.lookup x=some c→c≠b)∧∀p∈X.pn++pins,p.1≠b)
  (keep:∀b o,b≠X.env.locals→b∉X.fs→b∉ch→s.heap.get? b=some o→H b=none→h'.get? b=some o)
  (slot:∀b o,b≠X.env.locals→b∈X.fs→b∉ch→s.heap.get? b=some o→H b=none→∃sl,h'.get? b=some {o with slots:=sl}) (free:∀b o,b∉ch→s.heap.get? b=some o→H b=none→H' b=none)
  (there:∀b o,b∉ch→s.heap.get? b=some o→∃o',h'.get? b=some o')
  (tups:∀b xs,H b=some (.tup xs)→H' b=some (.tup xs)) (pC:∀b o u,H b=some (.nR o u)→H' b=some (.nR o u)) (qC:∀b ps,H b=some (.tbl ps)→∃more,H' b=some (.tbl (ps++more)))
  (ns:∀m,s.heap.Ns X.env.locals m→h'.Ns X.env.locals m) (hok:jY X.prog X.w H' h') (hg:AllBare g') :
  Inv X pins σ H' {s with heap:=h',gens:=g',drawn:=d',toks:=t'}:=by
 have GD:∀b o,X.s₀.heap.get? b=some o→b≠X.env.locals:=λb o e=>C3 (B4 (Heap.lt_size e) I.ok.above)
 have Xr:∀b o,X.s₀.heap.get? b=some o→b∉X.ex→b∉ch:=λb o e hx hb=>by
  rcases(hch b hb).1 with z | z
  ·exact hx z
  ·exact absurd (B4 (Heap.lt_size e) z) (G4 _)
 have cellK:∀x c,X.env.cells.lookup x=some c→∀v,s.heap.IsCell c v→h'.IsCell c v:=λx c e v ⟨o,ho,hd⟩=>by
  have Yh:c∉ch:=λz=>(hch c z).2.2.1 x c e rfl
  by_cases hc:c∈X.fs
  ·obtain⟨sl,q⟩:=slot c o (I.Ff x c e) hc Yh ho (I.fH x c e)
   exact⟨_,q,hd⟩
  ·exact⟨o,keep c o (I.Ff x c e) hc Yh ho (I.fH x c e),hd⟩
 refine⟨I.ok,I.os,hg,⟨λb o e n hb hx=>?_,λb o e n hb hx=>?_,λb o e n hx=>?_,λb o e hx=>?_,λb xs e=>tups b xs (I.base.tups b xs e),λb o xs e=>pC b o xs (I.base.pC b o xs e),λb ps e=>?_⟩,?_,λx c e=>?_,?_,λx c e=>?_,λp hp=>?_,hok,I.len⟩
 ·exact keep b o (GD b o e) hb (Xr b o e hx) (I.base.keep b o e n hb hx) (I.base.free b o e n hx)
 ·obtain⟨sl,e1⟩:=I.base.slot b o e n hb hx
  obtain⟨sl',e2⟩:=slot b _ (GD b o e) hb (Xr b o e hx) e1 (I.base.free b o e n hx)
  exact⟨sl',e2⟩
 ·obtain⟨o',e1⟩:=I.base.there b o e hx
  exact free b o' (Xr b o e hx) e1 (I.base.free b o e n hx)
 ·obtain⟨o',e1⟩:=I.base.there b o e hx
  exact there b o' (Xr b o e hx) e1
 ·obtain⟨m1,e1⟩:=I.base.qC b ps e
  obtain⟨m2,e2⟩:=qC b _ e1
  exact⟨m1++m2,by rw[e2,Array.append_assoc]⟩
 ·obtain⟨m,hn,hl⟩:=I.loc
  refine⟨m,ns m hn,λi x v e1 e2 e3=>?_⟩
  obtain⟨u,r,l⟩:=hl i x v e1 e2 e3
  refine⟨u,r,?_⟩
  rcases l with l | ⟨k,c,e,z⟩
  ·exact .inl l
  ·exact .inr ⟨k,c,e,cellK x c e _ z⟩
 ·obtain⟨v,z⟩:=I.cell x c e
  exact⟨v,cellK x c e v z⟩
 ·obtain⟨m,⟨o,_,_,ho,_⟩,_⟩:=I.loc
  exact free _ o (λz=>(hch _ z).2.1 rfl) ho I.free
 ·obtain⟨v,o,ho,hd⟩:=I.cell x c e
  exact free c o (λz=>(hch c z).2.2.1 x c e rfl) ho (I.fH x c e)
 ·obtain⟨e,n,ne,nf,d⟩:=I.pin p hp
  have Yh:p.1∉ch:=λz=>(hch p.1 z).2.2.2 p hp rfl
  exact⟨keep p.1 p.2 ne nf Yh e n,free p.1 p.2 Yh e n,ne,nf,d⟩
theorem Inv.un{t':Nat}(I:Inv X pins σ H s)(u:Un X.fs [] H H' s.heap h')(hok:jY X.prog X.w H' h'):Inv X pins σ H' {s with heap:=h',toks:=t'}:=by
 obtain⟨m,⟨o,es,ep,ho,r⟩,_⟩:=id I.loc
 obtain⟨sl,hL⟩:=u.any ho I.free (by simp)
 exact I.step (g':=s.gens) (d':=s.drawn) (ch:=[]) (λ_ z=>nomatch z) (λb o _ hb _ e n=>u.keep b o e n hb (by simp)) (λb o _ hb _ e n=>u.slot b o e n hb (by simp)) (λb o _ e n=>u.free b o e n (by simp)) (λb o _ e=>u.there b o e (by simp)) u.tups u.pC u.qC (λm' hm=>by
  obtain⟨o',es',ep',ho',r'⟩:=hm
  rw[ho]at ho';cases ho'
  exact⟨_,es',ep',hL,r'⟩) hok I.bare
theorem Inv.call{g':Array GenState}{t':Nat}{d':Drawn}{ch:List Addr}(I:Inv X pins σ H s)(u:Un (frs X.stack) ch H H' s.heap h')(hok:jY X.prog X.w H' h')(hg:AllBare g')
  (hch:∀b∈ch,(b∈X.ex∨X.s₀.heap.objs.size≤b)∧b≠X.env.locals∧(∀x c,X.env.cells.lookup x=some c→c≠b)∧∀p∈X.pn++pins,p.1≠b) :
  Inv X pins σ H' {s with heap:=h',gens:=g',drawn:=d',toks:=t'}:=by
 obtain⟨m,⟨o,es,ep,ho,r⟩,_⟩:=id I.loc
 obtain⟨sl,hL⟩:=u.any ho I.free λz=>(hch _ z).2.1 rfl
 exact I.step (ch:=ch) hch (λb o hL hb hc e n=>u.keep b o e n (λz=>(G0.mp (I.uL b z)).elim hL hb) hc) (λb o _ _ hc e n=>u.any e n hc) (λb o hc e n=>u.free b o e n hc) (λb o hc e=>u.there b o e hc) u.tups u.pC u.qC (λm' hm=>by
  obtain⟨o',es',ep',ho',r'⟩:=hm
  rw[ho]at ho';cases ho'
  exact⟨_,es',ep',hL,r'⟩) hok hg
theorem Inv.turned{t':Nat}{it:Addr}(I:Inv X pins σ H s)(k:∀b o,b≠it→s.heap.get? b=some o→h'.get? b=some o)(hn:H it=none)(hL:it≠X.env.locals)
  (h1:it∈X.ex∨X.s₀.heap.objs.size≤it) (h2:∀x c,X.env.cells.lookup x=some c→c≠it) (h3:∀p∈X.pn++pins,p.1≠it):Inv X pins σ H {s with heap:=h',toks:=t'}:=by
 have NQ:∀b u,H b=some u→b≠it:=λb u e z=>by rw[z,hn]at e;cases e
 refine I.step (g':=s.gens) (d':=s.drawn) (ch:=[it]) (λb hb=>?_) (λb o _ _ hc e _=>k b o (λz=>hc (by simp[z])) e) (λb o _ _ hc e _=>⟨o.slots,k b o (λz=>hc (by simp[z])) e⟩) (λ_ _ _ _ n=>n)
  (λb o hc e=>⟨o,k b o (λz=>hc (by simp[z])) e⟩) (λ_ _ e=>e) (λ_ _ _ e=>e) (λb ps e=>⟨#[],by rw[e];simp⟩) (λm hm=>?_) (λb u e=>?_) I.bare
 ·have e:b=it:=by simpa using hb
  subst e
  exact⟨h1,hL,h2,h3⟩
 ·obtain⟨o,es,ep,ho,r⟩:=hm
  exact⟨o,es,ep,k _ o (Ne.symm hL) ho,r⟩
 ·refine(I.hok b u e).stay (λc v hc q=>k c v ?_ q) (λ_ q=>q) λ_ _ q=>q
  rcases hc with z | z
  ·rw[z];exact NQ b u e
  ·exact NQ c _ z
theorem Inv.tok(I:Inv X pins σ H s)(t:Nat):Inv X pins σ H {s with toks:=t}:=I.un (h':=s.heap) (t':=t) Un.refl I.hok
theorem Inv.kept{t':Nat}(I:Inv X pins σ H s)(k:∀b u,s.heap.get? b=some u→h'.get? b=some u):Inv X pins σ H {s with heap:=h',toks:=t'}:=I.un (Un.kept k) (I.hok.kept k)
theorem Inv.laid{a:Addr}{o:HO}{t':Nat}(I:Inv X pins σ H s)(k:∀b u,s.heap.get? b=some u→h'.get? b=some u)(hp:s.heap.objs.size≤a)(new:cG X.prog X.w (upd H a o) h' a o) :
  Inv X pins σ (upd H a o) {s with heap:=h',toks:=t'}:=I.un (Un.laid k hp (I.hok.fresh hp)) (I.hok.laid k hp new)
theorem Inv.write{x e:Addr}{o:HO}{t':Nat}(I:Inv X pins σ H s)(mu:Yd (H x))(he:e=x∨H e=some (.own x))(k:∀b u,b≠e→s.heap.get? b=some u→h'.get? b=some u)(heo:∃u,h'.get? e=some u)
  (new:cG X.prog X.w (upd H x o) h' x o):Inv X pins σ (upd H x o) {s with heap:=h',toks:=t'}:=I.un (Un.write mu he k heo) (I.hok.write mu he k heo new)
theorem Inv.weak{σ':List (Option V)}(I:Inv X pins σ H s)(hl:σ'.length=σ.length)(w:∀(i:Nat) v,σ'[i]?=some (some v)→σ[i]?=some (some v)):Inv X pins σ' H s:=
 ⟨I.ok,I.os,I.bare,I.base,let ⟨m,hn,hl'⟩:=I.loc;⟨m,hn,λi x v e1 e2 e3=>hl' i x v e1 (w i v e2) e3⟩,I.cell,I.free,I.fH,I.pin,I.hok,hl.trans I.len⟩
theorem Inv.pJ{qD:List (Addr×Obj)}(I:Inv X pins σ H s)(h:∀p∈qD,s.heap.get? p.1=some p.2∧H p.1=none∧p.1≠X.env.locals∧p.1∉X.fs∧∀v,p.2.data≠.cell v):Inv X qD σ H s:=
 ⟨I.ok,I.os,I.bare,I.base,I.loc,I.cell,I.free,I.fH,λp hp=>(P0.mp hp).elim (λz=>I.pin p (F2 _ z)) (h p),I.hok,I.len⟩
theorem qF{N:List Str}(hN:N.Nodup){i j:Nat}{x:Str}(a:N[i]?=some x)(b:N[j]?=some x):i=j:=by
 obtain⟨h1,e1⟩:=B6.mp a
 obtain⟨h2,e2⟩:=B6.mp b
 exact(List.getElem_inj hN).mp (e1.trans e2.symm)
theorem Cr{M:Model}{A:Around}{E:Value→Shared→Prop}{i:Nat}{x:Str}{v:V}{u:Value}{Q:Unit→Shared→Prop}(I:Inv X pins σ H s)(hN:X.N.Nodup)(hi:X.N[i]?=some x)(hx:Loc X.env.scope x)(r:RelV v u)
  (h:∀s',Inv X pins (σ.set i (some v)) H s'→(∃a,Heap.SameBut a s.heap s'.heap∧(a=X.env.locals∨X.env.cells.lookup x=some a))→Q () s') (hf:X.fn x=true∨X.env.scope.names.lookup x=some .local:=by first | exact .inl rfl | exact .inr rfl | assumption):wpAny M A (storeName X.env x u) Q E s:=by
 obtain⟨m,hn,hl⟩:=id I.loc
 have hcls:(X.env.scope.kind==.class||(X.env.scope.kind==.module&&X.env.locals != X.env.globals))=false:=by rw[I.ok.kind];rfl
 have GF:i<σ.length:=by rw[I.len];exact(B6.mp hi).1
 have Ff:=I.Ff
 have tracked:∀{a:Addr} {h':Heap},(∃o,s.heap.get? a=some o∧H a=none)→Heap.SameBut a s.heap h'→jY X.prog X.w H h':=λ{a h'} ha hs b ob e=>by
  obtain⟨_,_,hfree⟩:=ha
  refine(I.hok b ob e).stay (λc w' hc q=>(hs.2 c ?_).trans q) (λ_ q=>q) λ_ _ q=>q
  rintro rfl
  rcases hc with rfl | hc
  ·rw[hfree]at e;cases e
  ·rw[hfree]at hc;cases hc
 rcases hx with hk | hk
 ·refine wpAny_storeName_local hk hn (λh' hn' hs=>?_) hcls
  obtain⟨oL,_,_,hoL,_⟩:=id hn
  refine h _ ⟨I.ok,I.os,I.bare,⟨λb o e n hb hx=>?_,λb o e n hb hx=>?_,I.base.free,λb o e hx=>?_,I.base.tups,I.base.pC,I.base.qC⟩,⟨_,hn',λj y v' e1 e2 e3=>?_⟩,λy c e=>?_,I.free,I.fH,λp hp=>?_,tracked ⟨oL,hoL,I.free⟩ hs,by simpa using I.len⟩ ⟨_,hs,.inl rfl⟩
  ·exact(hs.2 b (C3 (B4 (Heap.lt_size e) I.ok.above))).trans (I.base.keep b o e n hb hx)
  ·obtain⟨sl,e1⟩:=I.base.slot b o e n hb hx
   exact⟨sl,(hs.2 b (C3 (B4 (Heap.lt_size e) I.ok.above))).trans e1⟩
  ·obtain⟨o',e1⟩:=I.base.there b o e hx
   exact⟨o',(hs.2 b (C3 (B4 (Heap.lt_size e) I.ok.above))).trans e1⟩
  ·by_cases hj:j=i
   ·subst hj
    rw[hi]at e1;cases e1
    rw[J9 GF]at e2
    cases e2
    exact⟨u,r,.inl ⟨hk,by simp⟩⟩
   ·rw[K1 (Ne.symm hj)]at e2
    obtain⟨u',r',q⟩:=hl j y v' e1 e2 e3
    refine⟨u',r',?_⟩
    rcases q with ⟨k,e⟩ | ⟨k,c,e,z⟩
    ·refine .inl ⟨k,?_⟩
     have:y≠x:=λe=>hj (qF hN e1 (e▸hi))
     simp[this,e]
    ·exact .inr ⟨k,c,e,z.sameBut hs (Ff y c e)⟩
  ·obtain⟨w',z⟩:=I.cell y c e
   exact⟨w',z.sameBut hs (Ff y c e)⟩
  ·obtain⟨e,n,ne,nf,d⟩:=I.pin p hp
   exact⟨(hs.2 p.1 ne).trans e,n,ne,nf,d⟩
 ·have hfn:X.fn x=true:=by
   rcases hf with z | z
   ·exact z
   ·rw[z]at hk;cases hk
  obtain⟨c,hc⟩:=I.ok.has x (.inl hk)
  obtain⟨w',z⟩:=I.cell x c hc
  refine wpAny_storeName_cell I.ok.kind hk hc z (λh' hc' hs=>?_)
  obtain⟨oc,hoc,HY⟩:=id z
  refine h {s with heap:=h'} ⟨I.ok,I.os,I.bare,⟨λb o e n hb hx=>?_,λb o e n hb hx=>?_,I.base.free,λb o e hx=>?_,I.base.tups,I.base.pC,I.base.qC⟩,⟨m,hn.sameBut hs (Ne.symm (Ff x c hc)),λj y v' e1 e2 e3=>?_⟩,λy c' e=>?_,I.free,I.fH,λp hp=>?_,tracked ⟨oc,hoc,I.fH x c hc⟩ hs,by simpa using I.len⟩ ⟨c,hs,.inr hc⟩
  ·exact(hs.2 b (C3 (B4 (Heap.lt_size e) (I.ok.cab x c hfn hc)))).trans (I.base.keep b o e n hb hx)
  ·obtain⟨sl,e1⟩:=I.base.slot b o e n hb hx
   exact⟨sl,(hs.2 b (C3 (B4 (Heap.lt_size e) (I.ok.cab x c hfn hc)))).trans e1⟩
  ·obtain⟨o',e1⟩:=I.base.there b o e hx
   exact⟨o',(hs.2 b (C3 (B4 (Heap.lt_size e) (I.ok.cab x c hfn hc)))).trans e1⟩
  ·by_cases hj:j=i
   ·subst hj
    rw[hi]at e1;cases e1
    rw[J9 GF]at e2
    cases e2
    exact⟨u,r,.inr ⟨.inl hk,c,hc,hc'⟩⟩
   ·rw[K1 (Ne.symm hj)]at e2
    obtain⟨u',r',q⟩:=hl j y v' e1 e2 e3
    refine⟨u',r',?_⟩
    rcases q with q | ⟨k,c',e,z'⟩
    ·exact .inl q
    ·refine .inr ⟨k,c',e,z'.sameBut hs ?_⟩
     rintro rfl
     exact hj (qF hN e1 (I.ok.inj _ _ _ e hc▸hi))
  ·by_cases hcc:c'=c
   ·subst hcc;exact⟨_,hc'⟩
   ·obtain⟨w2,z2⟩:=I.cell y c' e
    exact⟨w2,z2.sameBut hs hcc⟩
  ·obtain⟨e,n,ne,nf,d⟩:=I.pin p hp
   refine⟨(hs.2 p.1 ?_).trans e,n,ne,nf,d⟩
   intro q
   rw[q,hoc]at e
   have q':oc=p.2:=D6 e
   exact d w' (by rw[←q'];exact HY)
theorem mC{M:Model}{A:Around}{E:Value→Shared→Prop}{i:Nat}{x:Str}{v:V}{u:Value}{Q:Unit→Shared→Prop}(I:Inv X pins σ H s)(hN:X.N.Nodup)(hi:X.N[i]?=some x)(hx:Loc X.env.scope x)(r:RelV v u)
  (h:∀s',Inv X pins (σ.set i (some v)) H s'→Q () s') (hf:X.fn x=true∨X.env.scope.names.lookup x=some .local:=by first | exact .inl rfl | exact .inr rfl | assumption):wpAny M A (storeName X.env x u) Q E s:=
 Cr I hN hi hx r (λs' I' _=>h s' I') hf
theorem Inv.call'{s':Shared}{ch:List Addr}(I:Inv X pins σ H s)(ho:s'.os=s.os)(u:Un (frs X.stack) ch H H' s.heap s'.heap)(hok:jY X.prog X.w H' s'.heap)(hg:AllBare s'.gens)
  (hch:∀b∈ch,(b∈X.ex∨X.s₀.heap.objs.size≤b)∧b≠X.env.locals∧(∀x c,X.env.cells.lookup x=some c→c≠b)∧∀p∈X.pn++pins,p.1≠b):Inv X pins σ H' s':=by
 obtain⟨h',g',d',t',o'⟩:=s'
 have e:o'=s.os:=ho
 subst e
 exact I.call (g':=g') (t':=t') (d':=d') u hok hg hch
end
abbrev XK:=Value→Option Addr→Hp→Prop
abbrev St:=List (Option V)
abbrev VK:=V→Hp→Prop
abbrev TE:=St→Hp→VK→Prop
abbrev TT:=St→Hp→(Bool→Hp→Prop)→Prop
abbrev TA:=St→Hp→(List V→Hp→Prop)→Prop
structure Ends where
 nx:St→Hp→Prop
 rt:VK
 bk:St→Hp→Prop:=λ_ _=>False
 ct:St→Hp→Prop:=λ_ _=>False
abbrev TS:=Ends→St→Hp→Prop
def EP(X:Cx)(pins:List (Addr×Obj))(σ:St)(Q:VK)(u:Value)(s':Shared):Prop:=∃v H',Inv X pins σ H' s'∧RelV v u∧Q v H'
def TP(X:Cx)(pins:List (Addr×Obj))(σ:St)(Q:Bool→Hp→Prop)(b:Bool)(s':Shared):Prop:=∃H',Inv X pins σ H' s'∧Q b H'
def AP(X:Cx)(pins:List (Addr×Obj))(σ:St)(Q:List V→Hp→Prop)(us:List Value)(s':Shared):Prop:=∃vs H',Inv X pins σ H' s'∧Vals vs us∧Q vs H'
def SP(X:Cx)(pins:List (Addr×Obj))(D:Ends)(f:Flow)(s':Shared):Prop:=
 match f with
 | .next=>∃σ' H',Inv X pins σ' H' s'∧D.nx σ' H'
 | .brk=>∃σ' H',Inv X pins σ' H' s'∧D.bk σ' H'
 | .cont=>∃σ' H',Inv X pins σ' H' s'∧D.ct σ' H'
 | .ret u=>∃v σ' H',Inv X pins σ' H' s'∧RelV v u∧D.rt v H'
def PE(X:Cx)(e:Expr)(t:TE):Prop:=
 ∀(pins:List (Addr×Obj))(s:Shared)(σ:St)(H:Hp)(Q:VK),Inv X pins σ H s→t σ H Q→wpAny (model X.prog X.w) X.A (eval e X.env) (EP X pins σ Q) X.xe s
def PT(X:Cx)(e:Expr)(t:TT):Prop:=
 ∀(pins:List (Addr×Obj))(s:Shared)(σ:St)(H:Hp)(Q:Bool→Hp→Prop),Inv X pins σ H s→t σ H Q→wpAny (model X.prog X.w) X.A (isTrue e X.env (eval e X.env)) (TP X pins σ Q) X.xe s
def PW(X:Cx)(e:Expr)(t:TT):Prop:=
 ∀(whole:Sem Value)(pins:List (Addr×Obj))(s:Shared)(σ:St)(H:Hp)(Q:Bool→Hp→Prop),Inv X pins σ H s→t σ H Q→wpAny (model X.prog X.w) X.A (isTrue e X.env whole) (TP X pins σ Q) X.xe s
theorem PW.pt{X:Cx}{e:Expr}{t:TT}(h:PW X e t):PT X e t:=h _
def PA(X:Cx)(es:List Expr)(t:TA):Prop:=
 ∀(pos:Pos)(pins:List (Addr×Obj))(s:Shared)(σ:St)(H:Hp)(Q:List V→Hp→Prop),Inv X pins σ H s→t σ H Q→wpAny (model X.prog X.w) X.A (spliced (backTo pos (starEach es X.env))) (AP X pins σ Q) X.xe s
def PS(X:Cx)(st:Stmt)(t:TS):Prop:=
 ∀(pins:List (Addr×Obj))(s:Shared)(σ:St)(H:Hp)(D:Ends),Inv X pins σ H s→t D σ H→wpAny (model X.prog X.w) X.A (exec st X.env) (SP X pins D) X.xe s
def wU(X:Cx)(st:List Stmt)(t:TS):Prop:=
 ∀(pins:List (Addr×Obj))(s:Shared)(σ:St)(H:Hp)(D:Ends),Inv X pins σ H s→t D σ H→wpAny (model X.prog X.w) X.A (execs st X.env) (SP X pins D) X.xe s
theorem cV{α:Type}{t:Sem α}{Q Q':α→Shared→Prop}{M:Model}{A:Around}{E:Value→Shared→Prop}{s:Shared}(h:wpAny M A t Q E s)(hQ:∀a s,Q a s→Q' a s):wpAny M A t Q' E s:=wpAny_mono h hQ λ_ _ x=>x
end L2
namespace L2
open PySem PySem.Spec PyProof.Rows
section
variable{X:Cx}
def mD(i:Nat):TE:=λσ H Q=>∃v,σ[i]?=some (some v)∧Q v H
def tC(v:V):TE:=λ_ H Q=>Q v H
theorem Sw{i:Nat}{x:Str}{pos:Pos}(hN:X.N[i]?=some x)(hv:GC X.env.scope x)(hd:(x==("__debug__" : Str))=false:=by decide) (hcd:(x==("__classdict__" : Str))=false:=by decide):PE X (.Name x pos) (mD i):=by
  intro pins s σ H Q I h
  obtain⟨v,e,h⟩:=h
  obtain⟨m,hn,hl⟩:=I.loc
  obtain⟨u,r,l⟩:=hl i x v hN e hv
  have fin:EP X pins σ Q u s:=⟨v,H,I,r,h⟩
  rcases l with ⟨hk,hm⟩ | ⟨hk,c,hc,hcell⟩
  · exact wpAny_Name (wpAny_loadName_local I.ok.kind hk hn hm fin) hd
  · rcases hk with hk | hk
    · exact wpAny_Name (wpAny_loadName_cell I.ok.kind hk hc hcell fin) hd
    · exact wpAny_Name (wpAny_loadName_free I.ok.kind hk hc hcell fin hcd) hd
theorem Fg{i j pos}:PE X (.Constant (.int i) j pos) (tC (.int i)):=λ_ _ _ H _ I h=>wpAny_Constant_int ⟨.int i,H,I.tok _,⟨_,rfl⟩,h⟩
theorem Yi{b j pos}:PE X (.Constant (.bool b) j pos) (tC (.bl b)):=λ_ _ _ H _ I h=>Constant_bool ⟨.bl b,H,I,rfl,h⟩
theorem Sx{j pos}:PE X (.Constant .none j pos) (tC .non):=λ_ _ _ H _ I h=>Constant_none ⟨.non,H,I,rfl,h⟩
theorem Fi{x j pos}:PE X (.Constant (.str x) j pos) (tC (.str x)):=λ_ _ _ H _ I h=>Calls.Constant_str ⟨.str x,H,I.tok _,⟨_,rfl⟩,h⟩
def Gl(X:Cx)(x:Str):Prop:=X.env.kindOf x=some .globalImplicit
theorem jZ{E:Value→Shared→Prop}{pins:List (Addr×Obj)}{s:Shared}{σ:St}{H:Hp}{x:Str}{u:Value}{pos:Pos}{Q:Value→Shared→Prop}(I:Inv X pins σ H s)(hg:Gl X x)(hm:X.mg x=some u)(h:Q u s)
  (hd:(x==("__debug__" : Str))=false:=by decide):wpAny (model X.prog X.w) X.A (eval (.Name x pos) X.env) Q E s:=
 Calls.Name_function_global I.ok.kind hg (Calls.loadGlobal_global (by rw[I.ok.glob];exact I.mod.glob.keeps I.bk) hm h) hd
theorem uN{E:Value→Shared→Prop}{pins:List (Addr×Obj)}{s:Shared}{σ:St}{H:Hp}{x:Str}{u:Value}{pos:Pos}{Q:Value→Shared→Prop}(I:Inv X pins σ H s)(hg:Gl X x)(hm:X.mg x=none)(hv:bootBuiltins x=some u)(h:Q u s)
  (hn:x ≠ "__name__" := by decide) (hd:(x==("__debug__" : Str))=false:=by decide):wpAny (model X.prog X.w) X.A (eval (.Name x pos) X.env) Q E s:=by
 obtain⟨mb,h1,h2⟩:=I.mod.blt
 exact Calls.Name_function_global I.ok.kind hg (Calls.loadGlobal_builtin (by rw[I.ok.glob];exact I.mod.glob.keeps I.bk) hm (by rw[I.ok.blt];exact h1.keeps I.bk) ((h2 x hn).trans hv) h) hd
theorem cW{x:Str}{v:V}{u:Value}{pos:Pos}(hg:Gl X x)(hm:X.mg x=some u)(r:RelV v u)(hd:(x==("__debug__" : Str))=false:=by decide):PE X (.Name x pos) (tC v):=
 λ_ _ _ H _ I h=>jZ I hg hm ⟨v,H,I,r,h⟩ hd
theorem mF{x:Str}{v:V}{u:Value}{pos:Pos}(hg:Gl X x)(hm:X.mg x=none)(hv:bootBuiltins x=some u)(r:RelV v u)(hn:x ≠ "__name__" := by decide) (hd:(x==("__debug__" : Str))=false:=by decide):PE X (.Name x pos) (tC v):=
 λ_ _ _ H _ I h=>uN I hg hm hv ⟨v,H,I,r,h⟩ hn hd
variable{a b:Expr}{ta tb:TE}{pos:Pos}
def tB(t:TE):TT:=λσ H Q=>t σ H λx H1=>∃c,x=.bl c∧Q c H1
theorem Sy{e:Expr}{t:TE}(h:PE X e t)(he:∀whole,isTrue e X.env whole=(do let v ←whole;standAt e.pos;holding [v] (truthy v)):=by intro _;rfl):PT X e (tB t):=by
 intro pins s σ H Q I hw
 refine isTrue_plain (cV (h pins s σ H _ I hw) λv s1 ⟨x,H1,I1,r1,q1⟩=>?_) (he _)
 obtain⟨d,rfl,q⟩:=q1
 cases r1
 exact wpAny_truthy_bool ⟨H1,I1,q⟩
variable{tA GJ:TT}{rest:List Expr}
def Tc(t u:TT):TT:=λσ H Q=>t σ H λc H1=>if c=true then u σ H1 Q else Q false H1
def IK(t u:TT):TT:=λσ H Q=>t σ H λc H1=>if c=true then Q true H1 else u σ H1 Q
def Td(t:TT):TT:=λσ H Q=>t σ H λc H1=>Q (!c) H1
theorem Lb(ha:PT X a tA):PW X (.BoolOp .And [a] pos) tA:=by
 intro wh pins s σ H Q I h
 refine isTrue_and (cV (ha pins s σ H Q I h) λc s1 e=>?_)
 cases c with
 | true=>exact isTrue_and_nil e
 | false=>exact e
theorem Te(ha:PT X a tA):PW X (.BoolOp .Or [a] pos) tA:=by
 intro wh pins s σ H Q I h
 refine isTrue_or (cV (ha pins s σ H Q I h) λc s1 e=>?_)
 cases c with
 | false=>exact isTrue_or_nil e
 | true=>exact e
theorem Tf(ha:PT X a tA)(hb:PW X (.BoolOp .And (b::rest) pos) GJ):PW X (.BoolOp .And (a::b::rest) pos) (Tc tA GJ):=by
 intro wh pins s σ H Q I h
 refine isTrue_and (cV (ha pins s σ H _ I h) λc s1 ⟨H1,I1,q1⟩=>?_)
 cases c with
 | true=>exact hb wh pins s1 σ H1 Q I1 q1
 | false=>exact⟨H1,I1,q1⟩
theorem Yj(ha:PT X a tA)(hb:PW X (.BoolOp .Or (b::rest) pos) GJ):PW X (.BoolOp .Or (a::b::rest) pos) (IK tA GJ):=by
 intro wh pins s σ H Q I h
 refine isTrue_or (cV (ha pins s σ H _ I h) λc s1 ⟨H1,I1,q1⟩=>?_)
 cases c with
 | true=>exact⟨H1,I1,q1⟩
 | false=>exact hb wh pins s1 σ H1 Q I1 q1
theorem Tg(ha:PT X a tA):PT X (.UnaryOp .Not a pos) (Td tA):=by
 intro pins s σ H Q I h
 exact isTrue_not (ha pins s σ H (λc H1=>Q (!c) H1) I h)
def Qn(ta tb:TE):TE:=λσ H Q=>ta σ H λx H1=>∃c,x=.bl c∧if c=true then tb σ H1 Q else Q (.bl false) H1
def Yk(ta tb:TE):TE:=λσ H Q=>ta σ H λx H1=>∃c,x=.bl c∧if c=true then Q (.bl true) H1 else tb σ H1 Q
def Qo(ta:TE):TE:=λσ H Q=>ta σ H λx H1=>∃c,x=.bl c∧Q (.bl (!c)) H1
theorem Th{op}{t:TE}(h:PE X a t):PE X (.BoolOp op [a] pos) t:=λpins s σ H Q I hw=>BoolOp_one (h pins s σ H Q I hw)
theorem Ti(ha:PE X a ta)(hb:PE X (.BoolOp .And (b::rest) pos) tb):PE X (.BoolOp .And (a::b::rest) pos) (Qn ta tb):=by
 intro pins s σ H Q I h
 refine BoolOp_and (cV (ha pins s σ H _ I h) λv s1 ⟨x,H1,I1,r1,q1⟩=>?_)
 obtain⟨c,rfl,q1⟩:=q1
 cases r1
 refine wpAny_truthy_bool ?_
 cases c with
 | true=>exact hb pins s1 σ H1 Q I1 q1
 | false=>exact⟨.bl false,H1,I1,rfl,q1⟩
theorem Yl(ha:PE X a ta)(hb:PE X (.BoolOp .Or (b::rest) pos) tb):PE X (.BoolOp .Or (a::b::rest) pos) (Yk ta tb):=by
 intro pins s σ H Q I h
 refine BoolOp_or (cV (ha pins s σ H _ I h) λv s1 ⟨x,H1,I1,r1,q1⟩=>?_)
 obtain⟨c,rfl,q1⟩:=q1
 cases r1
 refine wpAny_truthy_bool ?_
 cases c with
 | false=>exact hb pins s1 σ H1 Q I1 q1
 | true=>exact⟨.bl true,H1,I1,rfl,q1⟩
theorem Tj(ha:PE X a ta):PE X (.UnaryOp .Not a pos) (Qo ta):=by
 intro pins s σ H Q I h
 refine UnaryOp_ (cV (ha pins s σ H _ I h) λv s1 ⟨x,H1,I1,r1,q1⟩=>?_)
 obtain⟨c,rfl,q1⟩:=q1
 cases r1
 exact not_of (wpAny_truthy_bool ⟨.bl (!c),H1,I1,rfl,q1⟩)
def NT(t:TT)(ta tb:TE):TE:=λσ H Q=>t σ H λc H1=>if c=true then ta σ H1 Q else tb σ H1 Q
theorem Fj{c:Expr}(hc:PT X c tA)(ha:PE X a ta)(hb:PE X b tb):PE X (.IfExp c a b pos) (NT tA ta tb):=by
 intro pins s σ H Q I h
 refine wpAny_IfExp (cV (hc pins s σ H _ I h) λd s1 ⟨H1,I1,q1⟩=>?_)
 cases d with
 | true=>exact ha pins s1 σ H1 Q I1 q1
 | false=>exact hb pins s1 σ H1 Q I1 q1
end
end L2
namespace L2
open PySem PySem.Spec PyProof.Rows
def mG(K:aA)(H:Hp)(a:Addr)(xs:List V):Prop:=
 Rd H a (.lst xs) ∨
  ∃(o:Obj)(its:Array Value)(n:Nat),K.lookup a=some o∧o.cls=.type "list" ∧ o.dict=none∧o.data=.seq its n∧its.size≤sizeLine∧Vals xs its.toList
def mH(K:aA)(H:Hp)(a:Addr)(xs:List V):Prop:=
 Rd H a (.tup xs) ∨
  ∃(o:Obj)(its:Array Value)(n:Nat),K.lookup a=some o∧o.cls=.type "tuple" ∧ o.data=.seq its n∧its.size≤sizeLine∧Vals xs its.toList
def IV:Value→Option V
 | .none=>some .non
 | .bool b=>some (.bl b)
 | .int i _=>some (.int i)
 | .str x _=>some (.str x)
 | .bytes b _=>some (.byt b)
 | .float b _=>some (.flt b)
 | .ref a=>some (.ref a)
 | .type n=>some (.ty n)
 | _=>none
theorem RelV.abs{x:V}{u:Value}(r:RelV x u):IV u=some x:=by
 cases x with
 | non=>cases r;rfl
 | bl _=>cases r;rfl
 | int _=>obtain⟨t,rfl⟩:=r;rfl
 | str _=>obtain⟨t,rfl⟩:=r;rfl
 | byt _=>obtain⟨t,rfl⟩:=r;rfl
 | flt _=>obtain⟨t,rfl⟩:=r;rfl
 | ref _=>cases r;rfl
 | ty _=>cases r;rfl
theorem RelV.inj{x y:V}{u:Value}(r:RelV x u)(q:RelV y u):x=y:=D6 (r.abs.symm.trans q.abs)
theorem Vals.inj:∀{xs ys:List V} {us:List Value},Vals xs us→Vals ys us→xs=ys
 | _,_,_,.nil,.nil=>rfl
 | _,_,_,.cons r t,.cons r' t'=>by rw[r.inj r',Vals.inj t t']
section
variable{X:Cx}{pins:List (Addr×Obj)}{σ:St}{H:Hp}{s:Shared}{a:Addr}{xs ys:List V}
theorem mG.of{K:aA}(h:H a=some (.lst xs)):mG K H a xs:=.inl (.inl h)
theorem mH.of{K:aA}(h:H a=some (.tup xs)):mH K H a xs:=.inl (.inl h)
theorem Inv.list(I:Inv X pins σ H s)(h:mG X.K H a xs):∃its:List Value,Vals xs its∧PlainL s.heap a its.toArray∧xs.length≤sizeLine:=by
 rcases h with h | ⟨o,its,n,hk,hc,hd,hs,hz,r⟩
 ·obtain⟨z,its,n,r,e⟩:=h.ok I.hok
  exact⟨its,r,⟨_,n,e,rfl,rfl,rfl⟩,z⟩
 ·refine⟨its.toList,r,⟨o,n,I.lZ a o hk,hc,hd,by simpa using hs⟩,?_⟩
  have e:=r.length
  simp only[J7]at e
  omega
theorem Inv.tuple(I:Inv X pins σ H s)(h:mH X.K H a xs):∃its:List Value,Vals xs its∧IsTup s.heap a its.toArray∧xs.length≤sizeLine:=by
 rcases h with h | ⟨o,its,n,hk,hc,hs,hz,r⟩
 ·obtain⟨z,its,r,p⟩:=h.ok I.hok
  exact⟨its,r,p,z⟩
 ·refine⟨its.toList,r,⟨o,I.lZ a o hk,hc,n,by simpa using hs⟩,?_⟩
  have e:=r.length
  simp only[J7]at e
  omega
theorem Inv.Fo(I:Inv X pins σ H s)(h:mG X.K H a xs)(h':mG X.K H a ys):xs=ys:=by
 obtain⟨its,r,⟨o,n,e,_,_,d⟩,_⟩:=I.list h
 obtain⟨its',r',⟨o',n',e',_,_,d'⟩,_⟩:=I.list h'
 rw[e]at e';cases e'
 rw[d]at d'
 injection d' with d1 _
 have:its=its':=by simpa using congrArg T8 d1
 subst this
 exact r.inj r'
theorem Inv.Cu(I:Inv X pins σ H s)(h:mH X.K H a xs)(h':mH X.K H a ys):xs=ys:=by
 obtain⟨its,r,⟨o,e,_,n,d⟩,_⟩:=I.tuple h
 obtain⟨its',r',⟨o',e',_,n',d'⟩,_⟩:=I.tuple h'
 rw[e]at e';cases e'
 rw[d]at d'
 injection d' with d1 _
 have:its=its':=by simpa using congrArg T8 d1
 subst this
 exact r.inj r'
end
abbrev Cx.wish(X:Cx)(E:Value→Shared→Prop):Cx:={X with xe:=E}
abbrev Cx.Tn(X:Cx):Cx:=X.wish λ_ _=>False
theorem Cx.Ok.wish{X:Cx}(ok:X.Ok)(E:Value→Shared→Prop):(X.wish E).Ok:=
 ⟨ok.mod,ok.kind,ok.glob,ok.blt,ok.above,ok.inj,ok.has,ok.cab,ok.hd,ok.frames,ok.Qm,ok.Xq,ok.bs,ok.Ez,ok.uK,ok.wR,ok.kY,ok.Kq⟩
theorem Cx.Ok.jB{X:Cx}{E:Value→Shared→Prop}(ok:(X.wish E).Ok):X.Ok:=
 ⟨ok.mod,ok.kind,ok.glob,ok.blt,ok.above,ok.inj,ok.has,ok.cab,ok.hd,ok.frames,ok.Qm,ok.Xq,ok.bs,ok.Ez,ok.uK,ok.wR,ok.kY,ok.Kq⟩
section
variable{X:Cx}{pins:List (Addr×Obj)}{σ:St}{H:Hp}{s:Shared}{E:Value→Shared→Prop}
theorem Inv.wish(I:Inv X pins σ H s)(E:Value→Shared→Prop):Inv (X.wish E) pins σ H s:=⟨I.ok.wish E,I.os,I.bare,I.base,I.loc,I.cell,I.free,I.fH,I.pin,I.hok,I.len⟩
theorem Inv.jB(I:Inv (X.wish E) pins σ H s):Inv X pins σ H s:=⟨I.ok.jB,I.os,I.bare,I.base,I.loc,I.cell,I.free,I.fH,I.pin,I.hok,I.len⟩
theorem SP.jB{D:Ends}{f:Flow}{s':Shared}(h:SP (X.wish E) pins D f s'):SP X pins D f s':=by
 cases f with
 | next=>obtain⟨σ',H',I,q⟩:=h;exact⟨σ',H',I.jB,q⟩
 | brk=>obtain⟨σ',H',I,q⟩:=h;exact⟨σ',H',I.jB,q⟩
 | cont=>obtain⟨σ',H',I,q⟩:=h;exact⟨σ',H',I.jB,q⟩
 | ret u=>obtain⟨v,σ',H',I,r,q⟩:=h;exact⟨v,σ',H',I.jB,r,q⟩
theorem wU.Tn{st:List Stmt}{t:TS}(h:wU X.Tn st t):wU X st t:=λpins s σ H D I hw=>
 wpAny_mono (h pins s σ H D (I.wish _) hw) (λ_ _ q=>q.jB) λ_ _ z=>False.elim z
end
section
variable{X:Cx}{st:Stmt}{rest:List Stmt}{t u:TS}{e:Expr}{te:TE}{pos:Pos}
def Qp:TS:=λD σ H=>D.nx σ H
def Fq(t u:TS):TS:=λD σ H=>t {D with nx:=u D} σ H
theorem Ld:wU X [] Qp:=λ_ _ σ H _ I h=>wpAny_execs_nil ⟨σ,H,I,h⟩
theorem qG(h1:PS X st t)(h2:wU X rest u):wU X (st::rest) (Fq t u):=by
 intro pins s σ H D I h
 refine wpAny_execs_cons (cV (h1 pins s σ H {D with nx:=u D} I h) λf s1 q=>?_)
 cases f with
 | next=>
  obtain⟨σ',H',I',q⟩:=q
  exact h2 pins s1 σ' H' D I' q
 | ret v=>exact q
 | brk=>exact q
 | cont=>exact q
theorem Aq(h1:PS X st t):wU X [st] t:=by
 intro pins s σ H D I h
 refine wpAny_execs_cons (cV (h1 pins s σ H D I h) λf s1 q=>?_)
 cases f with
 | next=>exact wpAny_execs_nil q
 | ret v=>exact q
 | brk=>exact q
 | cont=>exact q
def Ft(te:TE):TS:=λD σ H=>te σ H D.rt
theorem yW(he:PE X e te):PS X (.Return (some e) pos) (Ft te):=by
 intro pins s σ H D I h
 exact wpAny_Return_some (cV (he pins s σ H _ I h) λv s1 ⟨x,H1,I1,r1,q1⟩=>⟨x,σ,H1,I1,r1,q1⟩)
def Tp(c:TT)(t u:TS):TS:=λD σ H=>c σ H λb H1=>if b=true then t D σ H1 else u D σ H1
theorem Qq{c:Expr}{a b:List Stmt}{tc:TT}(hc:PT X c tc)(ha:wU X a t)(hb:wU X b u):PS X (.If c a b pos) (Tp tc t u):=by
 intro pins s σ H D I h
 refine wpAny_If (cV (hc pins s σ H _ I h) λd s1 ⟨H1,I1,q1⟩=>?_)
 cases d with
 | true=>exact ha pins s1 σ H1 D I1 q1
 | false=>exact hb pins s1 σ H1 D I1 q1
def qH:TS:=λ_ _ _=>False
theorem Fv:PS X st qH:=λ_ _ _ _ _ _ h=>h.elim
theorem tG{sts:List Stmt}:wU X sts qH:=λ_ _ _ _ _ _ h=>h.elim
end
abbrev TG:=V→St→Hp→(St→Hp→Prop)→Prop
abbrev Qt:=List V→St→Hp→(St→Hp→Prop)→Prop
def PG(X:Cx)(target:Expr)(t:TG):Prop:=
 ∀(pins:List (Addr×Obj))(s:Shared)(σ:St)(H:Hp)(v:V)(u:Value)(Q:St→Hp→Prop),Inv X pins σ H s→RelV v u→t v σ H Q →
  wpAny (model X.prog X.w) X.A (assign target X.env u) (λ_ s'=>∃σ' H',Inv X pins σ' H' s'∧Q σ' H') X.xe s
def GK(X:Cx)(ts:List Expr)(t:Qt):Prop:=
 ∀(pins:List (Addr×Obj))(s:Shared)(σ:St)(H:Hp)(vs:List V)(us:List Value)(Q:St→Hp→Prop),Inv X pins σ H s→Vals vs us→t vs σ H Q →
  wpAny (model X.prog X.w) X.A (assignInOrder ((assignEach ts X.env).map (·.2)) us) (λ_ s'=>∃σ' H',Inv X pins σ' H' s'∧Q σ' H') X.xe s
section
variable{X:Cx}{pos:Pos}
def bO(i:Nat):TG:=λv σ H Q=>Q (σ.set i (some v)) H
theorem mJ{i:Nat}{x:Str}(hN:X.N.Nodup)(hi:X.N[i]?=some x)(hx:Loc X.env.scope x)(hf:X.fn x=true∨X.env.scope.names.lookup x=some .local:=by first | exact .inl rfl | exact .inr rfl | assumption):PG X (.Name x pos) (bO i):=by
 intro pins s σ H v u Q I r h
 exact wpAny_assign_Name (mC I hN hi hx r (λs' I'=>⟨_,H,I',h⟩) hf)
def Ym:Qt:=λvs σ H Q=>vs=[]∧Q σ H
def Qu(t:TG)(u:Qt):Qt:=λvs σ H Q=>∃v r,vs=v::r∧t v σ H λσ' H'=>u r σ' H' Q
theorem Le:GK X [] Ym:=by
 intro pins s σ H vs us Q I r h
 obtain⟨e,h⟩:=h
 subst e
 cases r
 exact assignInOrder_nil ⟨σ,H,I,h⟩
theorem wV{e:Expr}{es:List Expr}{t:TG}{u:Qt}(h1:PG X e t)(h2:GK X es u)
  (hs:(assignEach (e::es) X.env).map (·.2)=assign e X.env::(assignEach es X.env).map (·.2):=by rfl):GK X (e::es) (Qu t u):=by
 intro pins s σ H vs us Q I r h
 obtain⟨v,vr,e1,h⟩:=h
 subst e1
 cases r with
 | cons r rr=>
  rw[hs]
  refine assignInOrder_cons (cV (h1 pins s σ H _ _ _ I r h) λ_ s1 ⟨σ1,H1,I1,q1⟩=>?_)
  exact h2 pins s1 σ1 H1 _ _ Q I1 rr q1
def Lf(K:aA)(n:Nat)(t:Qt):TG:=λv σ H Q=>∃a xs,v=.ref a∧mH K H a xs∧xs.length=n∧t xs σ H Q
theorem Tq{es:List Expr}{k:Nat}{t:Qt}{n:Nat}(hc:X.calm=true)(h:GK X es t)
  (hn:(assignEach es X.env).length=n:=by rfl) (hst:(assignEach es X.env).findIdx? (·.1)=none:=by rfl):PG X (.Tuple es k pos) (Lf X.K n t):=by
 intro pins s σ H v u Q I r hw
 obtain⟨a,xs,e1,hq,hl,hw⟩:=hw
 subst e1
 cases r
 obtain⟨its,rv,ht,hz⟩:=I.tuple hq
 refine assign_Tuple_tuple (I.ok.hd hc) ht (by simp[hn,←hl,rv.length]) hst λh' hx=>?_
 have I1:Inv X pins σ H {s with heap:=h'}:=I.kept (t':=s.toks) λb o e=>hx b o (C3 (Heap.lt_size e)) e
 exact h pins _ σ H xs _ Q I1 (by simpa using rv) hw
def iC(te:TE)(g:TG):TS:=λD σ H=>te σ H λx H1=>g x σ H1 D.nx
theorem Tr{tg e:Expr}{te:TE}{g:TG}(he:PE X e te)(hg:PG X tg g)(hs:swapsWithSole [tg] e pos.line X.env=pure false:=by rfl)(hw:swappedStores [tg] e X.env=pure none:=by rfl)
  (h1:(assignEach [tg] X.env).map (·.2)=[assign tg X.env]:=by rfl):PS X (.Assign [tg] e pos) (iC te g):=by
 intro pins s σ H D I h
 refine wpAny_Assign_stores (cV (he pins s σ H _ I h) λv s1 ⟨x,H1,I1,r1,q1⟩=>?_) hs hw
 rw[h1]
 exact cV (hg pins s1 σ H1 x v _ I1 r1 q1) λ_ s2 q=>q
theorem bA{i:Nat}{x:Str}{e:Expr}{te:TE}{pos':Pos}(hN:X.N.Nodup)(hi:X.N[i]?=some x)(hx:Loc X.env.scope x)(he:PE X e te)(hs:swapsWith e (some (.Name x pos')) pos.line X.env=pure false:=by rfl)(hf:X.fn x=true∨X.env.scope.names.lookup x=some .local:=by first | exact .inl rfl | exact .inr rfl | assumption) :
  PS X (.Assign [.Name x pos'] e pos) (iC te (bO i)):=by
 intro pins s σ H D I h
 refine wpAny_Assign_Name (cV (he pins s σ H _ I h) λv s1 ⟨y,H1,I1,r1,q1⟩=>?_) hs
 exact mC I1 hN hi hx r1 (λs2 I2=>⟨_,H1,I2,q1⟩) hf
end
section
variable{X:Cx}{pos:Pos}
end
structure It where
 go:Nat→Hp→Prop
 Yn:Nat→Hp→V→Hp→Prop
 stop:Nat→Hp→Prop
def sJ(X:Cx)(pins:List (Addr×Obj))(H:Hp)(b:Addr):Prop:=
 H b=none∧b≠X.env.locals∧b∉X.fs∧(b∈X.ex∨X.s₀.heap.objs.size≤b)∧(∀x c,X.env.cells.lookup x=some c→c≠b)∧∀p∈X.pn++pins,p.1≠b
theorem Inv.Yo{X:Cx}{pins:List (Addr×Obj)}{σ:St}{H H':Hp}{s:Shared}{b:Addr}(I:Inv X pins σ H s)(hb:s.heap.objs.size≤b)(hn:H' b=none):sJ X pins H' b:=by
 refine⟨hn,O2 (B4 I.lt hb),I.HX hb,.inr (F4 I.sz hb),λx c e z=>?_,λp hp z=>?_⟩
 ·obtain⟨v,q⟩:=I.cell x c e
  exact absurd (B4 q.lt (by rw[z];exact hb)) (G4 _)
 ·exact absurd (B4 (Heap.lt_size (I.pin p hp).1) (by rw[z];exact hb)) (G4 _)
structure Turn(P:Program)(w:World)(K:aA)(tg:Expr)(J:It)(fp:List Addr)(it:Addr)(tn:Nat→Heap→Prop):Prop where
 mem:it∈fp
 obj:∀i h,tn i h→∀b∈fp,∃o,h.get? b=some o∧∀v,o.data≠.cell v
 keep:∀i h h',tn i h→(∀b∈fp,∀o,h.get? b=some o→h'.get? b=some o)→tn i h'
 item:∀(X:Cx),X.prog=P→X.w=w→X.K=K→X.calm=true→∀(i:Nat)(pins:List (Addr×Obj))(s:Shared)(σ:St)(H:Hp)(E:Value→Shared→Prop),Inv X pins σ H s→(∀b∈fp,sJ X pins H b)→tn i s.heap→J.go i H →
  wpAny (model P w) X.A (pyNext (.ref it)) (λr s1=>∃u,r=some u ∧
   wpAny (model P w) X.A (letOwnedTupleGo tg (.ref it) u) (λ_ s2=>∃x H',Inv X pins σ H' s2∧RelV x u∧J.Yn i H x H'∧tn (i+1) s2.heap∧∀b∈fp,H' b=none) E s1) E s
 done:∀(X:Cx),X.prog=P→X.w=w→X.K=K→X.calm=true→∀(i:Nat)(pins:List (Addr×Obj))(s:Shared)(σ:St)(H:Hp)(E:Value→Shared→Prop),Inv X pins σ H s→(∀b∈fp,sJ X pins H b)→tn i s.heap→J.stop i H →
  wpAny (model P w) X.A (pyNext (.ref it)) (λr s1=>r=none∧Inv X pins σ H s1) E s
 self:∀(A:Around)(i:Nat)(s:Shared)(Q:Value→Shared→Prop)(E:Value→Shared→Prop),tn i s.heap→Q (.ref it) s→wpAny (model P w) A (pyIter (.ref it)) Q E s
abbrev TI:=St→Hp→(It→Hp→Prop)→Prop
def PIE(X:Cx)(pins:List (Addr×Obj))(σ:St)(tg:Expr)(R:It→Hp→Prop)(itv:Value)(s2:Shared):Prop:=
 ∃(it:Addr)(fp:List Addr)(tn:Nat→Heap→Prop)(J:It)(H':Hp),itv=.ref it∧Inv X pins σ H' s2∧Turn X.prog X.w X.K tg J fp it tn∧tn 0 s2.heap∧(∀b∈fp,sJ X pins H' b)∧R J H'
def PI(X:Cx)(tg iter:Expr)(wi:TI):Prop:=
 ∀(pins:List (Addr×Obj))(s:Shared)(σ:St)(H:Hp)(R:It→Hp→Prop),Inv X pins σ H s→wi σ H R →
  wpAny (model X.prog X.w) X.A (eval iter X.env) (λv s1=>wpAny (model X.prog X.w) X.A (pyIter v) (PIE X pins σ tg R) X.xe s1) X.xe s
theorem Qv{M:Model}{A:Around}{E:Value→Shared→Prop}{s:Shared}{tg:Expr}{it:Addr}{u:Value}{o:Obj}{n:String}{vs:Array Value}{Q:Unit→Shared→Prop}(ho:s.heap.get? it=some o)(hc:o.cls=.type n)(hd:o.data=.fields vs)
    (hn:["enumerate", "zip", "dict_itemiterator", "dict_reverseitemiterator", "odict_iterator", "itertools.zip_longest", "itertools.pairwise"].contains n=false) (hQ:Q () s):wpAny M A (letOwnedTupleGo tg (.ref it) u) Q E s:=by
  unfold letOwnedTupleGo
  cases tg<;>first
    | exact wpAny_pure hQ
    | (cases u<;>first
        | exact wpAny_pure hQ
        | (refine wpAny_bind (wpAny_load ho ?_)
           rw[hc,hd]
           show wpAny M A (if(["enumerate", "zip", "dict_itemiterator", "dict_reverseitemiterator", "odict_iterator", "itertools.zip_longest", "itertools.pairwise"].contains n&&vs[0]?==some (rawInt _))=true then _ else _) Q E s
           rw[if_neg (by intro h;rw[hn,Bool.false_and]at h;cases h)]
           exact wpAny_pure hQ))
def GP(lo:Int)(n:Nat):It:=⟨λi _=>i<n,λi H x H'=>H'=H∧x=.int (lo+i),λi _=>n≤i⟩
theorem yX{P:Program}{w:World}{K:aA}{tg:Expr}(it:Addr)(lo:Int)(n:Nat):Turn P w K tg (GP lo n) [it] it (λi h=>IsRangeIter h it (lo+(i:Nat)*1) ((n:Int)-(i:Nat)) 1) where
 mem:=by simp
 obj:=λi h st b hb=>by
  have e:b=it:=by simpa using hb
  subst e
  exact⟨_,st,λv z=>by
   have z':Data.fields _=Data.cell v:=z
   cases z'⟩
 keep:=λi h h' st k=>k it (by simp) _ st
 item:=by
  intro X hP hw hK hc i pins s σ H E I hf st hg
  subst hP hw hK
  obtain⟨f0,f1,f2,f3,f4,f5⟩:=hf it (by simp)
  have W:=Walks.range (prog:=X.prog) (w:=X.w) (I.ok.hd hc) it lo 1 n
  refine W.item i s _ _ hg st λv h' tk hv st' kk=>?_
  obtain⟨t,rfl⟩:=hv
  have I1:Inv X pins σ H {s with heap:=h',toks:=tk}:=I.turned (λb o hb e=>kk b o (by simpa using hb) e) f0 f1 f3 f4 f5
  refine⟨_,rfl,Qv (s:={s with heap:=h',toks:=tk}) (n := "range_iterator") st' rfl rfl (by decide) ⟨.int (lo+i),H,I1,⟨t,?_⟩,⟨rfl,rfl⟩,st',λb hb=>(hf b hb).1⟩⟩
  rw[Int.mul_one]
 done:=by
  intro X hP hw hK hc i pins s σ H E I hf st hg
  subst hP hw hK
  obtain⟨f0,f1,f2,f3,f4,f5⟩:=hf it (by simp)
  exact wpAny_pyNext_range_end (I.ok.hd hc) st (by have:n≤i:=hg;omega) λh' eb=>⟨rfl,I.turned (t':=s.toks) (λb o hb e=>eb b o hb e) f0 f1 f3 f4 f5⟩
 self:=λ_ _ _ _ _ st h=>wpAny_pyIter_rangeiter st h
end L2
namespace L2
open PySem PySem.Spec PyProof.Rows
section
variable{X:Cx}{tg:Expr}
theorem Fw{pins:List (Addr×Obj)}{σ:St}{H:Hp}{s:Shared}{R:It→Hp→Prop}{E:Value→Shared→Prop}{lo hi:Int}{t u v:Tok}{tk:Nat}(I:Inv X pins σ H s)(h1:-(2 ^ 62)≤lo)(h2:lo<2 ^ 62)(h3:-(2 ^ 62)≤hi)(h4:hi<2 ^ 62)
  (q:R (GP lo (hi-lo).toNat) H):wpAny (model X.prog X.w) X.A (pyIter (.ref s.heap.objs.size)) (PIE X pins σ tg R) E {s with heap:=s.heap.push {cls:=.type "range", data:=.fields #[.int lo t,.int hi u,.int 1 v]},toks:=tk}:=by
 refine wpAny_pyIter_range (IsRange.new ..) (small_one h1 h2 h3 h4) ?_
 have I1:Inv X pins σ H {s with heap:=s.heap.push {cls:=.type "range", data:=.fields #[.int lo t,.int hi u,.int 1 v]},toks:=tk}:=I.kept λb o e=>Heap.get?_push_of_some _ e
 refine⟨(s.heap.push {cls:=.type "range", data:=.fields #[.int lo t,.int hi u,.int 1 v]}).objs.size,[(s.heap.push {cls:=.type "range", data:=.fields #[.int lo t,.int hi u,.int 1 v]}).objs.size],_,_,H,rfl,
  I1.kept (t':=tk) λb o e=>Heap.get?_push_of_some _ e,yX _ lo (hi-lo).toNat,?_,λb hb=>?_,q⟩
 ·have e1:lo+((0:Nat):Int)*1=lo:=by simp
  have e2:(((hi-lo).toNat:Nat):Int)-((0:Nat):Int)=Builtin.Range.rangeSize lo hi 1:=by rw[rangeSize_one];split<;>omega
  show IsRangeIter _ _ (lo+((0:Nat):Int)*1) ((((hi-lo).toNat:Nat):Int)-((0:Nat):Int)) 1
  rw[e1,e2]
  exact Heap.get?_push_size _ rfl
 ·have e:b=(s.heap.push {cls:=.type "range", data:=.fields #[.int lo t,.int hi u,.int 1 v]}).objs.size:=by simpa using hb
  subst e
  exact I1.Yo (C0 _) (I1.hok.fresh (C0 _))
def Qw(ta:TA):TI:=λσ H R=>ta σ H λvs H1=>∃j:Int,vs=[.int j]∧-(2 ^ 62)≤j∧j<2 ^ 62∧R (GP 0 j.toNat) H1
theorem Cv{a:Expr}{ta:TA}{p pos:Pos}(hg:Gl X "range") (hm:X.mg "range" = none) (ha:PA X [a] ta) (hs:starEach [a] X.env=[(false,eval a X.env)]:=by rfl):PI X tg (.Call (.Name "range" p) [a] [] pos) (Qw ta):=by
 intro pins s σ H R I h
 refine Call_ (uN I hg hm boot_range (M9 (cV (ha pos pins s σ H _ I h) λus s1 ⟨vs,H1,I1,r1,q1⟩=>?_) hs rfl))
 obtain⟨j,e,q1,q2,q⟩:=q1
 subst e
 cases r1 with
 | cons r rr=>
  cases rr
  obtain⟨t,rfl⟩:=r
  exact call_range_1 (Fw I1 (by omega) (by omega) q1 q2 (by simpa using q))
def Fx(wi:TI)(g:TG)(tb:TS):TS:=λD σ H=>wi σ H λJ H1=>∃W:Nat→Nat→St→Hp→Prop,(∃m,W 0 m σ H1)∧∀i m σ H,W i m σ H →
 (J.stop i H∧D.nx σ H)∨(J.go i H∧∃N:St→Hp→Prop,(∀σ' H',N σ' H'→∃m',m'<m∧W (i+1) m' σ' H')∧∀x H',J.Yn i H x H'→g x σ H' λσ2 H2=>tb {D with nx:=N,ct:=N,bk:=D.nx} σ2 H2)
def qI(fp:List Addr)(h:Heap):List (Addr×Obj):=fp.filterMap λb=>(h.get? b).map λo=>(b,o)
theorem iD{fp:List Addr}{h:Heap}{b:Addr}{o:Obj}(hb:b∈fp)(e:h.get? b=some o):(b,o)∈qI fp h:=R0.mpr ⟨b,hb,by rw[e];rfl⟩
theorem Cw{fp:List Addr}{h:Heap}{p:Addr×Obj}(hp:p∈qI fp h):p.1∈fp∧h.get? p.1=some p.2:=by
 obtain⟨b,hb,e⟩:=R0.mp hp
 cases q:h.get? b with
 | none=>rw[q]at e;cases e
 | some o=>
  rw[q]at e
  have e':(b,o)=p:=D6 e
  subst e'
  exact⟨hb,q⟩
theorem Inv.pinned{pins:List (Addr×Obj)}{σ:St}{H:Hp}{s:Shared}{fp:List Addr}(I:Inv X pins σ H s)(hf:∀b∈fp,sJ X pins H b)(ho:∀b∈fp,∃o,s.heap.get? b=some o∧∀v,o.data≠.cell v):Inv X (pins++qI fp s.heap) σ H s:=
 I.pJ λp hp=>(P0.mp hp).elim (λz=>I.pin p (B7 _ z)) λz=>by
  obtain⟨hb,e⟩:=Cw z
  obtain⟨f0,f1,f2,_⟩:=hf p.1 hb
  obtain⟨o,e',d⟩:=ho p.1 hb
  rw[e]at e';cases e'
  exact⟨e,f0,f1,f2,d⟩
theorem Inv.mK{pins pl:List (Addr×Obj)}{σ:St}{H:Hp}{s:Shared}(I:Inv X (pins++pl) σ H s):Inv X pins σ H s:=I.pJ λp hp=>I.pin p (B7 _ (F2 _ hp))
theorem Fy{iter:Expr}{body:List Stmt}{wi:TI}{g:TG}{tb:TS}{pos:Pos}(hp:PassesOwn (model X.prog X.w) X.A X.env X.xe)(hc:X.calm=true)(hi:PI X tg iter wi)(hg:PG X tg g)(hb:wU X body tb)
  (hs:∀x,foldedSetIterable iter X.env x=pure x:=by intro _;rfl):PS X (.For tg iter body [] pos) (Fx wi g tb):=by
 intro pins s σ H D I h
 refine wpAny_For (cV (hi pins s σ H _ I h) λv s1 h1=>cV h1 λitv s2 h2=>?_) hs
 obtain⟨it,fp,tn,J,H2,e,I2,T,st2,f2,W,⟨m0,w0⟩,turn⟩:=h2
 subst e
 have stat:∀{H':Hp},(∀b∈fp,H' b=none)→∀b∈fp,sJ X pins H' b:=λhn b hb=>⟨hn b hb,(f2 b hb).2⟩
 refine codeAny_forLoop_any (λn s'=>∃i σ' H',Inv X pins σ' H' s'∧tn i s'.heap∧(∀b∈fp,H' b=none)∧W i n σ' H') ?_ m0 ⟨0,σ,H2,I2,st2,λb hb=>(f2 b hb).1,w0⟩
 rintro n s3 ⟨i,σ3,H3,I3,st3,fr3,w3⟩
 rcases turn i n σ3 H3 w3 with ⟨stop,qn⟩ | ⟨go,N,hN,step⟩
 ·refine wpAny_passesOwn hp (cV (T.done X rfl rfl rfl hc i pins s3 σ3 H3 X.xe I3 (stat fr3) st3 stop) λr s4 ⟨hr,I4⟩=>?_)
  subst hr
  exact wpAny_execs_nil ⟨σ3,H3,I4,qn⟩
 ·refine wpAny_passesOwn hp (cV (T.item X rfl rfl rfl hc i pins s3 σ3 H3 X.xe I3 (stat fr3) st3 go) λr s4 ⟨u,hr,h4⟩=>?_)
  subst hr
  refine wpAny_passesOwn hp (cV h4 λ_ s5 ⟨x,H5,I5,r5,y5,st5,fr5⟩=>?_)
  have QX:=I5.pinned (stat fr5) (T.obj _ _ st5)
  refine wpAny_passesOwn hp (cV (hg _ s5 σ3 H5 x u _ QX r5 (step x H5 y5)) λ_ s6 ⟨σ6,H6,I6,q6⟩=>?_)
  refine wpAny_passesOwn hp (cV (hb _ s6 σ6 H6 _ I6 q6) λf s7 q7=>?_)
  have again:∀{σ7:St} {H7:Hp},Inv X (pins++qI fp s5.heap) σ7 H7 s7→N σ7 H7→∃m,m<n∧∃i σ' H',Inv X pins σ' H' s7∧tn i s7.heap∧(∀b∈fp,H' b=none)∧W i m σ' H':=λ{σ7 H7} I7 n7=>by
   obtain⟨m',hm,w7⟩:=hN σ7 H7 n7
   refine⟨m',hm,i+1,σ7,H7,I7.mK,T.keep _ _ _ st5 λb hb o e=>(I7.pin (b,o) (B7 _ (B7 _ (iD hb e)))).1,λb hb=>?_,w7⟩
   obtain⟨o,e,d⟩:=T.obj _ _ st5 b hb
   exact(I7.pin (b,o) (B7 _ (B7 _ (iD hb e)))).2.1
  cases f with
  | next=>obtain⟨σ7,H7,I7,n7⟩:=q7;exact again I7 n7
  | cont=>obtain⟨σ7,H7,I7,n7⟩:=q7;exact again I7 n7
  | brk=>obtain⟨σ7,H7,I7,q7⟩:=q7;exact⟨σ7,H7,I7.mK,q7⟩
  | ret v=>obtain⟨x7,σ7,H7,I7,r7,q7⟩:=q7;exact⟨x7,σ7,H7,I7.mK,r7,q7⟩
end
end L2
namespace L2
open PySem PySem.Spec PyProof.Rows
abbrev R2:=V→V→Hp→VK→Prop
def iB(X:Cx)(f:Value→Value→Sem Value)(r:R2):Prop:=
 ∀(pins:List (Addr×Obj))(s:Shared)(σ:St)(H:Hp)(x y:V)(v u:Value)(Q:VK),Inv X pins σ H s→RelV x v→RelV y u→r x y H Q →
  wpAny (model X.prog X.w) X.A (f v u) (EP X pins σ Q) X.xe s
def IW(X:Cx)(f:Value→Sem Value)(r:V→Hp→VK→Prop):Prop:=
 ∀(pins:List (Addr×Obj))(s:Shared)(σ:St)(H:Hp)(x:V)(v:Value)(Q:VK),Inv X pins σ H s→RelV x v→r x H Q →
  wpAny (model X.prog X.w) X.A (f v) (EP X pins σ Q) X.xe s
def dB(X:Cx)(f:Value)(r:List V→Hp→VK→Prop):Prop:=
 ∀(pins:List (Addr×Obj))(s:Shared)(σ:St)(H:Hp)(xs:List V)(us:List Value)(Q:VK),Inv X pins σ H s→Vals xs us→r xs H Q →
  wpAny (model X.prog X.w) X.A (call f us) (EP X pins σ Q) X.xe s
def wL(r:R2)(ta tb:TE):TE:=λσ H Q=>ta σ H λx H1=>tb σ H1 λy H2=>r x y H2 Q
def JB(r:V→Hp→VK→Prop)(ta:TE):TE:=λσ H Q=>ta σ H λx H1=>r x H1 Q
def rI(C:Int→Int→Prop)(g:Int→Int→V):R2:=λx y H Q=>∃i j,x=.int i∧y=.int j∧C i j∧Q (g i j) H
def Lg(g:Int→Int→V):R2:=λx y H Q=>∃i j,x=.int i∧y=.int j∧Q (g i j) H
def rU(g:Int→V):V→Hp→VK→Prop:=λx H Q=>∃i,x=.int i∧Q (g i) H
section
variable{X:Cx}{a b c:Expr}{ta tb tc:TE}{pos:Pos}
theorem Tt(ha:PE X a ta)(hb:PE X b tb){pins:List (Addr×Obj)}{s:Shared}{σ:St}{H:Hp}{R:V→V→Hp→Prop}(I:Inv X pins σ H s)
  (h:ta σ H λx H1=>tb σ H1 λy H2=>R x y H2) {Q:Value→Shared→Prop} {f:Value→Value→Sem Value}
  (hf:∀v u s2 x y H2,Inv X pins σ H2 s2→RelV x v→RelV y u→R x y H2→wpAny (model X.prog X.w) X.A (f v u) Q X.xe s2) :
  wpAny (model X.prog X.w) X.A (eval a X.env) (λv s₁=>wpAny (model X.prog X.w) X.A (eval b X.env) (λu s₂=>wpAny (model X.prog X.w) X.A (f v u) Q X.xe s₂) X.xe s₁) X.xe s:=by
 refine cV (ha pins s σ H _ I h) λv s1 ⟨x,H1,I1,r1,q1⟩=>?_
 refine cV (hb pins s1 σ H1 _ I1 q1) λu s2 ⟨y,H2,I2,r2,q2⟩=>?_
 exact hf v u s2 x y H2 I2 r1 r2 q2
theorem Qx{op:Operator}{r:R2}(ho:iB X (binaryOp op) r)(ha:PE X a ta)(hb:PE X b tb):PE X (.BinOp a op b pos) (wL r ta tb):=by
 intro pins s σ H Q I h
 exact wpAny_BinOp (Tt ha hb I h λv u s2 x y H2 I2 rx ry q=>ho pins s2 σ H2 x y v u Q I2 rx ry q)
theorem Yp{op:UnaryOp}{r:V→Hp→VK→Prop}(ho:IW X (unaryOp op) r)(ha:PE X a ta):PE X (.UnaryOp op a pos) (JB r ta):=by
 intro pins s σ H Q I h
 exact UnaryOp_ (cV (ha pins s σ H _ I h) λv s1 ⟨x,H1,I1,r1,q1⟩=>ho pins s1 σ H1 x v Q I1 r1 q1)
theorem GQ{f:Value→Value→Sem Value}{C:Int→Int→Prop}{g:Int→Int→Int}
  (rule:∀(i j:Int)(t u:Tok)(s:Shared)(Q:Value→Shared→Prop)(E:Value→Shared→Prop),C i j→Q (.int (g i j) s.toks) {s with toks:=s.toks+1}→wpAny (model X.prog X.w) X.A (f (.int i t) (.int j u)) Q E s) :
  iB X f (rI C λi j=>.int (g i j)):=by
 intro pins s σ H x y v u Q I rx ry h
 obtain⟨i,j,rfl,rfl,hc,q⟩:=h
 obtain⟨t,rfl⟩:=rx
 obtain⟨t',rfl⟩:=ry
 exact rule i j t t' s _ _ hc ⟨.int (g i j),H,I.tok _,⟨_,rfl⟩,q⟩
theorem JC{f:Value→Value→Sem Value}{g:Int→Int→Int}
  (rule:∀(i j:Int)(t u:Tok)(s:Shared)(Q:Value→Shared→Prop)(E:Value→Shared→Prop),Q (.int (g i j) s.toks) {s with toks:=s.toks+1}→wpAny (model X.prog X.w) X.A (f (.int i t) (.int j u)) Q E s) :
  iB X f (Lg λi j=>.int (g i j)):=by
 intro pins s σ H x y v u Q I rx ry h
 obtain⟨i,j,rfl,rfl,q⟩:=h
 obtain⟨t,rfl⟩:=rx
 obtain⟨t',rfl⟩:=ry
 exact rule i j t t' s _ _ ⟨.int (g i j),H,I.tok _,⟨_,rfl⟩,q⟩
theorem Tu{f:Value→Value→Sem Value}{g:Int→Int→Bool}
  (rule:∀(i j:Int)(t u:Tok)(s:Shared)(Q:Value→Shared→Prop)(E:Value→Shared→Prop),Q (.bool (g i j)) s→wpAny (model X.prog X.w) X.A (f (.int i t) (.int j u)) Q E s) :
  iB X f (Lg λi j=>.bl (g i j)):=by
 intro pins s σ H x y v u Q I rx ry h
 obtain⟨i,j,rfl,rfl,q⟩:=h
 obtain⟨t,rfl⟩:=rx
 obtain⟨t',rfl⟩:=ry
 exact rule i j t t' s _ _ ⟨.bl (g i j),H,I,rfl,q⟩
def Cy(i j:Int):Prop:=0<j∧j<1073741824
def Cz(i j:Int):Prop:=0≤j∧j≤1000000∧i.natAbs<2 ^ 64
def sO(i j:Int):Prop:=(-(2 ^ 64)<i∧i<2 ^ 64)∨(-(2 ^ 64)<j∧j<2 ^ 64)
theorem sO.ok{i j:Int}(h:sO i j):IntMulOk i j:=by
 rcases h with ⟨h1,h2⟩ | ⟨h1,h2⟩
 ·exact .of_left (intBits_le_64 h1 h2)
 ·exact .of_right (intBits_le_64 h1 h2)
theorem yZ:iB X (binaryOp .Add) (Lg λi j=>.int (i+j)):=JC λ_ _ _ _ _ _ _ q=>add_int q
theorem Tv:iB X (binaryOp .Mult) (rI sO λi j=>.int (i*j)):=GQ λ_ _ _ _ _ _ _ hc q=>mul_int q hc.ok
theorem Lh:iB X (binaryOp .FloorDiv) (rI Cy λi j=>.int (i/j)):=GQ λi j _ _ _ _ _ hc q=>by
 have h1:(0:Int)<j:=hc.1
 have h2:j<1073741824:=hc.2
 exact floordiv_int (by omega) (by rw[Int.fdiv_eq_ediv_of_nonneg i (by omega)];exact q) (.inl (PyProof.noPylong_small (by omega)))
theorem Tw:iB X (binaryOp .Mod) (rI (λ_ j=>0<j) λi j=>.int (i%j)):=GQ λi j _ _ _ _ _ hc q=>by
 have h1:(0:Int)<j:=hc
 exact mod_int' (by omega) (by rw[Int.fmod_eq_emod_of_nonneg i (by omega)];exact q)
theorem Tz:iB X (binaryOp .Pow) (rI Cz λi j=>.int (i ^ j.toNat)):=GQ λ_ _ _ _ _ _ _ hc q=>pow_int_small hc.1 hc.2.1 hc.2.2 q
theorem QZ{f:Value→Sem Value}{g:Int→Int}
  (rule:∀(i:Int)(t:Tok)(s:Shared)(Q:Value→Shared→Prop)(E:Value→Shared→Prop),Q (.int (g i) s.toks) {s with toks:=s.toks+1}→wpAny (model X.prog X.w) X.A (f (.int i t)) Q E s) :
  IW X f (rU λi=>.int (g i)):=by
 intro pins s σ H x v Q I rx h
 obtain⟨i,rfl,q⟩:=h
 obtain⟨t,rfl⟩:=rx
 exact rule i t s _ _ ⟨.int (g i),H,I.tok _,⟨_,rfl⟩,q⟩
theorem Ua:IW X (unaryOp .USub) (rU λi=>.int (-i)):=QZ λ_ _ _ _ _ q=>neg_int q
end
def wW:V→V→Bool
  | .non,.non=>true | .non,.int _=>true | .int _,.non=>true | .non,.bl _=>true | .bl _,.non=>true | .non,.str _=>true | .str _,.non=>true
  | .int _,.int _=>true | .bl _,.bl _=>true | .str _,.str _=>true | .byt _,.byt _=>true
  | .int _,.str _=>true | .str _,.int _=>true | .bl _,.str _=>true | .str _,.bl _=>true
  | _,_=>false
def JD:R2:=λx y H Q=>wW x y=true∧Q (.bl (decide (x=y))) H
def NZ:R2:=λx y H Q=>wW x y=true∧Q (.bl (!decide (x=y))) H
theorem Av{i j:Int}:decide (V.int i=V.int j)=(i==j):=by
 rw[F6]
 simp
theorem Fz{i j:Bool}:decide (V.bl i=V.bl j)=(i==j):=by
 rw[F6]
 simp
theorem pK{i j:Str}:decide (V.str i=V.str j)=(i==j):=by
 rw[F6]
 simp
theorem Aw{i j:Array UInt8}:decide (V.byt i=V.byt j)=(i.toList==j.toList):=by
 rw[F6]
 cases i
 cases j
 simp
section
variable{X:Cx}{a b c:Expr}{ta tb tc:TE}{pos:Pos}
theorem aV{pins:List (Addr×Obj)}{σ:St}{H:Hp}{s:Shared}{Q:VK}{k k':Bool}(I:Inv X pins σ H s)(q:Q (.bl k) H)(e:k=k'):EP X pins σ Q (.bool k') s:=by
 subst e
 exact⟨.bl k,H,I,rfl,q⟩
theorem Yq:iB X (compareOp .Eq) JD:=by
 intro pins s σ H x y v u Q I rx ry h
 obtain⟨hs,q⟩:=h
 cases x with
 | non=>
  cases rx
  cases y with
  | non=>cases ry;exact PySem.EqNone.eq_none_none (aV I q (by simp))
  | bl j=>cases ry;exact PySem.EqNone.eq_none_bool (aV I q (by simp))
  | int j=>obtain⟨t',rfl⟩:=ry;exact PySem.EqNone.eq_none_int (aV I q (by simp))
  | str j=>obtain⟨t',rfl⟩:=ry;exact PySem.EqNone.eq_none_str (aV I q (by simp))
  | _=>exact absurd (show false=true from hs) B8
 | bl i=>
  cases rx
  cases y with
  | non=>cases ry;exact PySem.EqNone.eq_bool_none (aV I q (by simp))
  | bl j=>cases ry;exact eq_bool (aV I q Fz)
  | str j=>obtain⟨t',rfl⟩:=ry;exact PySem.EqMixed.eq_bool_str (aV I q (by simp))
  | _=>exact absurd (show false=true from hs) B8
 | int i=>
  obtain⟨t,rfl⟩:=rx
  cases y with
  | non=>cases ry;exact PySem.EqNone.eq_int_none (aV I q (by simp))
  | int j=>obtain⟨t',rfl⟩:=ry;exact eq_int (aV I q Av)
  | str j=>obtain⟨t',rfl⟩:=ry;exact PySem.EqMixed.eq_int_str (aV I q (by simp))
  | _=>exact absurd (show false=true from hs) B8
 | str i=>
  obtain⟨t,rfl⟩:=rx
  cases y with
  | non=>cases ry;exact PySem.EqNone.eq_str_none (aV I q (by simp))
  | bl j=>cases ry;exact PySem.EqMixed.eq_str_bool (aV I q (by simp))
  | int j=>obtain⟨t',rfl⟩:=ry;exact PySem.EqMixed.eq_str_int (aV I q (by simp))
  | str j=>obtain⟨t',rfl⟩:=ry;exact eq_str (aV I q pK)
  | _=>exact absurd (show false=true from hs) B8
 | byt i=>
  obtain⟨t,rfl⟩:=rx
  cases y with
  | byt j=>obtain⟨t',rfl⟩:=ry;exact PySem.W.eq_bytes (aV I q Aw)
  | _=>exact absurd (show false=true from hs) B8
 | _=>cases y<;>exact absurd (show false=true from hs) B8
theorem Yr:iB X (compareOp .NotEq) NZ:=by
 intro pins s σ H x y v u Q I rx ry h
 obtain⟨hs,q⟩:=h
 cases x with
 | non=>
  cases rx
  cases y with
  | non=>cases ry;exact PySem.EqNone.ne_none_none (aV I q (by simp))
  | bl j=>cases ry;exact PySem.EqNone.ne_none_bool (aV I q (by simp))
  | int j=>obtain⟨t',rfl⟩:=ry;exact PySem.EqNone.ne_none_int (aV I q (by simp))
  | str j=>obtain⟨t',rfl⟩:=ry;exact PySem.EqNone.ne_none_str (aV I q (by simp))
  | _=>exact absurd (show false=true from hs) B8
 | bl i=>
  cases rx
  cases y with
  | non=>cases ry;exact PySem.EqNone.ne_bool_none (aV I q (by simp))
  | bl j=>cases ry;exact ne_bool (aV I q (congrArg not Fz))
  | str j=>obtain⟨t',rfl⟩:=ry;exact PySem.EqMixed.ne_bool_str (aV I q (by simp))
  | _=>exact absurd (show false=true from hs) B8
 | int i=>
  obtain⟨t,rfl⟩:=rx
  cases y with
  | non=>cases ry;exact PySem.EqNone.ne_int_none (aV I q (by simp))
  | int j=>obtain⟨t',rfl⟩:=ry;exact ne_int (aV I q (congrArg not Av))
  | str j=>obtain⟨t',rfl⟩:=ry;exact PySem.EqMixed.ne_int_str (aV I q (by simp))
  | _=>exact absurd (show false=true from hs) B8
 | str i=>
  obtain⟨t,rfl⟩:=rx
  cases y with
  | non=>cases ry;exact PySem.EqNone.ne_str_none (aV I q (by simp))
  | bl j=>cases ry;exact PySem.EqMixed.ne_str_bool (aV I q (by simp))
  | int j=>obtain⟨t',rfl⟩:=ry;exact PySem.EqMixed.ne_str_int (aV I q (by simp))
  | str j=>obtain⟨t',rfl⟩:=ry;exact ne_str (aV I q (congrArg not pK))
  | _=>exact absurd (show false=true from hs) B8
 | byt i=>
  obtain⟨t,rfl⟩:=rx
  cases y with
  | byt j=>obtain⟨t',rfl⟩:=ry;exact PySem.W.ne_bytes (aV I q (congrArg not Aw))
  | _=>exact absurd (show false=true from hs) B8
 | _=>cases y<;>exact absurd (show false=true from hs) B8
theorem tH:iB X (compareOp .Lt) (Lg λi j=>.bl (decide (i<j))):=Tu λ_ _ _ _ _ _ _ q=>lt_int q
theorem Qy:iB X (compareOp .LtE) (Lg λi j=>.bl (decide (i≤j))):=Tu λ_ _ _ _ _ _ _ q=>le_int q
theorem Ys:iB X (compareOp .Gt) (Lg λi j=>.bl (decide (j<i))):=Tu λ_ _ _ _ _ _ _ q=>gt_int q
theorem Dc:iB X (compareOp .In) (λx y H Q=>∃i j,x=.str i∧y=.str j∧Q (.bl (!(Builtin.Str.occurrences j i 0 j.length 1).isEmpty)) H):=by
 intro pins s σ H x y v u Q I rx ry h
 obtain⟨i,j,rfl,rfl,q⟩:=h
 obtain⟨t,rfl⟩:=rx
 obtain⟨t',rfl⟩:=ry
 exact in_str (aV I q rfl)
theorem Ub:iB X (compareOp .Is) (λx y H Q=>y=.non∧Q (.bl (decide (x=.non))) H):=by
 intro pins s σ H x y v u Q I rx ry h
 obtain⟨rfl,q⟩:=h
 cases ry
 refine is_none_gen (aV I q ?_)
 cases x<;>first
  | (cases rx;rfl)
  | (obtain⟨t,rfl⟩:=rx;rfl)
theorem iB.or{f:Value→Value→Sem Value}{r r':R2}(h:iB X f r)(h':iB X f r'):iB X f (λx y H Q=>r x y H Q∨r' x y H Q):=by
 intro pins s σ H x y v u Q I rx ry q
 rcases q with q | q
 ·exact h pins s σ H x y v u Q I rx ry q
 ·exact h' pins s σ H x y v u Q I rx ry q
theorem bQ(b:Expr){op:CmpOp}(h:op≠.In:=by decide)(h2:op≠.NotIn:=by decide):behindInMarks op b=false:=by
 have e1:(op==CmpOp.In)=false:=by cases op<;>first | rfl | exact absurd rfl h
 have e2:(op==CmpOp.NotIn)=false:=by cases op<;>first | rfl | exact absurd rfl h2
 cases b<;>simp[behindInMarks,e1,e2]
theorem Li{op:CmpOp}{r:R2}(ho:iB X (compareOp op) r)(ha:PE X a ta)(hb:PE X b tb)(hm:behindInMarks op b=false):PE X (.Compare a [op] [b] pos) (wL r ta tb):=by
 intro pins s σ H Q I h
 exact wpAny_Compare1 (Tt ha hb I h λv u s2 x y H2 I2 rx ry q=>ho pins s2 σ H2 x y v u Q I2 rx ry q) hm
def wX(t:TE):TT:=λσ H Q=>t σ H λx H'=>∃k,x=.bl k∧Q k H'
theorem Lj{op:CmpOp}{r:R2}(ho:iB X (compareOp op) r)(ha:PE X a ta)(hb:PE X b tb)(hm:behindInMarks op b=false):PT X (.Compare a [op] [b] pos) (wX (wL r ta tb)):=by
 intro pins s σ H Q I h
 refine wpAny_isTrue_Compare1 (cV (ha pins s σ H _ I h) λv s1 ⟨x,H1,I1,r1,q1⟩=>cV (hb pins s1 σ H1 _ I1 q1) λu s2 ⟨y,H2,I2,r2,q2⟩=>
  cV (ho pins s2 σ H2 x y v u _ I2 r1 r2 q2) λc s3 ⟨z,H3,I3,r3,k,e,q3⟩=>?_) hm
 subst e
 cases r3
 exact wpAny_truthy_bool ⟨H3,I3,q3⟩
def Ga(r r':R2)(ta tb tc:TE):TE:=λσ H Q=>ta σ H λx H1=>tb σ H1 λy H2=>r x y H2 λz H3=>∃k,z=.bl k ∧
 (if k=true then tc σ H3 λw' H4=>r' y w' H4 Q else Q (.bl false) H3)
theorem Gb{op op':CmpOp}{r r':R2}(ho:iB X (compareOp op) r)(ho':iB X (compareOp op') r')(ha:PE X a ta)(hb:PE X b tb)(hc:PE X c tc)
  (hm:lastMarks [op,op'] [b,c]=false:=by with_unfolding_all rfl):PT X (.Compare a [op,op'] [b,c] pos) (wX (Ga r r' ta tb tc)):=by
 intro pins s σ H Q I h
 refine isTrue_chain (cV (ha pins s σ H _ I h) λv s1 ⟨x,H1,I1,r1,q1⟩=>test_link (cV (hb pins s1 σ H1 _ I1 q1) λu s2 ⟨y,H2,I2,r2,q2⟩=>
  cV (ho pins s2 σ H2 x y v u _ I2 r1 r2 q2) λd s3 ⟨z,H3,I3,r3,k,e,q3⟩=>?_)) hm
 subst e
 cases r3
 refine wpAny_truthy_bool ?_
 cases k with
 | false=>
  obtain⟨k',e',q'⟩:=q3
  cases e'
  exact ite_ff ⟨H3,I3,q'⟩
 | true=>
  refine ite_tt (test_last (cV (hc pins s3 σ H3 _ I3 q3) λw' s4 ⟨z',H4,I4,r4,q4⟩=>cV (ho' pins s4 σ H4 y z' u w' _ I4 r2 r4 q4) λd' s5 ⟨z2,H5,I5,r5,k2,e2,q5⟩=>?_))
  subst e2
  cases r5
  exact wpAny_truthy_bool ⟨H5,I5,q5⟩
theorem qJ:(sizeLine:Nat)<2 ^ 63:=by rw[sizeLine_eq];decide
theorem zA:iB X (binaryOp .Add) (λx y H Q=>∃i j,x=.str i∧y=.str j∧i.length+j.length≤sizeLine∧Q (.str (i++j)) H):=by
 intro pins s σ H x y v u Q I rx ry h
 obtain⟨i,j,rfl,rfl,hz,q⟩:=h
 obtain⟨t,rfl⟩:=rx
 obtain⟨t',rfl⟩:=ry
 exact add_str (λt' tk=>⟨.str (i++j),H,I.tok _,⟨_,rfl⟩,q⟩) hz
theorem vals1{x:V}{us:List Value}(r:Vals [x] us):∃u,us=[u]∧RelV x u:=by
 cases r with
 | cons r1 r2=>cases r2;exact⟨_,rfl,r1⟩
theorem vals2{x y:V}{us:List Value}(r:Vals [x,y] us):∃u w',us=[u,w']∧RelV x u∧RelV y w':=by
 cases r with
 | cons r1 r2=>
  cases r2 with
  | cons r3 r4=>cases r4;exact⟨_,_,rfl,r1,r3⟩
theorem Dd(hc:X.calm=true):dB X (.builtin "min") (λxs H Q=>∃i j,xs=[.int i,.int j]∧Q (.int (if j<i then j else i)) H):=by
 intro pins s σ H xs us Q I r h
 obtain⟨i,j,rfl,q⟩:=h
 obtain⟨u,w',rfl,⟨t,rfl⟩,⟨t',rfl⟩⟩:=vals2 r
 refine min_two_ints (I.ok.hd hc) λh' tk k=>⟨_,H,I.kept k,?_,q⟩
 by_cases hj:j<i
 ·rw[if_pos hj,if_pos hj];exact⟨_,rfl⟩
 ·rw[if_neg hj,if_neg hj];exact⟨_,rfl⟩
theorem uO:dB X (.type "str") (λxs H Q=>∃i,xs=[.int i]∧i.natAbs.log2<1920∧Q (.str (toString i)) H):=by
 intro pins s σ H xs us Q I r h
 obtain⟨i,rfl,hz,q⟩:=h
 obtain⟨u,rfl,t,rfl⟩:=vals1 r
 exact PySem.P.str_of_int hz ⟨.str _,H,I.tok _,⟨_,rfl⟩,q⟩
end
end L2
namespace L2
open PySem PySem.Spec PyProof.Rows
structure Uc(h:Heap)(x dx C:Addr)(mA:Str→Option Value):Prop where
 obj:h.get? x=some (O9 C dx)
 ns:h.Ns1 dx mA
 ne:dx≠x
theorem De{h:Heap}{dx:Addr}{mA:Str→Option Value}(n:h.Ns1 dx mA):∃od,h.get? dx=some od∧∀name,P8 name od=some (mA name):=by
 obtain⟨o,es,ep,ho,hd,hk,_,hm⟩:=n
 refine⟨o,ho,λname=>?_⟩
 have e:=hm name
 unfold nsFind findBy at e
 rw[←Array.find?_toList]at e
 unfold P8
 rw[hd]
 dsimp only
 split
 ·rename_i y q
  rw[q]at e
  exact congrArg some e
 ·rename_i q
  rw[q]at e
  have a:es.toList.any (·.refKey)=false:=by
   rw[List.any_eq_false]
   intro y hy
   obtain⟨z,t,hkey⟩:=hk y (Array.mem_toList_iff.mp hy)
   simp[DictEntry.refKey,hkey]
  have a':¬es.toList.any (·.refKey)=true:=by rw[a];exact B8
  rw[if_neg a']
  exact congrArg some e
theorem Uc.look{h:Heap}{x dx C:Addr}{mA:Str→Option Value}(I:Uc h x dx C mA):∃od,PySem.W.InstAt h x (O9 C dx) C (some od)∧∀name,P8 name od=some (mA name):=
 let ⟨od,ho,hl⟩:=De I.ns
 ⟨od,⟨I.obj,rfl,rfl,ho⟩,hl⟩
section
variable{prog:Program}{w:World}{A:Around}{E:Value→Shared→Prop}{s:Shared}{K:aA}{x dx C f:Addr}{mA:Str→Option Value}{name:Str}{v:Value}
end
section
variable{P:Program}{w:World}{H H':Hp}{h h':Heap}{a C dx:Addr}{fs fs':List (Str×V)}
theorem Lk(hok:jY P w H h)(e:H a=some (.ins C dx fs)):∃mA,Uc h a dx C mA∧(∀f,Sv (fs.lookup f) (mA f))∧T7 mA (fs.map (·.1))∧fs.length≤1000∧H dx=some (.own a):=by
 obtain⟨d,z,ne,ob,mA,n,r,q⟩:=(show cG P w H h a (.ins C dx fs)from hok a _ e)
 exact⟨mA,⟨ob,n,ne⟩,r,q,z,d⟩
end
structure GR(K:aA)(C:Addr):Prop where
 pg:R8 K C Str.empty=true
 hd:PySem.W.hasDictIn K C=true
 po:PySem.W.plainOver K C=true
 sa:F0 K (.ref C) "__setattr__" = some (some (.builtin "object.__setattr__"))
theorem GR.get{K:aA}{C:Addr}(c:GR K C)(f:Str):R8 K C f=true:=c.pg
def Ud(K:aA)(C:Addr)(f:Str):Prop:=F0 K (.ref C) f=some none
structure VG(K:aA)(C:Addr)(f:Str)(v:V)(u:Value):Prop where
 at_:F0 K (.ref C) f=some (some u)
 rel:RelV v u
 get:L7 K u "__get__" = some none
 cp:PySem.W.copiedNames.contains f=false
structure Meth(K:aA)(C:Addr)(m:Str)(f:Addr):Prop where
 at_:F0 K (.ref C) m=some (some (.ref f))
 fn:T9 K (.ref f)=true
 kp:G1 K (.ref f)=true
section
variable{X:Cx}{pins:List (Addr×Obj)}{σ:St}{H:Hp}{s:Shared}{a C dx:Addr}{fs:List (Str×V)}{f:Str}{v:V}{A:Around}{E:Value→Shared→Prop}
end
section
variable{X:Cx}{o e value:Expr}{f:Str}{pos pos' tpos:Pos}{ta tv:TE}
end
section
variable{X:Cx}{pins:List (Addr×Obj)}{σ:St}{H:Hp}{s:Shared}{A:Around}{E:Value→Shared→Prop}{Q:Value→Shared→Prop}{c:Value}{b:Bool}
inductive pD(K:aA)(H:Hp):V→Value→Prop where
 | non:pD K H .non (.type "NoneType")
 | bl (x:Bool):pD K H (.bl x) (.type "bool")
 | int (i:Int):pD K H (.int i) (.type "int")
 | str (x:Str):pD K H (.str x) (.type "str")
 | flt (x:UInt64):pD K H (.flt x) (.type "float")
 | lst {a:Addr} {xs:List V} (e:H a=some (.lst xs)):pD K H (.ref a) (.type "list")
 | nR {a:Addr} {o:Obj} {xs:List V} (e:H a=some (.nR o (.lst xs))):pD K H (.ref a) (.type "list")
 | tup {a:Addr} {xs:List V} (e:H a=some (.tup xs)):pD K H (.ref a) (.type "tuple")
 | dK {a:Addr} {kvs:List (Key×V)} (e:H a=some (.dK kvs)):pD K H (.ref a) (.type "dict")
 | dT {a:Addr} {kvs:List (List Key×V)} (e:H a=some (.dT kvs)):pD K H (.ref a) (.type "dict")
 | ins {a C dx:Addr} {fs:List (Str×V)} (e:H a=some (.ins C dx fs)) (cl:GR K C) (ha:F0 K (.ref C) "__class__" = some (some (.builtin "object.__class__")))
   (hn:L7 K (.builtin "object.__class__") "__get__" = some (some (.builtin "getset_descriptor.__get__"))) (htk:P1 K (.builtin "object.__class__")=some true)
   (hm:L9 K C (.type "object")=some true):pD K H (.ref a) (.ref C)
theorem kE{x:V}{u t:Value}(I:Inv X pins σ H s)(rx:RelV x u)(ty:pD X.K H x t)(e:L5 X.K t c=some b)(h:∀tk,Q (.bool b) {s with toks:=tk}) :
  wpAny (model X.prog X.w) A (call (.builtin "isinstance") [u,c]) Q E s:=by
 cases ty with
 | non=>cases(show u=Value.none from rx);exact C6 PySem.W.kitx_none I.lZ True.intro e (λz=>nomatch z) h
 | bl y=>cases(show u=Value.bool y from rx);exact C6 PySem.W.kitx_bool I.lZ True.intro e (λz=>nomatch z) h
 | int i=>obtain⟨t,q⟩:=(show ∃t,u=Value.int i t from rx);cases q;exact C6 PySem.W.kitx_int I.lZ True.intro e (λz=>nomatch z) h
 | str y=>obtain⟨t,q⟩:=(show ∃t,u=Value.str y t from rx);cases q;exact C6 PySem.W.kitx_str I.lZ True.intro e (λz=>nomatch z) h
 | flt y=>obtain⟨t,q⟩:=(show ∃t,u=Value.float y t from rx);cases q;exact C6 PySem.W.kitx_float I.lZ True.intro e (λz=>nomatch z) h
 | @lst a xs ea=>
  cases(show u=Value.ref a from rx)
  obtain⟨_,_,n,_,h1⟩:=(show cG X.prog X.w H s.heap a (.lst xs)from I.hok a _ ea)
  exact C6 N4 I.lZ ⟨_,h1,rfl⟩ e (λz=>nomatch z) h
 | @nR a ob xs ea=>
  cases(show u=Value.ref a from rx)
  obtain⟨_,_,_,n,_,h1⟩:=(show cG X.prog X.w H s.heap a (.nR ob (.lst xs))from I.hok a _ ea)
  exact C6 N4 I.lZ ⟨_,h1,rfl⟩ e (λz=>nomatch z) h
 | @tup a xs ea=>
  cases(show u=Value.ref a from rx)
  obtain⟨_,_,_,p⟩:=(show cG X.prog X.w H s.heap a (.tup xs)from I.hok a _ ea)
  obtain⟨o,h1,h2,_⟩:=p
  exact C6 R1 I.lZ ⟨o,h1,h2⟩ e (λz=>nomatch z) h
 | @dK a kvs ea=>
  cases(show u=Value.ref a from rx)
  obtain⟨_,_,vs,_,p⟩:=(show cG X.prog X.w H s.heap a (.dK kvs)from I.hok a _ ea)
  obtain⟨o,es,ep,h1,h2,_⟩:=p
  exact C6 N5 I.lZ ⟨o,h1,h2.1⟩ e (λz=>nomatch z) h
 | @dT a kvs ea=>
  cases(show u=Value.ref a from rx)
  obtain⟨_,_,xs,_,o,es,ep,h1,h2,_⟩:=(show cG X.prog X.w H s.heap a (.dT kvs)from I.hok a _ ea)
  exact C6 N5 I.lZ ⟨o,h1,h2.1⟩ e (λz=>nomatch z) h
 | @ins a C dx fs ea cl ha hn htk hm=>
  cases(show u=Value.ref a from rx)
  obtain⟨mA,O,_⟩:=Lk I.hok ea
  obtain⟨od,J,_⟩:=O.look
  exact C6 (PySem.W.kitx_own (cl.get _) cl.hd ha hn htk hm) I.lZ J e (λz=>nomatch z) h
end
end L2
namespace L2
open PySem PySem.Spec PyProof.Rows
structure eN(k:Nat)(A:Around):Prop where
 hd:A.handled=none
 dp:A.depth+3*k+5<recursionLimit
 un:A.units+16*k+200<cLine
theorem eN.mono{j k:Nat}{A:Around}(r:eN k A)(h:j≤k):eN j A:=⟨r.hd,by have:=r.dp;omega,by have:=r.un;omega⟩
theorem eN.deeper{k:Nat}{A:Around}(r:eN (k+1) A)(env:Env):eN k (A.deeper env):=
 ⟨r.hd,by have:=r.dp;show A.depth+1+3*k+5<_;omega,by have:=r.un;show A.units+3+16*k+200<_;omega⟩
theorem eN.depth{k:Nat}{A:Around}(r:eN k A):A.depth<recursionLimit:=by have:=r.dp;omega
theorem eN.units{k:Nat}{A:Around}(r:eN k A):A.units+64<cLine:=by have:=r.un;omega
def kZ:TA:=λ_ H Q=>Q [] H
def cZ(ta:TE)(tr:TA):TA:=λσ H Q=>ta σ H λx H1=>tr σ H1 λxs H2=>Q (x::xs) H2
section
variable{X:Cx}{e:Expr}{es:List Expr}{te:TE}{t:TA}{pos:Pos}
theorem dU:PA X [] kZ:=λ_ _ _ _ H Q I h=>Calls.spliced_nil ⟨[],H,I,.nil,h⟩
theorem aX(ha:PE X e te)(hr:PA X es t)(hs:starEach (e::es) X.env=(false,eval e X.env)::starEach es X.env:=by rfl):PA X (e::es) (cZ te t):=by
 intro pos pins s σ H Q I h
 rw[hs]
 show wpAny _ _ (spliced ((false,eval e X.env)::backTo pos (starEach es X.env))) _ _ s
 refine Calls.spliced_cons (cV (ha pins s σ H _ I h) λu s1 ⟨x,H1,I1,r1,q1⟩=>?_)
 exact cV (hr pos pins s1 σ H1 _ I1 q1) λus s2 ⟨xs,H2,I2,r2,q2⟩=>⟨x::xs,H2,I2,.cons r1 r2,q2⟩
def wY(t:TA):TE:=λσ H Q=>t σ H λxs H1=>xs.length≤sizeLine∧∀p,H1 p=none→Q (.ref p) (upd H1 p (.tup xs))
def Df(t:TA):TE:=λσ H Q=>t σ H λxs H1=>xs.length≤sizeLine∧∀p,H1 p=none→Q (.ref p) (upd H1 p (.lst xs))
theorem qK{x1}(h:PA X es t):PE X (.Tuple es x1 pos) (wY t):=by
 intro pins s σ H Q I hq
 refine wpAny_Tuple_spliced (cV (h pos pins s σ H _ I hq) λus s1 ⟨xs,H1,I1,r,z,q⟩=>⟨by rw[←r.length];exact z,?_⟩)
 have hf:H1 s1.heap.objs.size=none:=I1.hok.fresh (C0 _)
 refine⟨.ref s1.heap.objs.size,upd H1 s1.heap.objs.size (.tup xs),I1.laid (t':=s1.toks) (λb u e=>Heap.get?_push_of_some _ e) (C0 _) ?_,rfl,q _ hf⟩
 exact⟨z,us,r,⟨_,Heap.get?_push_size _ rfl,rfl,_,rfl⟩⟩
theorem zB(h:PA X es t):PE X (.List es pos) (Df t):=by
 intro pins s σ H Q I hq
 refine wpAny_List_spliced (cV (h pos pins s σ H _ I hq) λus s1 ⟨xs,H1,I1,r,z,q⟩=>⟨by rw[←r.length];exact z,?_⟩)
 have hf:H1 s1.heap.objs.size=none:=I1.hok.fresh (C0 _)
 refine⟨.ref s1.heap.objs.size,upd H1 s1.heap.objs.size (.lst xs),I1.laid (t':=s1.toks) (λb u e=>Heap.get?_push_of_some _ e) (C0 _) ?_,rfl,q _ hf⟩
 exact⟨z,us,0,r,Heap.get?_push_size _ rfl⟩
end
abbrev Sp:=List V→Hp→VK→XK→Prop
abbrev zF:=List Env→Hp→Shared→XK→Value→Shared→Prop
structure Ln(P:Program)(w:World)(K:aA)(mg:Str→Option Value)(base:Heap)(A:Around)(outer:List Env)(s:Shared)(H:Hp):Prop where
 frames:A.frames=some outer
 mod:Mod K mg base
 bs:∀b o,base.get? b=some o→s.heap.get? b=some o∧H b=none
 Ez:base.objs.size≤s.heap.objs.size
 kY:s.heap.FunFrames base outer
 Kq:∀b∈frs outer,H b=none
 hok:jY P w H s.heap
 bare:AllBare s.gens
def CE(outer:List Env)(P:Program)(w:World)(H:Hp)(s:Shared)(Q:VK)(u:Value)(s':Shared):Prop:=
 ∃v H',s'.os=s.os∧AllBare s'.gens∧Un (frs outer) [] H H' s.heap s'.heap∧jY P w H' s'.heap∧RelV v u∧Q v H'
def CR(CX:zF)(outer:List Env)(P:Program)(w:World)(H:Hp)(s:Shared)(Q:VK)(E:XK)(r:Result)(s':Shared):Prop:=
 match r with
 | .ok (.ret u)=>CE outer P w H s Q u s'
 | .ok _=>False
 | .error e=>CX outer H s E e s'
structure mL(P:Program)(w:World)(K:aA)(mg:Str→Option Value)(base:Heap)(CX:zF)(k:Nat)(f:Addr)(fd:FuncData)(ps:List Str)(sp:Sp):Prop where
 len:∀vs H Q E,sp vs H Q E→vs.length=ps.length
 run:∀(A:Around)(outer:List Env)(s:Shared)(H:Hp)(args:Args)(us:List Value)(vs:List V)(Q:VK)(E:XK),eN k A→Ln P w K mg base A outer s H→BindsTo s fd args (ps.zip us)→Vals vs us→sp vs H Q E →
  codeAny (model P w) A (.call (.ref f) args) (CR CX outer P w H s Q E) s
section
variable{X:Cx}{pins:List (Addr×Obj)}{σ:St}{H:Hp}{s s':Shared}
theorem Inv.env0(I:Inv X pins σ H s):Ln X.prog X.w X.K X.mg X.base X.A X.stack s H:=
 ⟨I.ok.frames,I.ok.mod,I.bs,F4 I.ok.Ez I.sz,I.stack,I.uM,I.hok,I.bare⟩
theorem Inv.after{Q:VK}{u:Value}(I:Inv X pins σ H s)(h:CE X.stack X.prog X.w H s Q u s'):EP X pins σ Q u s':=by
 obtain⟨v,H',os,bare,un,hok,r,q⟩:=h
 obtain⟨hh,g,d,t,os'⟩:=s'
 obtain rfl:os'=s.os:=os
 exact⟨v,H',I.call (h':=hh) (g':=g) (d':=d) (t':=t) (ch:=[]) un hok bare (λb z=>absurd z (by simp)),r,q⟩
end
def tK(sp:Sp)(Dg:List V)(E:XK)(t:TA):TE:=λσ H Q=>t σ H λvs H1=>sp (vs++Dg) H1 Q E
def Binds(K:aA)(fd:FuncData)(ps:List Str)(ds:List Value):Prop:=
 ∀(s:Shared)(us:List Value),K.In s.heap→(us++ds).length=ps.length→BindsTo s fd ⟨us,[]⟩ (ps.zip (us++ds))
theorem Binds.all{K:aA}{fd:FuncData}{ps:List Str}(h:∀us:List Value,us.length=ps.length→bindArgs fd ⟨us,[]⟩=pure (ps.zip us)):Binds K fd ps []:=λs us _ hl=>by
 rw[P2]at hl ⊢
 exact .of_eq (h us hl)
def Passes(CX:zF)(X:Cx)(E:XK):Prop:=∀(pins:List (Addr×Obj))(σ:St)(H:Hp)(s:Shared)(e:Value)(s':Shared),Inv X pins σ H s→CX X.stack H s E e s'→X.xe e s'
section
variable{X:Cx}{CX:zF}{k:Nat}{f C:Addr}{fd:FuncData}{ps:List Str}{sp:Sp}{Dg:List V}{ds:List Value}{E:XK}{x m:Str}{p pos apos:Pos}{e o:Expr}{es:List Expr}{ta:TE}{t:TA}
theorem Ue{pins:List (Addr×Obj)}{σ:St}{H:Hp}{s:Shared}{Q:VK}{us:List Value}{vs:List V}(F:mL X.prog X.w X.K X.mg X.base CX k f fd ps sp)(hr:eN k X.A)(hb:Binds X.K fd ps ds)(hd:Vals Dg ds)(hx:Passes CX X E)
  (I:Inv X pins σ H s) (r:Vals vs us) (h:sp (vs++Dg) H Q E):wpAny (model X.prog X.w) X.A (call (.ref f) us) (EP X pins σ Q) X.xe s:=by
 have r2:Vals (vs++Dg) (us++ds):=r.append hd
 have hl:(us++ds).length=ps.length:=by rw[←r2.length];exact F.len _ _ _ _ h
 refine wpAny_call (codeAny_mono (F.run X.A X.stack s H ⟨us,[]⟩ (us++ds) (vs++Dg) Q E hr I.env0 (hb s us I.lZ hl) r2 h) λr s' hq=>?_)
 cases r with
 | error e=>exact hx pins σ H s e s' I hq
 | ok fl=>
  cases fl with
  | ret u=>exact I.after hq
  | next=>exact False.elim hq
  | brk=>exact False.elim hq
  | cont=>exact False.elim hq
theorem Lp(F:mL X.prog X.w X.K X.mg X.base CX k f fd ps sp)(hr:eN k X.A)(hg:Gl X x)(hm:X.mg x=some (.ref f))(hk:G1 X.K (.ref f)=true)(hb:Binds X.K fd ps ds)(hd:Vals Dg ds)(hx:Passes CX X E)
  (ha:PA X (e::es) t) (hdb:(x==("__debug__" : Str))=false:=by decide) (he:starEach (e::es) X.env=(false,eval e X.env)::starEach es X.env:=by rfl) (hpl:(backTo pos (starEach es X.env)).any (·.1)=false:=by rfl) :
  PE X (.Call (.Name x p) (e::es) [] pos) (tK sp Dg E t):=by
 intro pins s σ H Q I h
 refine wpAny_Call_Name_kw (jZ I hg hm ?_ hdb)
 refine R3 (h₀:=X.base) I.ok.mod.Yg hk (cV (ha pos pins s σ H _ I h) λus s1 ⟨vs,H1,I1,r,q⟩=>⟨I1.lZ,?_⟩) he hpl
 exact Ue F hr hb hd hx I1 r q
structure Mk(K:aA)(C f:Addr):Prop where
 makes:PySem.W.makesIn K C=true
 init:F0 K (.ref C) "__init__" = some (some (.ref f))
 fn:T9 K (.ref f)=true
 kp:G1 K (.ref C)=true
end
section
variable{X:Cx}{CX:zF}{k:Nat}{f C:Addr}{fd:FuncData}{ps ks:List Str}{sp:Sp}{E:XK}{x m:Str}{p pos apos kpos:Pos}{e o:Expr}{es:List Expr}{kws:List Keyword}{te ta:TE}{t tk:TA}{nm:Option Str}
structure JF(K:aA)(fd:FuncData)(ps ks:List Str)(g:List Value→List Value→List Value)(gV:List V→List V→List V):Prop where
 to:∀(s:Shared)(us ws:List Value),K.In s.heap→(g us ws).length=ps.length→BindsTo s fd ⟨us,ks.zip ws⟩ (ps.zip (g us ws))
 rel:∀{vs:List V} {us:List Value} {zs:List V} {ws:List Value},Vals vs us→Vals zs ws→Vals (gV vs zs) (g us ws)
variable{g:List Value→List Value→List Value}{gV:List V→List V→List V}
end
structure bJ(N P:List Str)(sc:Scope):Prop where
 kind:sc.kind=.function
 co:sc.isCoroutine=false
 gen:sc.isGenerator=false
 nd:N.Nodup
 pre:N.take P.length=P
 par:∀x∈P,sc.names.lookup x=some .local∨sc.names.lookup x=some .cell
 Ug:∀y∈sc.names,y.2≠.free
theorem tL{kindOf:Str→Option NameKind}{x:Str}:∀{binds:List (Str×Value)} {m:Str→Option Value},(∀v,(x,v)∉binds)→bindL kindOf binds m x=m x
 | [],_,_=>rfl
 | (n,v)::r,m,h=>by
  unfold bindL
  rw[tL λw hw=>h w (B9 _ hw)]
  split
  ·have:x≠n:=by rintro rfl;exact h v C4
   simp[this]
  ·rfl
theorem tM{kindOf:Str→Option NameKind}{x:Str}:∀{binds:List (Str×Value)} {m:Str→Option Value},(∀v,(x,v)∉binds)→bindC kindOf binds m x=m x
 | [],_,_=>rfl
 | (n,v)::r,m,h=>by
  unfold bindC
  rw[tM λw hw=>h w (B9 _ hw)]
  split
  ·rfl
  ·have:x≠n:=by rintro rfl;exact h v C4
   simp[this]
theorem tO{kindOf:Str→Option NameKind}{x:Str}{v:Value}:∀{P:List Str} {vs:List Value} {i:Nat} {m:Str→Option Value},P.Nodup→P[i]?=some x→vs[i]?=some v→kindOf x=some .local →
  bindL kindOf (P.zip vs) m x=some v
 | [],_,_,_,_,h,_,_=>by simp at h
 | _::_,[],_,_,_,_,h,_=>by simp at h
 | p::P,w::vs,0,m,nd,h1,h2,hk=>by
  simp at h1 h2;subst h1;subst h2
  show bindL kindOf ((p,w)::P.zip vs) m p=_
  unfold bindL
  rw[tL λv hv=>(K5.mp nd).1 (P4 hv).1,if_pos hk]
  simp
 | p::P,w::vs,i+1,m,nd,h1,h2,hk=>by
  show bindL kindOf ((p,w)::P.zip vs) m x=_
  unfold bindL
  exact tO (i:=i) (K5.mp nd).2 (by simpa using h1) (by simpa using h2) hk
theorem tQ{kindOf:Str→Option NameKind}{x:Str}{v:Value}:∀{P:List Str} {vs:List Value} {i:Nat} {m:Str→Option Value},P.Nodup→P[i]?=some x→vs[i]?=some v→kindOf x≠some .local →
  bindC kindOf (P.zip vs) m x=some v
 | [],_,_,_,_,h,_,_=>by simp at h
 | _::_,[],_,_,_,_,h,_=>by simp at h
 | p::P,w::vs,0,m,nd,h1,h2,hk=>by
  simp at h1 h2;subst h1;subst h2
  show bindC kindOf ((p,w)::P.zip vs) m p=_
  unfold bindC
  rw[tM λv hv=>(K5.mp nd).1 (P4 hv).1,if_neg hk]
  simp
 | p::P,w::vs,i+1,m,nd,h1,h2,hk=>by
  show bindC kindOf ((p,w)::P.zip vs) m x=_
  unfold bindC
  exact tQ (i:=i) (K5.mp nd).2 (by simpa using h1) (by simpa using h2) hk
def start(N:List Str)(vs:List V):St:=vs.map some++D3 (N.length-vs.length) none
def eX(CX:zF)(P:Program)(w:World)(K:aA)(mg:Str→Option Value)(base:Heap)(N:List Str)(qual:Str)(scope:Scope)(f:Addr)(cd:Value)(A:Around)(outer:List Env)(s:Shared)(H:Hp)(E:XK):Cx where
 prog:=P
 w:=w
 K:=K
 mg:=mg
 base:=base
 A:=A.deeper (envOfC qual scope s.heap.objs.size f cd)
 N:=N
 s₀:=s
 H₀:=H
 env:=envOfC qual scope s.heap.objs.size f cd
 outer:=outer
 stack:=envOfC qual scope s.heap.objs.size f cd::outer
 ex:=[]
 calm:=true
 fn:=λ_=>true
 pn:=[]
 xe:=λe s'=>wpAny (model P w) (A.deeper (envOfC qual scope s.heap.objs.size f cd)) (leaving (envOfC qual scope s.heap.objs.size f cd) e) (λ_ s''=>CX outer H s E e s'') (λe' s''=>CX outer H s E e' s'') s'
theorem wZ{sc:Scope}{n:Nat}{x:Str}(h:sc.names.lookup x=some .cell):∃c,(cellsFrom n sc.names []).lookup x=some c:=by
 have q:=P5 sc.names n [] (.inl h)
 exact K7.mp q
theorem Dh{CX:zF}{P:Program}{w:World}{K:aA}{mg:Str→Option Value}{base:Heap}{N ps:List Str}{qual:Str}{scope:Scope}{f:Addr}{cd:Value}{A:Around}{outer:List Env}{s s1:Shared}{H:Hp}{E:XK}{us:List Value}{vs:List V}
  (S:bJ N ps scope) (hd:A.handled=none) (e0:Ln P w K mg base A outer s H) (hl:vs.length=ps.length) (r:Vals vs us)
  (x:InCallC s s.heap.objs.size (bindL (envOfC qual scope s.heap.objs.size f cd).kindOf (ps.zip us) λ_=>none) (cellsFrom (s.heap.objs.size+1) scope.names []) (bindC (envOfC qual scope s.heap.objs.size f cd).kindOf (ps.zip us) λ_=>none) s1) :
  Inv (eX CX P w K mg base N qual scope f cd A outer s H E) [] (start N vs) H s1:=by
 have hpl:ps.length≤N.length:=by have:=congrArg List.length S.pre;rw[F8]at this;omega
 obtain⟨h1,tk,rfl,hk⟩:=x.done
 have Yt:∀b:Addr,b∉(eX CX P w K mg base N qual scope f cd A outer s H E).ex:=λb z=>absurd (show b∈([]:List Addr)from z) (by simp)
 refine⟨⟨e0.mod,S.kind,rfl,rfl,C0 _,λy z c h1 h2=>?_,λy hy=>?_,λy c _ h=>?_,λ_=>hd,Around.frames_deeper e0.frames,.inr ⟨rfl,rfl⟩,λb z=>absurd z (Yt b),e0.bs,e0.Ez,λb _ _=>Yt b,λb z=>absurd z (Yt b),e0.kY,e0.Kq⟩,
  rfl,e0.bare,Un.kept hk,⟨_,x.toInCall.ns,λi y v h1 h2 h3=>?_⟩,λy c h=>⟨_,x.cell y c h⟩,e0.hok.fresh (C0 _),λy c h=>?_,λp hp=>absurd (show p∈([]:List (Addr×Obj))from hp) (by simp),e0.hok.kept hk,?_⟩
 ·exact name_of_addr x.apart (G3 h1) (G3 h2)
 ·have hy:scope.names.lookup y=some .cell∨scope.names.lookup y=some .free:=hy
  rcases hy with hy | hy
  ·exact wZ hy
  ·exact absurd rfl (S.Ug _ (G3 hy))
 ·exact Q9 (x.above y c (G3 h))
 ·have hi:i<vs.length:=by
   unfold start at h2
   by_cases hi:i<vs.length
   ·exact hi
   ·rw[N0 (by simpa using hi)]at h2
    rw[O7]at h2
    split at h2<;>cases h2
  have ha:vs[i]?=some v:=by
   unfold start at h2
   rw[N9 (by simpa using hi),C8]at h2
   cases e:vs[i]? with
   | none=>rw[e]at h2;cases h2
   | some a=>rw[e]at h2;cases h2;rfl
  obtain⟨u,hu,rv⟩:=r.get ha
  have hp:ps[i]?=some y:=by
   rw[←S.pre,List.getElem?_take_of_lt (by omega)];exact h1
  have OD:ps.Nodup:=by rw[←S.pre];exact S.nd.sublist (List.take_sublist _ _)
  refine⟨u,rv,?_⟩
  rcases S.par y (K2 hp)with k | k
  ·exact .inl ⟨k,tO OD hp hu k⟩
  ·obtain⟨c,e⟩:=wZ (n:=s.heap.objs.size+1) k
   refine .inr ⟨.inl k,c,e,?_⟩
   have q:=x.cell y c e
   rw[tQ OD hp hu (by show scope.names.lookup y≠_;rw[k];decide)]at q
   exact q
 ·exact e0.hok.fresh (Q9 (x.above y c (G3 h)))
 ·unfold start
  show _=N.length
  rw[C2,D1,P9]
  omega
theorem Qz{CX:zF}{P:Program}{w:World}{K:aA}{mg:Str→Option Value}{base:Heap}{k:Nat}{f:Addr}{name qual:Str}{params:Arguments}{body:List Stmt}{scope:Scope}{dV kV doc pm cdv ct oc:Value}{an od:Option Addr}
  {osl:Array (Option Value)} {N ps:List Str} {sp:Sp} (lk:K.lookup f=some ⟨oc,od,.func (D4 name qual params body scope dV kV doc pm an cdv ct),osl⟩) (hcd:K0 K cdv qual=true) (S:bJ N ps scope)
  (len:∀vs H Q E,sp vs H Q E→vs.length=ps.length)
  (hbody:∀(A:Around)(outer:List Env)(s:Shared)(H:Hp)(vs:List V)(Q:VK)(E:XK),eN k (A.deeper (envOfC qual scope s.heap.objs.size f cdv))→sp vs H Q E →
   ∃t,wU (eX CX P w K mg base N qual scope f cdv A outer s H E) body t∧t {nx:=λ_ H'=>Q .non H',rt:=Q} (start N vs) H) :
  mL P w K mg base CX (k+1) f (D4 name qual params body scope dV kV doc pm an cdv ct) ps sp:=by
 refine⟨len,λA outer s H args us vs Q E hr e0 hb r hsp=>?_⟩
 have hl:=len _ _ _ _ hsp
 have KX:K.In s.heap:=e0.mod.Yg.keeps λb o e=>(e0.bs b o e).1
 have lim:s.heap.NoLimit:=e0.mod.nolimit.keeps λb o e=>(e0.bs b o e).1
 have hkind:∀y∈ps.zip us,scope.names.lookup y.1=some .local∨(scope.names.lookup y.1=some .cell∧((cellsFrom (s.heap.objs.size+1) scope.names []).lookup y.1).isSome=true):=λ⟨n,v⟩ hy=>by
  rcases S.par n (P4 hy).1 with q | q
  ·exact .inl q
  ·exact .inr ⟨q,P5 _ _ _ (.inl q)⟩
 refine codeAny_call_function hr.depth (KX _ _ lk) rfl S.co S.gen rfl (PySem.W.codeRec_of KX hcd) (hb _ _ _ _ ?_)
 refine wpAny_newFunctionEnv_cells S.kind hkind λenv he s1 x=>?_
 subst he
 refine⟨lim.keeps x.toInCall.keep,codeAny_func ?_⟩
 obtain⟨t,ht,hq⟩:=hbody A outer s H vs Q E (hr.deeper _) hsp
 have I:Inv (eX CX P w K mg base N qual scope f cdv A outer s H E) [] (start N vs) H s1:=Dh S hr.hd e0 hl r x
 refine wpAny_mono (ht [] s1 (start N vs) H _ I hq) (λfl s' hs=>?_) λe s' hs=>hs
 have fin:∀{σ':St} {H':Hp} {v:V} {u:Value},Inv (eX CX P w K mg base N qual scope f cdv A outer s H E) [] σ' H' s'→RelV v u→Q v H'→CE outer P w H s Q u s':=
  λ{σ' H' v u} J rv q=>⟨v,H',J.os,J.bare,J.base,J.hok,rv,q⟩
 cases fl with
 | ret u=>
  obtain⟨v,σ',H',J,rv,q⟩:=hs
  exact fin J rv q
 | next=>
  obtain⟨σ',H',J,q⟩:=hs
  exact fin (v:=V.non) (u:=Value.none) J rfl q
 | brk=>
  obtain⟨_,_,_,q⟩:=hs
  exact False.elim q
 | cont=>
  obtain⟨_,_,_,q⟩:=hs
  exact False.elim q
end L2
namespace L2
open PySem PySem.Spec PyProof.Rows
section
variable{X:Cx}{x:Str}{p pos:Pos}{e:Expr}{es:List Expr}{t:TA}{id T:String}{r:List V→Hp→VK→Prop}
def Lq(r:List V→Hp→VK→Prop)(t:TA):TE:=λσ H Q=>t σ H λvs H1=>r vs H1 Q
theorem jC(hc:dB X (.builtin id) r)(hg:Gl X x)(hm:X.mg x=none)(hv:bootBuiltins x=some (.builtin id))(ha:PA X (e::es) t)(hn:x ≠ "__name__" := by decide) (hdb:(x==("__debug__" : Str))=false:=by decide)
  (he:starEach (e::es) X.env=(false,eval e X.env)::starEach es X.env:=by rfl) (hpl:(backTo pos (starEach es X.env)).any (·.1)=false:=by rfl):PE X (.Call (.Name x p) (e::es) [] pos) (Lq r t):=by
 intro pins s σ H Q I h
 refine wpAny_Call_Name_kw (uN I hg hm hv ?_ hn hdb)
 exact PyProof.Rows.callWith_builtin1 (cV (ha pos pins s σ H _ I h) λus s1 ⟨vs,H1,I1,r1,q1⟩=>hc pins s1 σ H1 vs us Q I1 r1 q1) he hpl
theorem Di(hc:dB X (.type T) r)(hg:Gl X x)(hm:X.mg x=none)(hv:bootBuiltins x=some (.type T))(ha:PA X (e::es) t)(hn:x ≠ "__name__" := by decide) (hdb:(x==("__debug__" : Str))=false:=by decide)
  (he:starEach (e::es) X.env=(false,eval e X.env)::starEach es X.env:=by rfl) (hpl:(backTo pos (starEach es X.env)).any (·.1)=false:=by rfl):PE X (.Call (.Name x p) (e::es) [] pos) (Lq r t):=by
 intro pins s σ H Q I h
 refine wpAny_Call_Name_kw (uN I hg hm hv ?_ hn hdb)
 exact M9 (cV (ha pos pins s σ H _ I h) λus s1 ⟨vs,H1,I1,r1,q1⟩=>hc pins s1 σ H1 vs us Q I1 r1 q1) he hpl
end
end L2
namespace HT
open PySem PyProof.Rows
section
open PySem.SeqAt
open PySem.AutoSeq1 (wpAny_loadPart')
open PySem.MeetsSeq PySem.MeetsSeq2 PySem.MeetsSeq3
end
section
variable{prog:Program}{w:World}{A:Around}{E:Value→Shared→Prop}{s:Shared}
def uP(n d:Nat):Option Int→Nat
 | none=>d
 | some v=>if v<0 then(v+(n:Int)).toNat else min v.toNat n
theorem Gd(n d:Nat):uP n d none=d:=rfl
end
end HT
namespace L2
open PySem PySem.Spec PyProof.Rows
abbrev TO:=St→Hp→(Option Int→Hp→Prop)→Prop
def PO(X:Cx)(e:Option Expr)(t:TO):Prop:=
 ∀(pins:List (Addr×Obj))(s:Shared)(σ:St)(H:Hp)(Q:Option Int→Hp→Prop),Inv X pins σ H s→t σ H Q →
  wpAny (model X.prog X.w) X.A (evalPart e X.env) (λu s'=>∃o H',Inv X pins σ H' s'∧IsPart u o∧Q o H') X.xe s
def Ax:TO:=λ_ H Q=>Q none H
def Ra(t:TE):TO:=λσ H Q=>t σ H λx H1=>∃i,x=.int i∧Q (some i) H1
section
variable{X:Cx}{e:Expr}{te:TE}{lo hi:Option Expr}{tl th:TO}{pos p2:Pos}
theorem Lr:PO X none Ax:=by
 intro pins s σ H Q I h
 rw[evalPart_none]
 exact wpAny_pure ⟨none,H,I,.none,h⟩
theorem Ls(h:PE X e te):PO X (some e) (Ra te):=by
 intro pins s σ H Q I hw
 rw[evalPart_some]
 refine cV (h pins s σ H _ I hw) λu s1 ⟨x,H1,I1,r1,q1⟩=>?_
 obtain⟨i,rfl,q⟩:=q1
 obtain⟨t,rfl⟩:=r1
 exact⟨some i,H1,I1,.int i t,q⟩
def OJ(X:Cx)(r:V→Option Int→Option Int→Hp→VK→Prop):Prop:=
 ∀(pins:List (Addr×Obj))(s:Shared)(σ:St)(H:Hp)(x:V)(v vl vu:Value)(lo hi:Option Int)(sl:Addr)(Q:VK),Inv X pins σ H s→RelV x v→s.heap.IsSliceOf sl vl vu .none→IsPart vl lo→IsPart vu hi→r x lo hi H Q →
  ∃T id,typeLookup (.type T) "__getitem__" = pure (some (.builtin id))∧s.TypeIs v T∧wpAny (model X.prog X.w) X.A (getItem v (.ref sl)) (EP X pins σ Q) X.xe s
def PB(r:V→Option Int→Option Int→Hp→VK→Prop)(te:TE)(tl th:TO):TE:=λσ H Q=>te σ H λx H1=>tl σ H1 λl H2=>th σ H2 λu H3=>r x l u H3 Q
theorem Ge{r:V→Option Int→Option Int→Hp→VK→Prop}(hr:OJ X r)(he:PE X e te)(hl:PO X lo tl)(hu:PO X hi th):PE X (.Subscript e (.Slice lo hi none p2) pos) (PB r te tl th):=by
 intro pins s σ H Q I h
 refine Subscript_ (cV (he pins s σ H _ I h) λv s1 ⟨x,H1,I1,r1,q1⟩=>?_)
 refine wpAny_Slice (cV (hl pins s1 σ H1 _ I1 q1) λvl s2 ⟨l,H2,I2,pl,q2⟩=>cV (hu pins s2 σ H2 _ I2 q2) λvu s3 ⟨u,H3,I3,pu,q3⟩=>?_)
 rw[evalPart_none]
 refine wpAny_pure ?_
 have I4:Inv X pins σ H3 {s3 with heap:=s3.heap.push {cls:=.type "slice", data:=.fields #[vl,vu,.none]}}:=I3.kept (t':=s3.toks) λb ob q=>Heap.get?_push_of_some _ q
 obtain⟨T,id,hT,ht,hg⟩:=hr pins {s3 with heap:=s3.heap.push {cls:=.type "slice", data:=.fields #[vl,vu,.none]}} σ H3 x v vl vu l u s3.heap.objs.size Q I4 r1 (Heap.IsSliceOf.new ..) pl pu q3
 show wpAny (model X.prog X.w) X.A (subscriptTail e (.Slice lo hi none p2) v (.ref s3.heap.objs.size)) (EP X pins σ Q) X.xe {s3 with heap:=s3.heap.push {cls:=.type "slice", data:=.fields #[vl,vu,.none]}}
 exact tail_any (ops:=[.ref s3.heap.objs.size,v]) ht hT hg (by with_unfolding_all rfl)
end
end L2
namespace L2
open PySem PySem.Spec PyProof.Rows
def Yu(n:Nat)(i:Int):Option Nat:=if 0≤i then(if i<n then some i.toNat else none)else if -(n:Int)≤i then some (i+n).toNat else none
def Fb{α:Type}(xs:List α)(i:Int):Option α:=(Yu xs.length i).bind λj=>xs[j]?
theorem Lw{n:Nat}{i:Int}{j:Nat}(h:Yu n i=some j):seqIndex? i n=some j∧j<n∧-(n:Int)≤i∧i<n:=by
 unfold Yu at h
 by_cases h0:0≤i
 ·rw[if_pos h0]at h
  by_cases h1:i<n
  ·rw[if_pos h1]at h
   have e:i.toNat=j:=D6 h
   exact⟨by rw[seqIndex_of h0 h1,e],by omega,by omega,h1⟩
  ·rw[if_neg h1]at h;cases h
 ·rw[if_neg h0]at h
  by_cases h1:-(n:Int)≤i
  ·rw[if_pos h1]at h
   have e:(i+n).toNat=j:=D6 h
   exact⟨by rw[seqIndex_neg (by omega) h1,e],by omega,h1,by omega⟩
  ·rw[if_neg h1]at h;cases h
theorem uQ{α:Type}{xs:List α}{i:Int}{v:α}(h:Fb xs i=some v):∃j,seqIndex? i xs.length=some j∧xs[j]?=some v∧j<xs.length∧-(xs.length:Int)≤i∧i<xs.length:=by
 unfold Fb at h
 cases e:Yu xs.length i with
 | none=>rw[e]at h;cases h
 | some j=>
  rw[e]at h
  obtain⟨h1,h2,h3,h4⟩:=Lw e
  exact⟨j,h1,h,h2,h3,h4⟩
def uR(b:Expr):Prop:=∀o i,subscripted b false o i=operate [o,i] (getItem o i)
def Kr(X:Cx)(r:R2):Prop:=
 ∀(value slice:Expr)(pins:List (Addr×Obj))(s:Shared)(σ:St)(H:Hp)(x y:V)(v u:Value)(Q:VK),Inv X pins σ H s→RelV x v→RelV y u→r x y H Q →
  subscripted slice false v u=operate [v,u] (getItem v u)→wpAny (model X.prog X.w) X.A (subscriptTail value slice v u) (EP X pins σ Q) X.xe s
def JG(X:Cx)(id:String)(r:V→List V→Hp→VK→Prop):Prop:=
 ∀(pins:List (Addr×Obj))(s:Shared)(σ:St)(H:Hp)(x:V)(xs:List V)(v:Value)(us:List Value)(Q:VK),Inv X pins σ H s→RelV x v→Vals xs us→r x xs H Q →
  wpAny (model X.prog X.w) X.A (call (.builtin id) (v::us)) (EP X pins σ Q) X.xe s
section
variable{X:Cx}{a b:Expr}{ta tb:TE}{pos:Pos}
theorem Kr.or{r r':R2}(h:Kr X r)(h':Kr X r'):Kr X (λx y H Q=>r x y H Q∨r' x y H Q):=by
 intro value slice pins s σ H x y v u Q I rx ry q hs
 rcases q with q | q
 ·exact h value slice pins s σ H x y v u Q I rx ry q hs
 ·exact h' value slice pins s σ H x y v u Q I rx ry q hs
theorem Rb{r:R2}(hr:Kr X r)(ha:PE X a ta)(hb:PE X b tb)(hs:uR b):PE X (.Subscript a b pos) (wL r ta tb):=by
 intro pins s σ H Q I h
 exact Subscript_ (Tt ha hb I h λv u s2 x y H2 I2 rx ry q=>hr a b pins s2 σ H2 x y v u Q I2 rx ry q (hs _ _))
def Yv(K:aA):R2:=λx y H Q=>∃p xs i v,x=.ref p∧y=.int i∧mG K H p xs∧Fb xs i=some v∧Q v H
def Yw(K:aA):R2:=λx y H Q=>∃p xs i v,x=.ref p∧y=.int i∧mH K H p xs∧Fb xs i=some v∧Q v H
def Uh:R2:=λx y H Q=>∃z i c,x=.str z∧y=.int i∧z.length≤sizeLine∧Fb z.cps.toList i=some c∧Q (.str ⟨#[c]⟩) H
theorem Lx:Kr X (Yv X.K):=by
 intro value slice pins s σ H x y v u Q I rx ry h hs
 obtain⟨p,xs,i,z,rfl,rfl,hq,he,q⟩:=h
 cases rx
 obtain⟨t,rfl⟩:=ry
 obtain⟨its,r,pl,hz⟩:=I.list hq
 obtain⟨j,h1,h2,h3,h4,h5⟩:=uQ he
 obtain⟨w,ew,Yx⟩:=r.get h2
 have hl:=r.length
 have hn:=qJ
 have fin:EP X pins σ Q w s:=⟨z,H,I,Yx,q⟩
 by_cases h0:0≤i
 ·have hj:i.toNat=j:=by
   rw[seqIndex_of h0 h5]at h1
   exact D6 h1
  exact item_listR pl.isList h0 (by omega) (by rw[hj];simpa using ew) fin hs
 ·have hj:(i+(its.toArray.size:Int)).toNat=j:=by
   rw[seqIndex_neg (by omega) h4]at h1
   rw[B5,←hl]
   exact D6 h1
  exact subscriptTail_builtinR (x:=w) pl.isList.typeIs slot_list_getitem.lookup
   (wpAny_getItem_list_neg (Q:=λr s'=>r=w∧EP X pins σ Q r s') pl.isList (by omega) (by rw[B5]<;>omega) (by omega) (by rw[hj];simpa using ew) ⟨rfl,fin⟩) hs
theorem Ui:Kr X (Yw X.K):=by
 intro value slice pins s σ H x y v u Q I rx ry h hs
 obtain⟨p,xs,i,z,rfl,rfl,hq,he,q⟩:=h
 cases rx
 obtain⟨t,rfl⟩:=ry
 obtain⟨its,r,pl,hz⟩:=I.tuple hq
 obtain⟨j,h1,h2,h3,h4,h5⟩:=uQ he
 obtain⟨w,ew,Yx⟩:=r.get h2
 have hl:=r.length
 have hn:=qJ
 have fin:EP X pins σ Q w s:=⟨z,H,I,Yx,q⟩
 exact subscriptTail_builtinR (x:=w) pl.typeIs slot_tuple_getitem.lookup
  (getItem_tuple (j:=j) (Q:=λr s'=>r=w∧EP X pins σ Q r s') pl (by omega) (by omega) (by rw[B5,←hl];exact h1) (by simpa using ew) ⟨rfl,fin⟩) hs
theorem Gf:Kr X Uh:=by
 intro value slice pins s σ H x y v u Q I rx ry h hs
 obtain⟨z,i,c,rfl,rfl,hz,he,q⟩:=h
 obtain⟨t,rfl⟩:=rx
 obtain⟨t',rfl⟩:=ry
 obtain⟨j,h1,h2,h3,h4,h5⟩:=uQ he
 have hl:z.cps.toList.length=z.length:=by simp[Str.length]
 rw[hl]at h1 h4 h5
 have hn:=qJ
 exact tail_any (typeIs_str s z t) slot_str_getitem.lookup (getItem_str (c:=c) (by
  have e1:decide (i < -(2 ^ 63:Int))=false:=decide_eq_false (by omega)
  have e2:decide (i≥2 ^ 63)=false:=decide_eq_false (by omega)
  rw[e1,e2,Bool.or_false]) (by rw[h1];simpa using h2) ⟨.str ⟨#[c]⟩,H,I.tok _,⟨_,rfl⟩,q⟩) hs
def JH(K:aA):R2:=λx y H Q=>Yv K x y H Q∨Yw K x y H Q∨Uh x y H Q
theorem Uj:Kr X (JH X.K):=Lx.or (Ui.or Gf)
theorem uT:dB X (.builtin "len") (λxs H Q=>∃p ys,xs=[.ref p]∧(mG X.K H p ys∨mH X.K H p ys)∧Q (.int ys.length) H):=by
 intro pins s σ H xs us Q I r h
 obtain⟨p,ys,rfl,hq,q⟩:=h
 obtain⟨u,rfl,rx⟩:=vals1 r
 cases rx
 have hn:=qJ
 rcases hq with hq | hq
 ·obtain⟨its,r',pl,hz⟩:=I.list hq
  have hlen:=r'.length
  exact Calls.call_len_list pl.isList (by simp only[B5]<;>omega) ⟨.int ys.length,H,I.tok _,⟨s.toks+1,by rw[B5,hlen]⟩,q⟩
 ·obtain⟨its,r',pl,hz⟩:=I.tuple hq
  have hlen:=r'.length
  exact len_tuple pl (by simp only[B5]<;>omega) ⟨.int ys.length,H,I.tok _,⟨s.toks+1,by rw[B5,hlen]⟩,q⟩
theorem fK:dB X (.builtin "len") (λxs H Q=>∃z,xs=[.str z]∧z.length≤sizeLine∧Q (.int z.length) H):=by
 intro pins s σ H xs us Q I r h
 obtain⟨z,rfl,hz,q⟩:=h
 obtain⟨u,rfl,t,rfl⟩:=vals1 r
 have hn:=qJ
 exact len_str (by omega) ⟨.int z.length,H,I.tok _,⟨_,rfl⟩,q⟩
def PJ(K:aA)(T:String)(x:V)(H:Hp):Prop:=match x with
 | .str _=>T = "str"
 | .int _=>T = "int"
 | .ref p=>(T = "list" ∧ ∃xs,mG K H p xs)∨(T = "tuple" ∧ ∃o,K.lookup p=some o∧o.cls=.type "tuple" ∧ o.dict=none) ∨
   (T = "dict" ∧ ((∃kvs,H p=some (.dK kvs))∨∃kvs,H p=some (.dT kvs)))∨(T = "set" ∧ ∃S n,H p=some (.set S n))
 | _=>False
theorem Uk{pins:List (Addr×Obj)}{σ:St}{H:Hp}{s:Shared}{T:String}{x:V}{v:Value}(I:Inv X pins σ H s)(r:RelV x v)(ty:PJ X.K T x H) :
  s.TypeIs v T∧∀a,v=.ref a→∃ob,s.heap.get? a=some ob∧ob.dict=none:=by
 cases x with
 | str z=>
  obtain⟨t,rfl⟩:=r
  cases(show T = "str" from ty)
  exact⟨typeIs_str s z t,λ_ e=>nomatch e⟩
 | int i=>
  obtain⟨t,rfl⟩:=r
  cases(show T = "int" from ty)
  exact⟨typeIs_int s i t,λ_ e=>nomatch e⟩
 | ref p=>
  cases r
  rcases ty with ⟨rfl,xs,hq⟩ | ⟨rfl,o,hk,hc,hd⟩ | ⟨rfl,hk⟩ | ⟨rfl,S,n,hk⟩
  ·obtain⟨its,_,pl,_⟩:=I.list hq
   refine⟨pl.isList.typeIs,λa e=>?_⟩
   cases e
   obtain⟨o,n,e,c,hd,_⟩:=pl
   exact⟨o,e,hd⟩
  ·refine⟨⟨o,I.lZ p o hk,hc⟩,λa e=>?_⟩
   cases e
   exact⟨o,I.lZ _ o hk,hd⟩
  ·have z:∃o,s.heap.get? p=some o∧o.ExactDict:=by
    rcases hk with ⟨kvs,hk⟩ | ⟨kvs,hk⟩
    ·obtain⟨_,_,_,_,o,_,_,e,ex,_⟩:=I.hok p _ hk
     exact⟨o,e,ex⟩
    ·obtain⟨_,_,_,_,o,_,_,e,ex,_⟩:=I.hok p _ hk
     exact⟨o,e,ex⟩
   obtain⟨o,e,ex⟩:=z
   refine⟨⟨o,e,ex.1⟩,λa e2=>?_⟩
   cases e2
   exact⟨o,e,ex.2.1⟩
  ·obtain⟨o,_,_,_,e,ex,_⟩:=I.hok p _ hk
   refine⟨⟨o,e,ex.1⟩,λa e2=>?_⟩
   cases e2
   exact⟨o,e,ex.2.1⟩
 | _=>exact False.elim ty
def Yy(K:aA)(T:String)(r:V→List V→Hp→VK→Prop)(to:TE)(t:TA):TE:=λσ H Q=>to σ H λx H1=>PJ K T x H1∧t σ H1 λxs H2=>r x xs H2 Q
variable{o e:Expr}{es:List Expr}{to:TE}{t:TA}{name:Str}{apos cpos:Pos}{T id:String}{r:V→List V→Hp→VK→Prop}
theorem Rc(pa:PlainAttrs T)(slot:Slot T name id)(hty:typeOf (.builtin id)=pure (.type "method_descriptor")) (hm:JG X id r) (ho:PE X o to) (ha:PA X (e::es) t)
  (hbase:attributeBase o name X.env (eval o X.env)=eval o X.env:=by rfl)
  (hfew:((backTo cpos (starEach (e::es) X.env)).all (λx=>!x.1)&&(backToKw cpos (keywordEach [] X.env)).all (λx=>x.1.isSome)
   && decide ((e::es).length+([]:List Keyword).length+(if([]:List Keyword).isEmpty then 0 else 1)<30))=true:=by rfl)
  (hline:(apos.endLine==cpos.line)=true:=by rfl) (hs:starEach (e::es) X.env=(false,eval e X.env)::starEach es X.env:=by rfl) (hplain:(backTo cpos (starEach es X.env)).any (·.1)=false:=by rfl) :
  PE X (.Call (.Attribute o name apos) (e::es) [] cpos) (Yy X.K T r to t):=by
 intro pins s σ H Q I h
 refine wpAny_Call_method_late hbase hfew hline rfl (cV (ho pins s σ H _ I h) λv s1 ⟨x,H1,I1,r1,ty,q1⟩=>?_)
 obtain⟨h1,h2⟩:=Uk I1 r1 ty
 refine⟨T,id,pa,slot,hty,h1,h2,?_⟩
 have hA:=ha cpos pins s1 σ H1 _ I1 q1
 rw[hs]at hA ⊢
 refine Calls.callWith_builtin (by show (false||(backTo cpos (starEach es X.env)).any (·.1))=false;rw[hplain]<;>rfl) (Calls.evalArgs_plain ?_)
 exact cV hA λus s2 ⟨vs,H2,I2,r2,q2⟩=>hm pins s2 σ H2 x vs v us Q I2 r1 r2 q2
end
end L2
namespace L2
open PySem PySem.Spec PyProof.Rows
def RB(X:Cx)(id:String)(r:V→List V→Hp→VK→Prop):Prop:=
 ∀(pins:List (Addr×Obj))(s:Shared)(σ:St)(H:Hp)(x:V)(xs:List V)(v:Value)(us:List Value)(Q:VK),Inv X pins σ H s→RelV x v→Vals xs us→r x xs H Q →
  wpAny (model X.prog X.w) X.A (call (.builtin id) (v::us)) (EP X pins σ Q) X.xe s
theorem Vals.one:∀{x:V} {us:List Value},Vals [x] us→∃u,us=[u]∧RelV x u
 | _,_,.cons r .nil=>⟨_,rfl,r⟩
section
variable{X:Cx}{pins:List (Addr×Obj)}{σ:St}{H:Hp}{s:Shared}{l b:Addr}{xs ys zs:List V}
theorem Inv.JK{its its':List Value}{n:Nat}{f:Array Value→Array Value}{t':Nat}(I:Inv X pins σ H s)(hH:H l=some (.lst xs))
  (e:s.heap.get? l=some {cls:=.type "list", data:=.seq its.toArray n}) (hf:f its.toArray=its'.toArray) (hv:Vals ys its') (hz:ys.length≤sizeLine) :
  Inv X pins σ (upd H l (.lst ys)) {s with heap:=s.heap.update l (Obj.mapSeq f),toks:=t'}:=by
 have q:=PySem.IsL.update e f
 rw[hf]at q
 refine I.write (x:=l) (e:=l) (by rw[hH];exact trivial) (.inl rfl) (λb' u hb hu=>(Heap.get?_update_other s.heap (Obj.mapSeq f) (Ne.symm hb)).trans hu) ⟨_,q⟩ ?_
 exact⟨hz,its',_,hv,q⟩
theorem Inv.Yz{its:List Value}{t':Nat}(I:Inv X pins σ H s)(hv:Vals ys its)(hz:ys.length≤sizeLine) :
  Inv X pins σ (upd H s.heap.objs.size (.lst ys)) {s with heap:=s.heap.push {cls:=.type "list", data:=.seq its.toArray},toks:=t'}:=
 I.laid (λ_ _ q=>Heap.get?_push_of_some _ q) (C0 _) ⟨hz,its,0,hv,Heap.get?_push_size _ rfl⟩
theorem Inv.fresh(I:Inv X pins σ H s):H s.heap.objs.size=none:=I.hok.fresh (C0 _)
theorem Inv.JL(I:Inv X pins σ H s)(hH:H l=some (.lst xs)):xs.length≤sizeLine∧∃(its:List Value)(n:Nat),Vals xs its∧xs.length=its.length∧s.heap.get? l=some {cls:=.type "list", data:=.seq its.toArray n}:=by
 obtain⟨z,its,n,r,e⟩:=I.hok l _ hH
 exact⟨z,its,n,r,r.length,e⟩
end
section
variable{X:Cx}
def Ly:V→List V→Hp→VK→Prop:=λx vs H Q=>∃l xs y,x=.ref l∧vs=[y]∧H l=some (.lst xs)∧xs.length<sizeLine∧Q .non (upd H l (.lst (xs++[y])))
theorem Dj:RB X "list.append" Ly:=by
 intro pins s σ H x vs v us Q I rx rv h
 obtain⟨l,xs,y,rfl,rfl,hH,hz,q⟩:=h
 cases rx
 obtain⟨u,rfl,ru⟩:=rv.one
 obtain⟨z,its,n,r,hl,e⟩:=I.JL hH
 refine call_meets F.slot_list_append ⟨_,e,rfl⟩ F.entry_list_append (F.args_list_append_2 _ _) (PySem.list_append l its.toArray n u (by rw[B5];omega)) ⟨e,?_⟩
 refine⟨.non,_,I.JK (its':=its++[u]) hH e (by simp) (r.append (.cons ru .nil)) ?_,rfl,q⟩
 rw[C2,D2]
 omega
end
section
variable{prog:Program}{w:World}{A:Around}{E:Value→Shared→Prop}{s:Shared}
end
section
variable{X:Cx}
end
end L2
namespace L2
open PySem PySem.Spec PyProof.Rows
section
variable{κ:Type} [DecidableEq κ]
def Ul(kvs:List (κ×V))(k:κ):Option V:=(kvs.find? λkv=>decide (kv.1=k)).map (·.2)
def putK(kvs:List (κ×V))(k:κ)(v:V):List (κ×V):=
 if(kvs.any λkv=>decide (kv.1=k))=true then kvs.map (λkv=>if kv.1=k then(kv.1,v)else kv)else kvs++[(k,v)]
def PK(kvs:List (κ×V))(k:κ):List (κ×V):=kvs.filter λkv=>decide (kv.1≠k)
theorem xF(kvs:List (κ×V))(k:κ)(v:V):(putK kvs k v).length≤kvs.length+1:=by
 unfold putK
 split
 ·rw[D1];omega
 ·rw[C2,G9,S7];omega
theorem KV.any{kvs:List (κ×V)}{vs:List (κ×Value)}(r:KV kvs vs)(k:κ):(kvs.any λkv=>decide (kv.1=k))=vs.any λkv=>decide (kv.1=k):=by
 unfold KV at r
 induction r with
 | nil=>rfl
 | cons h t ih=>rw[Q5,Q5,ih,h.1]
theorem KV.repl{kvs:List (κ×V)}{vs:List (κ×Value)}(r:KV kvs vs)(k:κ){y:V}{u:Value}(ry:RelV y u) :
  KV (kvs.map λkv=>if kv.1=k then(kv.1,y)else kv) (vs.map λkv=>if kv.1=k then(kv.1,u)else kv):=by
 unfold KV at r ⊢
 induction r with
 | nil=>exact .nil
 | @cons p q ps qs h t ih=>
  rw[D8,D8]
  refine .cons ?_ ih
  obtain⟨h1,h2⟩:=h
  by_cases e:p.1=k
  ·rw[if_pos e,if_pos (h1.symm.trans e)];exact⟨h1,ry⟩
  ·rw[if_neg e,if_neg (λz=>e (h1.trans z))];exact⟨h1,h2⟩
theorem KV.put{kvs:List (κ×V)}{vs:List (κ×Value)}(r:KV kvs vs)(k:κ){y:V}{u:Value}(ry:RelV y u):KV (putK kvs k y) (stored vs k u):=by
 unfold putK stored
 rw[r.any k]
 by_cases e:(vs.any λkv=>decide (kv.1=k))=true
 ·rw[if_pos e,if_pos e];exact r.repl k ry
 ·rw[if_neg e,if_neg e];exact Paired.snoc r ⟨rfl,ry⟩
end
theorem Za{P:Program}{w:World}{k:Key}{u:Value}(r:RelV (kV k) u):(eE P w).is k u=true:=by
 cases k with
 | inl i=>obtain⟨t,e⟩:=(show ∃t,u=Value.int i t from r);subst e;exact wO P w i t
 | inr x=>obtain⟨t,e⟩:=(show ∃t,u=Value.str x t from r);subst e;exact wQ P w x t
abbrev KT(H:Hp):List (List Key×V)→List (List Key×Addr×Value)→Prop:=Paired λp q=>p.1=q.1∧H q.2.1=some (.tup (p.1.map kV))∧RelV p.2 q.2.2
section
variable{P:Program}{w:World}{H:Hp}{h:Heap}{a:Addr}
theorem Zb{u:HO}(ok:jY P w H h)(e:Rd H a u):cG P w H h a u:=e.ok ok
theorem Rf{kvs:List (Key×V)}(ok:jY P w H h)(e:Rd H a (.dK kvs)):kvs.length≤sizeLine∧(a==sysModules)=false∧∃vs,KV kvs vs∧h.DictOf (eE P w) a vs:=
 show cG P w H h a (.dK kvs)from Zb ok e
theorem Zc{kvs:List (Key×V)}(ok:jY P w H h)(e:H a=some (.dK kvs)):kvs.length≤sizeLine∧(a==sysModules)=false∧∃vs,KV kvs vs∧h.DictOf (eE P w) a vs:=Rf ok (.inl e)
end
def RC(H:Hp)(a:Addr)(y:V)(r:Option V):Prop:=
 (∃kvs k,Rd H a (.dK kvs)∧y=kV k∧r=Ul kvs k)∨∃kvs k b,Rd H a (.dT kvs)∧y=.ref b∧H b=some (.tup (k.map kV))∧r=Ul kvs k
def RD(H:Hp)(a:Addr)(y v:V)(H':Hp):Prop:=
 (∃kvs k,H a=some (.dK kvs)∧y=kV k∧kvs.length<sizeLine∧H'=upd H a (.dK (putK kvs k v))) ∨
 ∃kvs k b,H a=some (.dT kvs)∧y=.ref b∧H b=some (.tup (k.map kV))∧kvs.length<sizeLine∧H'=upd H a (.dT (putK kvs k v))
section
variable{X:Cx}{pins:List (Addr×Obj)}{σ:St}{H:Hp}{s:Shared}{a:Addr}{y v:V}{u r:Value}{o:Option V}{A:Around}{E:Value→Shared→Prop}
theorem Inv.big(I:Inv X pins σ H s):sysModules<s.heap.objs.size:=by
 have h:mainGlobals<s.heap.objs.size:=(I.mod.glob.keeps I.bk).lt
 exact Nat.lt_trans (by decide) h
theorem Lz{h':Heap}{t':Nat}{ob:HO}(I:Inv X pins σ H s)(mu:Yd (H a))(hs:Heap.SameBut a s.heap h')(he:∃q,h'.get? a=some q)(new:cG X.prog X.w (upd H a ob) h' a ob) :
  Inv X pins σ (upd H a ob) {s with heap:=h',toks:=t'}:=
 I.write (x:=a) (e:=a) mu (.inl rfl) (λb q hb z=>(hs.2 b hb).trans z) he new
theorem Um{P:Program}{w:World}{H':Hp}{h':Heap}{kvs:List (Key×V)}{vs:List (Key×Value)}(z:kvs.length≤sizeLine)(hd:(a==sysModules)=false)(rel:KV kvs vs)(dd:h'.DictOf (eE P w) a vs) :
  cG P w H' h' a (.dK kvs):=⟨z,hd,vs,rel,dd⟩
end
section
variable{X:Cx}{pins:List (Addr×Obj)}{σ:St}{H:Hp}{s:Shared}{a:Addr}{kvs:List (Key×V)}{k:Key}{u:Value}{A:Around}{E:Value→Shared→Prop}
end
section
variable{X:Cx}{o i e value:Expr}{pos pos' tpos:Pos}{td ty tv:TE}
end
theorem Gg{P:Program}{w:World}{H:Hp}(h:Heap)(hb:sysModules<h.objs.size):cG P w H (h.push {cls:=.type "dict", data:=.dict #[]}) h.objs.size (.dK []):=
 ⟨L8 _,beq_eq_false_iff_ne.mpr (Ne.symm (C3 hb)),[],.nil,Heap.DictOf.new h⟩
section
variable{X:Cx}{pos:Pos}
end
def uU:List (TE×TE)→St→Hp→(List (V×V)→Hp→Prop)→Prop
 | [],_,H,Q=>Q [] H
 | (tk,tv)::r,σ,H,Q=>tk σ H λx H1=>tv σ H1 λy H2=>uU r σ H2 λps H3=>Q ((x,y)::ps) H3
abbrev VV:List (V×V)→List (Value×Value)→Prop:=Paired λp q=>RelV p.1 q.1∧RelV p.2 q.2
def Xu(X:Cx)(pos:Pos)(keys:List (Option Expr))(values:List Expr)(Ma:List (TE×TE)):Prop:=
 ∀(pins:List (Addr×Obj))(s:Shared)(σ:St)(H:Hp)(Q:List (V×V)→Hp→Prop),Inv X pins σ H s→uU Ma σ H Q →
  wpAny (model X.prog X.w) X.A (evalPairs (pairTrees keys values X.env pos)) (λvs s'=>∃ps H',Inv X pins σ H' s'∧VV ps vs∧Q ps H') X.xe s
theorem Mf{X:Cx}{pos:Pos}:Xu X pos [] [] []:=λpins s σ H Q I h=>pairTrees_nil_walk ⟨[],H,I,.nil,h⟩
theorem Gh{X:Cx}{pos:Pos}{k v:Expr}{ks:List (Option Expr)}{vs:List Expr}{tk tv:TE}{Ma:List (TE×TE)}(hk:PE X k tk)(hv:PE X v tv)(hr:Xu X pos ks vs Ma) :
  Xu X pos (some k::ks) (v::vs) ((tk,tv)::Ma):=λpins s σ H Q I h=>
 pairTrees_cons_walk (cV (hk pins s σ H _ I h) λu s1 ⟨x,H1,I1,rx,q1⟩=>cV (hv pins s1 σ H1 _ I1 q1) λw2 s2 ⟨y,H2,I2,ry,q2⟩=>
  cV (hr pins s2 σ H2 _ I2 q2) λws s3 ⟨ps,H3,I3,rel,q3⟩=>⟨(x,y)::ps,H3,I3,.cons ⟨rx,ry⟩ rel,q3⟩)
def qL(kvs more:List (Key×V)):List (Key×V):=more.foldl (λacc kv=>putK acc kv.1 kv.2) kvs
theorem KV.merge:∀{more:List (Key×V)} {rs:List (Key×Value)} {kvs:List (Key×V)} {vs:List (Key×Value)},KV more rs→KV kvs vs→KV (qL kvs more) (merged vs rs):=by
 intro more rs kvs vs r
 unfold KV at r
 induction r generalizing kvs vs with
 | nil=>intro q;exact q
 | @cons p q ps qs h t ih=>
  intro r0
  have e:KV (putK kvs p.1 p.2) (stored vs q.1 q.2):=by
   have:=r0.put p.1 h.2
   rw[←h.1];exact this
  exact ih e
theorem lE:∀(more kvs:List (Key×V)),(qL kvs more).length≤kvs.length+more.length
 | [],kvs=>by show kvs.length≤kvs.length+0;omega
 | p::r,kvs=>by
  have h1:=lE r (putK kvs p.1 p.2)
  have h2:=xF kvs p.1 p.2
  show (qL (putK kvs p.1 p.2) r).length≤_
  rw[G9];omega
theorem qM{P:Program}{w:World}:∀{kvs:List (Key×V)} {ws:List (Value×Value)},VV (kvs.map λkv=>(kV kv.1,kv.2)) ws→∃rs,Carries (eE P w) ws rs∧KV kvs rs
 | [],_,r=>by rw[J6]at r;cases r;exact⟨[],True.intro,.nil⟩
 | p::kvs,_,r=>by
  rw[D8]at r
  cases r with
  | @cons a b as bs h t=>
   obtain⟨rs,c,q⟩:=qM (P:=P) (w:=w) t
   obtain⟨b1,b2⟩:=b
   exact⟨(p.1,b2)::rs,⟨Za h.1,rfl,c⟩,.cons ⟨rfl,h.2⟩ q⟩
def Rg(Ma:List (TE×TE)):TE:=λσ H Q=>∀p,H p=none→uU Ma σ (upd H p (.dK [])) λps H2=>H2 p=some (.dK [])∧∃kvs:List (Key×V),ps=kvs.map (λkv=>(kV kv.1,kv.2))∧kvs.length≤15∧Q (.ref p) (upd H2 p (.dK (qL [] kvs)))
theorem Mg{X:Cx}{pos:Pos}{keys:List (Option Expr)}{values:List Expr}{Ma:List (TE×TE)}(h:Xu X pos keys values Ma)(hall:keys.all (·.isSome)=true)(hl:keys.length=values.length)(h0:keys≠[])
  (h15:keys.length≤15):PE X (.Dict keys values pos) (Rg Ma):=by
 intro pins s σ H Q I q
 have hn:=I.hok.fresh (C0 s.heap.objs.size)
 have I1:=I.laid (a:=s.heap.objs.size) (o:=.dK []) (h':=s.heap.push {cls:=.type "dict", data:=.dict #[]}) (t':=s.toks) (λ_ _ q=>Heap.get?_push_of_some _ q) (C0 _) (Gg s.heap I.big)
 refine wpAny_Dict_walk (knd:=eE X.prog X.w) hall hl h0 h15 (cV (h pins _ σ _ _ I1 (q _ hn)) λws s2 ⟨ps,H2,I2,rel,e,kvs,ep,lk,q2⟩=>?_)
 subst ep
 obtain⟨rs,c,rk⟩:=qM (P:=X.prog) (w:=X.w) rel
 obtain⟨z,hd,VH,r0,dd⟩:=Zc I2.hok e
 cases r0
 refine⟨rs,c,dd,λh' PL hs=>⟨.ref s.heap.objs.size,_,?_,rfl,q2⟩⟩
 have hz:(qL [] kvs).length≤sizeLine:=by
  have h1:=lE kvs []
  rw[S7]at h1
  rw[sizeLine_eq];omega
 have he:∃q,h'.get? s.heap.objs.size=some q:=let ⟨q,_,_,hq,_⟩:=PL;⟨q,hq⟩
 exact Lz I2 (by rw[e];exact True.intro) hs he (Um hz hd (rk.merge .nil) PL)
structure M1(X:Cx)(o:Expr)(m:Str)(apos:Pos)(e:Expr)(cpos:Pos):Prop where
 base:attributeBase o m X.env (eval o X.env)=eval o X.env
 few:((backTo cpos (starEach [e] X.env)).all (λx=>!x.1)&&(backToKw cpos (keywordEach [] X.env)).all (λx=>x.1.isSome)
  && decide (([e]:List Expr).length+([]:List Keyword).length+(if([]:List Keyword).isEmpty then 0 else 1)<30))=true
 line:(apos.endLine==cpos.line)=true
 trees:backTo cpos (starEach [e] X.env)=[(false,eval e X.env)]
structure M2(X:Cx)(o:Expr)(m:Str)(apos:Pos)(e f:Expr)(cpos:Pos):Prop where
 base:attributeBase o m X.env (eval o X.env)=eval o X.env
 few:((backTo cpos (starEach [e,f] X.env)).all (λx=>!x.1)&&(backToKw cpos (keywordEach [] X.env)).all (λx=>x.1.isSome)
  && decide (([e,f]:List Expr).length+([]:List Keyword).length+(if([]:List Keyword).isEmpty then 0 else 1)<30))=true
 line:(apos.endLine==cpos.line)=true
 trees:backTo cpos (starEach [e,f] X.env)=[(false,eval e X.env),(false,eval f X.env)]
section
variable{X:Cx}{pins:List (Addr×Obj)}{σ:St}{H:Hp}{s:Shared}{a:Addr}{y d:V}{u r:Value}{o:Option V}{A:Around}{E:Value→Shared→Prop}
end
section
variable{X:Cx}{o e f:Expr}{apos cpos:Pos}{td ty tx:TE}
end
section
variable{X:Cx}{pins:List (Addr×Obj)}{σ:St}{H:Hp}{s:Shared}{a:Addr}{kvs:List (Key×V)}{A:Around}{E:Value→Shared→Prop}
end
section
variable{X:Cx}{pins:List (Addr×Obj)}{σ:St}{H:Hp}{s:Shared}{a:Addr}{y:V}{u:Value}{A:Around}{E:Value→Shared→Prop}
end
end L2
namespace Att
open PySem PySem.W PySem.Calls PyProof.Rows
theorem pF{P:Params}{h:Heap}:∀(ns:List Int)(vs:List Value),WellAll P h vs (ns.map WData.int)→IntsAre vs ns:=by
 intro ns
 induction ns with
 | nil=>
  intro vs w
  rw[J6]at w
  cases w
  exact .nil
 | cons n ns ih=>
  intro vs w
  rw[D8]at w
  cases w with
  | cons a b=>
   cases a
   exact .cons _ _ (ih _ b)
theorem Dk{l:OpenLaw}{n:Nat}(hn:l.most=some n){P:Params}{h:Heap}{args:List WData}{vals:List Value}
  (hpre:l.row.toRowW.claim.pre args=true) (hwl:WellAll P h vals args) :
  ∃a vs ns,vals=[Value.ref a]∧args=[WData.list (ns.map WData.int)]∧h.get? a=some {cls:=.type "list", data:=.seq vs.toArray}∧IntsAre vs ns∧ns.length≤n:=by
 have hsh:WShape.hasAll [] args [.list .int]=true:=(pre_splitW hpre).1
 have hc:l.pre.holds [] {args:=args}=true:=(pre_splitW hpre).2
 obtain⟨d,r,rfl,h1,h2⟩:=hasAllW_cons hsh
 obtain rfl:=hasAllW_nil h2
 obtain⟨xs,rfl,h3⟩:=hasW_list h1
 obtain⟨ns,rfl⟩:=items_int h3
 have hlen:ns.length≤n:=by
  unfold OpenLaw.pre at hc
  have h4:(WTm.not (.lt (.lit (.int (n:Int))) (.len (.arg 0)))).holds [] {args:=[.list (ns.map .int)]}=true:=by
   have h4:=(holds_andW hc).1
   rw[hn]at h4
   exact h4
  have h5:=condW_of h4 (w_not (w_lt w_lit (w_len_list (w_arg rfl))))
  rw[D1]at h5
  refine Nat.le_of_not_lt λq=>?_
  have q':(n:Int)<((ns.length:Nat):Int):=by omega
  first
   | (rw[decide_eq_true q']at h5;exact absurd h5 (by decide))
   | (simp at h5;omega)
 cases hwl with
 | cons w1 w2=>
  cases w2
  cases w1 with
  | list ho hall=>exact⟨_,_,ns,rfl,rfl,ho,pF ns _ hall,hlen⟩
theorem Dl(l:OpenLaw)(args:List WData):l.row.toRowW.claim.post args (.bool true) args=true:=
 postW_of (r:=l.row.toRowW) (X:=(true==true))
  (show WShape.has [] (.bool true) .bool=true by first | rfl | decide | simp[WShape.has,WShape.arms,WShape.armsAll])
  (show (WTm.eq .res (.lit (.bool true))).value [] {args:=args,res:=some (.bool true),after:=args}=some (.bool (true==true))from w_eq_bool (w_res rfl) w_lit) rfl
section
variable{prog:Program}{w:World}{A:Around}{E:Value→Shared→Prop}{s:Shared}{K:Frag}
end
end Att
namespace L2
open PySem PySem.Spec PyProof.Rows
theorem tR:∀{vs:List Value} {ns:List Int},IntsAre vs ns→Vals (ns.map V.int) vs
 | _,_,.nil=>.nil
 | _,_,.cons n t h=>.cons ⟨t,rfl⟩ (tR h)
def Only(H:Hp):Prop:=∀b,H b=none∨∃o xs,H b=some (.nR o (.lst xs))
theorem Gi{P:Program}{w:World}{K:aA}{mg mb:Str→Option Value}{CX:zF}{k:Nat}{fa a:Addr}{fd:FuncData}{x:Str}{sp:Sp}{s₁:Shared}{vs:List Value}{ns:List Int}
  (KX:K.In s₁.heap) (hns:s₁.heap.Ns mainGlobals mg) (hb:s₁.heap.Ns builtinsNs mb) (hbb:∀x:Str,x ≠ "__name__" → mb x=bootBuiltins x) (hlim:s₁.heap.NoLimit) (hg:s₁.gens=#[])
  (ha:s₁.heap.get? a=some {cls:=.type "list", data:=.seq vs.toArray}) (hi:IntsAre vs ns) (hl:ns.length≤sizeLine) (hr:eN k callerA)
  (F:∀base:Heap,K.In base→base.Ns mainGlobals mg→mL P w K mg base CX k fa fd [x] sp) (hbind:∀(s:Shared)(u:Value),BindsTo s fd ⟨[u],[]⟩ [(x,u)])
  (hsp:∀H:Hp,Only H→mG K H a (ns.map V.int)→sp [.ref a] H (λv _=>v=.bl true) λ_ _ _=>False)
  (JM:∀H e s',CX [] H s₁ (λ_ _ _=>False) e s'→False) :
  codeAny (model P w) callerA (.call (.ref fa) ⟨[.ref a],[]⟩) (λr s'=>r=.ok (.ret (.bool true))∧OldK s₁.heap s'.heap∧s'.os=s₁.os∧AllBare s'.gens) s₁:=by
 have rv:=tR hi
 have lenV:=hi.length
 have core:∀H:Hp,Only H→mG K H a (ns.map V.int)→jY P w H s₁.heap→(∀b,H b≠none→b=a)→(H a≠none→K.lookup a=none) →
   codeAny (model P w) callerA (.call (.ref fa) ⟨[.ref a],[]⟩) (λr s'=>r=.ok (.ret (.bool true))∧OldK s₁.heap s'.heap∧s'.os=s₁.os∧AllBare s'.gens) s₁:=by
  intro H hO hS hok hA hK
  have Ay:∀{b:Addr} {o:Obj},s₁.heap.get? b=some o→H b=none→(uJ s₁.heap H).get? b=some o:=λe n=>Fe e n
  have Yt:∀{b:Addr} {o:Obj} {es:Array DictEntry} {ep:Nat},s₁.heap.get? b=some o→o.data=.dict es ep→H b=none:=λ{b o es ep} e d=>by
   cases q:H b with
   | none=>rfl
   | some u=>
    have e':b=a:=hA b (by rw[q];simp)
    subst e'
    rw[ha]at e;cases e
    have d':Data.seq vs.toArray _=Data.dict es ep:=d
    cases d'
  have GX:∀{b:Addr} {m:Str→Option Value},s₁.heap.Ns b m→(uJ s₁.heap H).Ns b m:=λ{b m} ⟨o,es,ep,e,d,r⟩=>⟨o,es,ep,Ay e (Yt e d),d,r⟩
  have PN:K.In (uJ s₁.heap H):=λb o e=>Ay (KX b o e) (by
   cases q:H b with
   | none=>rfl
   | some u=>
    have e':b=a:=hA b (by rw[q];simp)
    subst e'
    rw[hK (by rw[q];simp)]at e;cases e)
  have hM:Mod K mg (uJ s₁.heap H):=⟨PN,GX hns,⟨mb,GX hb,hbb⟩,let ⟨mc,h1,h2⟩:=hlim;⟨mc,GX h1,h2⟩⟩
  have e0:Ln P w K mg (uJ s₁.heap H) callerA [] s₁ H:=⟨rfl,hM,λb o e=>Kz e,Nat.le_of_eq (Cq _ _),trivial,λb hb=>absurd (show b∈([]:List Addr)from hb) (by simp),hok,.of_eq hg⟩
  refine codeAny_mono ((F _ PN (GX hns)).run callerA [] s₁ H ⟨[.ref a],[]⟩ [.ref a] [.ref a] _ _ hr e0 (hbind s₁ (.ref a)) (.cons rfl .nil) (hsp H hO hS)) λr s' h=>?_
  cases r with
  | error e=>exact(JM H e s' h).elim
  | ok fl=>
   cases fl with
   | next=>exact False.elim h
   | brk=>exact False.elim h
   | cont=>exact False.elim h
   | ret u=>
    obtain⟨v,H',os,bare,un,hok',r',q⟩:=h
    have q':v=.bl true:=q
    subst q'
    obtain rfl:u=Value.bool true:=r'
    refine⟨rfl,OldK.of_keep λb o e=>?_,os,bare⟩
    cases q:H b with
    | none=>exact un.keep b o e q (by intro z;exact absurd (show b∈([]:List Addr)from z) (by simp)) (by simp)
    | some u=>
     rcases hO b with z | ⟨ob,xs,z⟩
     ·rw[q]at z;cases z
     ·have z2:=un.pC b ob _ z
      obtain⟨e1,_⟩:=hok b _ z
      obtain⟨e2,_⟩:=hok' b _ z2
      rw[e]at e1;cases e1
      exact e2
 cases hk:K.lookup a with
 | some o=>
  have e:=KX a o hk
  rw[ha]at e
  cases e
  refine core (λ_=>none) (λ_=>.inl rfl) (.inr ⟨_,vs.toArray,_,hk,rfl,rfl,rfl,by rw[B5,lenV];exact hl,by simpa using rv⟩) (λb u z=>by have z':(none:Option HO)=some u:=z;cases z') (λb z=>absurd rfl z) λz=>absurd rfl z
 | none=>
  refine core (λb=>if b=a then some (.nR {cls:=.type "list", data:=.seq vs.toArray} (.lst (ns.map V.int)))else none) (λb=>?_) (.inl (.inr ⟨{cls:=.type "list", data:=.seq vs.toArray},if_pos rfl⟩)) (λb u z=>?_) (λb z=>?_) λ_=>hk
  ·by_cases hb:b=a
   ·exact .inr ⟨_,_,if_pos hb⟩
   ·exact .inl (if_neg hb)
  ·by_cases hb:b=a
   ·have z':=(if_pos hb).symm.trans z
    cases z'
    subst hb
    exact⟨ha,by rw[D1];exact hl,vs,_,rv,ha⟩
   ·have z':=(if_neg hb).symm.trans z
    cases z'
  ·by_cases hb:b=a
   ·exact hb
   ·exact absurd (if_neg hb) z
end L2
namespace L2
open PySem PySem.Spec PyProof.Rows
end L2
namespace L2
open PySem PySem.Spec PyProof.Rows
def cH(s:Stmt):Arguments:=match s with
 | .FunctionDef _ a _ _ _ _ _ _ _ _=>a
 | _=>{posonlyargs:=[],args:=[],vararg:=none,kwonlyargs:=[],kw_defaults:=[],kwarg:=none,defaults:=[]}
def bF(s:Stmt):List Stmt:=match s with
 | .FunctionDef _ _ b _ _ _ _ _ _ _=>b
 | _=>[]
def aH(s:Stmt):Scope:=match s with
 | .FunctionDef _ _ _ _ _ _ sc _ _ _=>sc
 | _=>{kind:=.function,names:=[],isGenerator:=false,isCoroutine:=false}
abbrev Fd:zF:=λ_ _ _ _ _ _=>False
abbrev E0:XK:=λ_ _ _=>False
theorem Zd{X:Cx}:Passes Fd X E0:=λ_ _ _ _ _ _ _ h=>h.elim
structure Ks(K:aA)(x qual:Str)(st:Stmt)(f:Addr)(fd:FuncData):Prop where
 ex:∃(oc:Value)(od:Option Addr)(kV doc pm:Value)(an:Option Addr)(cdv ct:Value)(osl:Array (Option Value)),
  fd=D4 x qual (cH st) (bF st) (aH st) .none kV doc pm an cdv ct∧K.lookup f=some ⟨oc,od,.func fd,osl⟩∧K0 K cdv qual=true
 kp:G1 K (.ref f)=true
section
variable{P:Program}{w:World}{K:aA}{mg:Str→Option Value}{base:Heap}
theorem Ks.ok{x qual:Str}{st:Stmt}{f:Addr}{fd:FuncData}{N ps:List Str}{k:Nat}{sp:Sp}(F:Ks K x qual st f fd)(S:bJ N ps (aH st))(len:∀vs H Q E,sp vs H Q E→vs.length=ps.length)
  (hbody:∀(cdv:Value)(A:Around)(outer:List Env)(s:Shared)(H:Hp)(vs:List V)(Q:VK)(E:XK),eN k (A.deeper (envOfC qual (aH st) s.heap.objs.size f cdv))→sp vs H Q E →
   ∃t,wU (eX Fd P w K mg base N qual (aH st) f cdv A outer s H E).Tn (bF st) t∧t {nx:=λ_ H'=>Q .non H',rt:=Q} (start N vs) H):mL P w K mg base Fd (k+1) f fd ps sp:=by
 obtain⟨oc,od,kV,doc,pm,an,cdv,ct,osl,rfl,lk,hcd⟩:=F.ex
 refine Qz lk hcd S len λA outer s H vs Q E hr hsp=>?_
 obtain⟨t,h,q⟩:=hbody cdv A outer s H vs Q E hr hsp
 exact⟨t,h.Tn,q⟩
theorem Ks.binds{x qual:Str}{st:Stmt}{f:Addr}{fd:FuncData}{ps:List Str}(F:Ks K x qual st f fd)
  (h:∀(kV doc pm:Value)(an:Option Addr)(cdv ct:Value)(us:List Value),us.length=ps.length→bindArgs (D4 x qual (cH st) (bF st) (aH st) .none kV doc pm an cdv ct) ⟨us,[]⟩=pure (ps.zip us)):Binds K fd ps []:=by
 obtain⟨oc,od,kV,doc,pm,an,cdv,ct,osl,rfl,lk,hcd⟩:=F.ex
 exact .all (h kV doc pm an cdv ct)
theorem Uo{x qual:Str}{st:Stmt}{f:Addr}{oc:Value}{od an:Option Addr}{osl:Array (Option Value)}{kV doc pm cdv ct:Value}(l:K.lookup f=some ⟨oc,od,.func (D4 x qual (cH st) (bF st) (aH st) .none kV doc pm an cdv ct),osl⟩)
  (c:K0 K cdv qual=true) (k:G1 K (.ref f)=true):Ks K x qual st f (D4 x qual (cH st) (bF st) (aH st) .none kV doc pm an cdv ct):=⟨⟨oc,od,kV,doc,pm,an,cdv,ct,osl,rfl,l,c⟩,k⟩
end
theorem jD{A:Around}{k:Nat}(hr:eN k A):A.units+1<cLine:=Nat.lt_of_le_of_lt (Nat.add_le_add_left (by decide:1≤64) _) hr.units
section
variable{X:Cx}
theorem pv(i:Nat){x:Str}{pos:Pos}(hN:X.N[i]?=some x:=by rfl)(hv:GC X.env.scope x:=by first | exact C9 rfl | exact C7 (C9 rfl) | exact C7 (C7 rfl))(hd:(x==("__debug__" : Str))=false:=by decide)
  (hcd:(x==("__classdict__" : Str))=false:=by decide):PE X (.Name x pos) (mD i):=Sw hN hv hd hcd
end
def aD(H H':Hp):Prop:=∀b o,H b=some o→H' b=some o
theorem aD.refl(H:Hp):aD H H:=λ_ _ h=>h
theorem aD.trans{H H1 H2:Hp}(a:aD H H1)(b:aD H1 H2):aD H H2:=λc o h=>b c o (a c o h)
theorem aD.free{H H':Hp}(e:aD H H'){l:Addr}(h:H' l=U0):H l=U0:=by
 cases q:H l with
 | none=>rfl
 | some o=>
  rw[e l o q]at h
  cases h
theorem aD.seq{K:aA}{H H':Hp}{a:Addr}{xs:List V}(e:aD H H')(h:mG K H a xs):mG K H' a xs:=by
 rcases h with (h | ⟨o,h⟩) | h
 ·exact .inl (.inl (e _ _ h))
 ·exact .inl (.inr ⟨o,e _ _ h⟩)
 ·exact .inr h
section
variable{κ:Type} [DecidableEq κ]
end
end L2


namespace L2
open PySem PySem.Spec PyProof.Rows
theorem lK(env:Env):∀(names:List (Str×NameKind))(acc:List (Str×Addr)),(∀x∈names,x.2=.free→∃c,env.cells.lookup x.1=some c) →
    ∃cl:List (Str×Addr),(forIn names acc (λ(x:Str×NameKind) (r:List (Str×Addr))=>(match x with
      | (name,kind)=>if(kind==.free)=true then do let c ←cellOf env name;pure (ForInStep.yield ((name,c)::r))else pure (ForInStep.yield r):Sem (ForInStep (List (Str×Addr))))))=pure cl ∧
      (∀x c,cl.lookup x=some c→(∃k,(x,k)∈names∧k=.free∧env.cells.lookup x=some c)∨acc.lookup x=some c) ∧
      (∀x,(x,NameKind.free)∈names→∃c,cl.lookup x=some c)∧(∀x c,acc.lookup x=some c→∃c',cl.lookup x=some c')
  | [],acc,_=>⟨acc,rfl,λx c h=>.inr h,λx h=>by simp at h,λx c h=>⟨c,h⟩⟩
  | (n,k)::r,acc,h=>by
    rw[List.forIn_cons]
    by_cases hk:k=.free
    · subst hk
      obtain⟨c,hc⟩:=h (n,.free) C4 rfl
      obtain⟨cl,e,h1,h2,h3⟩:=lK env r ((n,c)::acc) λx hx=>h x (B9 _ hx)
      refine⟨cl,?_,λx d hd=>?_,λx hx=>?_,λx d hd=>?_⟩
      · have e0:cellOf env n=pure c:=by unfold cellOf;rw[hc]
        simp only[beq_self_eq_true,if_true,e0,pure_bind]
        exact e
      · rcases h1 x d hd with ⟨k',m,q⟩ | q
        · exact .inl ⟨k',B9 _ m,q⟩
        · rw[O3]at q
          by_cases e:x==n
          · rw[e]at q
            have e':=eq_of_beq e
            subst e'
            cases q
            exact .inl ⟨.free,C4,rfl,hc⟩
          · have e':(x==n)=false:=by simpa using e
            rw[e']at q
            exact .inr q
      · rcases G0.mp hx with q | q
        · cases q
          exact h3 n c (by simp)
        · exact h2 x q
      · by_cases e:x==n
        · exact h3 x c (by rw[O3,e])
        · have e':(x==n)=false:=by simpa using e
          exact h3 x d (by rw[O3,e'];exact hd)
    · obtain⟨cl,e,h1,h2,h3⟩:=lK env r acc λx hx=>h x (B9 _ hx)
      have hb:(k==NameKind.free)=false:=by simpa using hk
      refine⟨cl,?_,λx d hd=>?_,λx hx=>?_,h3⟩
      · simp only[hb,R4,if_false,pure_bind]
        exact e
      · rcases h1 x d hd with ⟨k',m,q⟩ | q
        · exact .inl ⟨k',B9 _ m,q⟩
        · exact .inr q
      · rcases G0.mp hx with q | q
        · cases q
          exact absurd rfl hk
        · exact h2 x q
theorem sU(scope:Scope)(env:Env)(h:∀x∈scope.names,x.2=.free→∃c,env.cells.lookup x.1=some c) :
    ∃cl,closureFor scope env=pure cl∧(∀x c,cl.lookup x=some c→(x,NameKind.free)∈scope.names∧env.cells.lookup x=some c)∧∀x,(x,NameKind.free)∈scope.names→∃c,cl.lookup x=some c:=by
  obtain⟨cl,e,h1,h2,_⟩:=lK env scope.names [] h
  refine⟨cl,?_,λx c hx=>?_,h2⟩
  · unfold closureFor
    exact(congrArg (λt=>t >>= pure) e).trans (pure_bind _ _)
  · rcases h1 x c hx with ⟨k,m,rfl,q⟩ | q
    · exact⟨m,q⟩
    · simp at q
theorem uV{scope:Scope}{env:Env}(hcell:∀y∈scope.names,y.2≠.cell){x:Str}(h:(relabel scope env).names.lookup x=some .cell∨(relabel scope env).names.lookup x=some .free):(x,NameKind.free)∈scope.names:=by
 have m:(x,NameKind.cell)∈(relabel scope env).names∨(x,NameKind.free)∈(relabel scope env).names:=by
  rcases h with h | h
  ·exact .inl (G3 h)
  ·exact .inr (G3 h)
 unfold relabel at m
 rcases m with m | m
 all_goals
  obtain⟨⟨n,k⟩,hm,e⟩:=List.mem_map.mp m
  dsimp only at e
  split at e
  ·rename_i hc
   simp only[C1,beq_iff_eq]at hc
   cases e
   first
    | (rw[hc.1.1]at hm;exact hm)
    | skip
  ·cases e
   first
    | exact hm
    | exact absurd rfl (hcell _ hm)
def eY(X:Cx)(scope:Scope)(N:List Str)(cl:List (Str×Addr))(fp:List Addr)(s:Shared)(H:Hp)(C:Addr):Cx where
 prog:=X.prog
 w:=X.w
 K:=X.K
 mg:=X.mg
 base:=X.base
 A:=X.A
 N:=N
 s₀:=s
 H₀:=H
 env:=compEnvC scope cl C X.env
 outer:=X.stack
 stack:=X.stack
 ex:=fp
 calm:=X.calm
 fn:=λ_=>false
 pn:=[]
 xe:=λ_ _=>False
def zG(σ:St)(fr:List Nat):St:=fr.map λi=>σ.getD i none
def blk(k:Nat)(σ:St)(fr:List Nat):St:=D3 k none++zG σ fr
def Kp(k:Nat)(σ:St)(fr:List Nat)(σ2:St):Prop:=σ2.length=(blk k σ fr).length∧∀(j:Nat) v,(blk k σ fr)[j]?=some (some v)→σ2[j]?=some (some v)
def Ze(X:Cx)(ifs:List Expr)(t:TT):Prop:=
 ∀(pins:List (Addr×Obj))(s:Shared)(σ:St)(H:Hp)(Q:Bool→Hp→Prop),Inv X pins σ H s→t σ H Q →
  wpAny (model X.prog X.w) X.A (forIn ifs true λc r=>if r=true then do let ok ←isTrue c X.env (eval c X.env);pure (ForInStep.yield ok)else pure (ForInStep.yield r)) (TP X pins σ Q) X.xe s
def Zf:TT:=λ_ H Q=>Q true H
theorem Mh{X:Cx}:Ze X [] Zf:=λ_ _ _ H _ I h=>wpAny_tests_nil ⟨H,I,h⟩
theorem lA{prog:Program}{w:World}{A:Around}{R:Result→Shared→Prop}{s:Shared}{elt target iter:Expr}{ifs:List Expr}{scope:Scope}{pos:Pos}{it acc:Value}{env:Env}(I:Nat→Shared→Prop)
  (turn:∀n s,I n s→wpAny (model prog w) A (pyNext it) (λr s₁=>match r with
   | none=>R (.ok .next) s₁
   | some v=>wpAny (model prog w) A (letOwnedTupleGo target it v) (λ_ s₀=>wpAny (model prog w) A (assign target env v) (λ_ s₂=>
     wpAny (model prog w) A (forIn ifs true λc r=>if r=true then do let ok ←isTrue c env (eval c env);pure (ForInStep.yield ok)else pure (ForInStep.yield r)) (λok s₃=>
      if ok=true then wpAny (model prog w) A (eval elt env) (λx s₄=>
       wpAny (model prog w) A (call (.builtin "list.append") [acc,x]) (λ_ s₅=>∃m,m<n∧I m s₅) (λ_ _=>False) s₄) (λ_ _=>False) s₃
      else ∃m,m<n∧I m s₃) (λ_ _=>False) s₂) (λ_ _=>False) s₀) (λ_ _=>False) s₁) (λ_ _=>False) s)
  (n:Nat) (h:I n s) :
  codeAny (model prog w) A (.compLoop (.ListComp elt [⟨target,iter,ifs,0⟩] scope pos) 0 it acc env) R s:=by
 refine codeAny_loop rfl I (λn s hI=>?_) n h
 show wpAny _ A ((compTurn (.ListComp elt [⟨target,iter,ifs,0⟩] scope pos) 0 it acc env).onRaise (λx=>do noteFrame x env;theTreesLotGoes x)) _ _ s
 refine wpAny_noted ?_
 rw[compTurn_list]
 refine wpAny_mono (E:=λ_ _=>False) ?_ (λ_ _ q=>q) λ_ _ x=>x.elim
 refine wpAny_bind (wpAny_standAt (wpAny_bind (wpAny_mono (turn n s hI) (λr s₁ h₁=>?_) λ_ _ h'=>h')))
 cases r with
 | none=>exact wpAny_pure h₁
 | some v=>
  refine wpAny_bind (wpAny_mono h₁ (λ_ s₀ h₀=>?_) λ_ _ h'=>h')
  refine wpAny_bind (wpAny_mono h₀ (λ_ s₂ h₂=>wpAny_bind (wpAny_mono h₂ (λok s₃ h₃=>?_) λ_ _ h'=>h')) λ_ _ h'=>h')
  cases ok with
  | false=>exact wpAny_pure ⟨rfl,h₃⟩
  | true=>
   exact wpAny_bind (wpAny_bind (wpAny_mono h₃ (λx s₄ h₄=>wpAny_bind (wpAny_mono h₄ (λ_ s₅ h₅=>wpAny_pure (wpAny_pure ⟨rfl,h₅⟩)) λ_ _ h'=>h')) λ_ _ h'=>h'))
def Rh(J:It)(k:Nat)(fr:List Nat)(g:TG)(tc:TT)(te:TE)(σ:St)(H1:Hp)(Q:VK)(D:Addr):Prop:=∃W:Nat→Nat→List V→Hp→Prop,(∃m,W 0 m [] (upd H1 D (.lst []))) ∧
 ∀i m ys H,W i m ys H→H D=some (.lst ys)∧((J.stop i H∧Q (.ref D) H)∨(J.go i H∧∀x H',J.Yn i H x H'→g x (blk k σ fr) H' λσ2 H2=>Kp k σ fr σ2∧tc σ2 H2 λok H3=>if ok=true then
  te σ2 H3 λy H4=>H4 D=some (.lst ys)∧ys.length<sizeLine∧∃m',m'<m∧W (i+1) m' (ys++[y]) (upd H4 D (.lst (ys++[y])))else ∃m',m'<m∧W (i+1) m' ys H3))
def Gj(wi:TI)(k:Nat)(fr:List Nat)(g:TG)(tc:TT)(te:TE):TE:=λσ H Q=>wi σ H λJ H1=>∀D,H1 D=none→Rh J k fr g tc te σ H1 Q D
def jE(scope wM:Scope):Scope:=
 {scope with names:=scope.names.map λ(n,k)=>if(k==.free&&wM.kind==.function&&wM.names.lookup n==some .cell)then(n,.cell)else(n,k)}
structure dC(wM scope:Scope)(oN N:List Str)(k:Nat)(fr:List Nat):Prop where
 kind:scope.kind=.function
 cell:∀y∈scope.names,y.2≠.cell
 loc:∀y∈scope.names,y.2=.local→scope.names.lookup y.1=some .local
 free:∀y∈scope.names,y.2=.free→wM.names.lookup y.1=some .cell∨wM.names.lookup y.1=some .free
 len:N.length=k+fr.length
 slots:∀j∈G5 fr.length,oN[fr.getD j 0]?=N[k+j]?
 from_:∀x∈N.drop k,(x,NameKind.free)∈scope.names∧((jE scope wM).names.lookup x=some .cell∨(jE scope wM).names.lookup x=some .free)
def Gk(wM scope:Scope)(oN N:List Str)(k:Nat)(fr:List Nat):Bool:=
 decide (scope.kind=.function)&&decide (∀y∈scope.names,y.2≠.cell)&&decide (∀y∈scope.names,y.2=.local→scope.names.lookup y.1=some .local) &&
 decide (∀y∈scope.names,y.2=.free→wM.names.lookup y.1=some .cell∨wM.names.lookup y.1=some .free)&&decide (N.length=k+fr.length) &&
 decide (∀j∈G5 fr.length,oN[fr.getD j 0]?=N[k+j]?) &&
 decide (∀x∈N.drop k,(x,NameKind.free)∈scope.names∧((jE scope wM).names.lookup x=some .cell∨(jE scope wM).names.lookup x=some .free))
theorem dC.of{wM scope:Scope}{oN N:List Str}{k:Nat}{fr:List Nat}(h:Gk wM scope oN N k fr=true):dC wM scope oN N k fr:=by
 unfold Gk at h
 simp only[C1,decide_eq_true_eq]at h
 obtain⟨⟨⟨⟨⟨⟨h1,h2⟩,h3⟩,h4⟩,h5⟩,h6⟩,h7⟩:=h
 exact⟨h1,h2,h3,h4,h5,h6,h7⟩
section
variable{X:Cx}
theorem Mi{k:Nat}{σ:St}{fr:List Nat}{i:Nat}{v:V}(h:(blk k σ fr)[i]?=some (some v)):∃j o,i=k+j∧fr[j]?=some o∧σ[o]?=some (some v):=by
 unfold blk at h
 by_cases hi:i<k
 ·rw[N9 (by simpa using hi),O7]at h
  rw[if_pos hi]at h
  cases h
 ·rw[N0 (by simpa using hi),P9]at h
  unfold zG at h
  rw[C8]at h
  cases e:fr[i-k]? with
  | none=>rw[e]at h;cases h
  | some o=>
   rw[e]at h
   refine⟨i-k,o,by omega,e,?_⟩
   have h:some (σ.getD o none)=some (some v):=h
   have h:=D6 h
   rw[C5]at h
   cases e2:σ[o]? with
   | none=>rw[e2]at h;cases h
   | some z=>rw[e2]at h;exact congrArg some h
theorem zH{pins:List (Addr×Obj)}{σ:St}{H:Hp}{s:Shared}{scope:Scope}{N:List Str}{k:Nat}{fr:List Nat}{cl:List (Str×Addr)}{fp:List Addr}{h₁:Heap}{tk:Nat}{m:Str→Option Value}
    (I:Inv X pins σ H s) (B:dC X.env.scope scope X.N N k fr) (hf:∀b∈fp,sJ X pins H b) (hfo:∀b∈fp,b<s.heap.objs.size)
    (hcl:∀x c,cl.lookup x=some c→(x,NameKind.free)∈scope.names∧X.env.cells.lookup x=some c) (Mj:∀x,(x,NameKind.free)∈scope.names→∃c,cl.lookup x=some c)
    (hn:h₁.Ns (s.heap.objs.size+1) m) (hs:Heap.SameBut (s.heap.objs.size+1) ((s.heap.push {cls:=.type "list", data:=.seq ([]:List Value).toArray}).push {cls:=.type "dict", data:=.dict #[]}) h₁) :
    Inv (eY X scope N cl fp s H (s.heap.objs.size+1)) [] (blk k σ fr) (upd H s.heap.objs.size (.lst [])) {s with heap:=h₁,toks:=tk}:=by
  have I3:=I.Yz (ys:=[]) (its:=[]) (t':=tk) .nil (L8 _)
  have hD:H s.heap.objs.size=none:=I.fresh
  have hC:H (s.heap.objs.size+1)=none:=I.hok.fresh (R7 _)
  have Xr:∀b o,(s.heap.push {cls:=.type "list", data:=.seq ([]:List Value).toArray}).get? b=some o→b≠s.heap.objs.size+1:=λb o e=>by
    have:=Heap.lt_size e
    rw[Heap.size_push]at this
    exact C3 this
  have Ri:∀b o,(s.heap.push {cls:=.type "list", data:=.seq ([]:List Value).toArray}).get? b=some o→h₁.get? b=some o:=λb o e=>
    hs.extBut b o (Xr b o e) (Heap.get?_push_of_some _ e)
  have kept:∀b o,s.heap.get? b=some o→h₁.get? b=some o:=λb o e=>Ri b o (Heap.get?_push_of_some _ e)
  refine⟨⟨I.ok.mod,B.kind,I.ok.glob,I.ok.blt,R7 _,λx y c h1 h2=>I.ok.inj x y c (hcl x c h1).2 (hcl y c h2).2,λx hx=>Mj x (uV B.cell hx),λx c h _=>(nomatch h),
      I.ok.hd,I.ok.frames,.inl rfl,λb hb=>⟨?_,λx c e=>(hf b hb).2.2.2.2.1 x c (hcl x c e).2⟩,λb o e=>I.bs b o e,F4 I.ok.Ez I.sz,λb o e hb=>?_,λb hb hb2=>?_,I.stack,I.uM⟩,
    rfl,I.bare,Un.laid kept (C0 _) hD,⟨m,hn,λi x v h1 h2 h3=>?_⟩,λx c e=>?_,?_,λx c e=>?_,λp hp=>absurd (show p∈([]:List (Addr×Obj))from hp) (by simp),?_,?_⟩
  · exact C3 (N6 (hfo b hb))
  · rcases(hf b hb).2.2.2.1 with z | z
    · exact I.ok.uK b o e z
    · exact absurd (B4 (Heap.lt_size e) (F4 I.ok.Ez z)) (G4 _)
  · rcases G0.mp (I.uL b hb2)with z | z
    · exact(hf b hb).2.1 z
    · exact(hf b hb).2.2.1 z
  · obtain⟨j,o,rfl,h4,h5⟩:=Mi h2
    have h1:N[k+j]?=some x:=h1
    have hj:j<fr.length:=(B6.mp h4).1
    have hx:X.N[o]?=some x:=by
      have q:=B.slots j (J5.mpr hj)
      rw[C5,h4]at q
      exact q.trans h1
    obtain⟨hfr,RG⟩:=B.from_ x (K2 (i:=j) (by rw[List.getElem?_drop];exact h1))
    have hk:=B.free _ hfr rfl
    obtain⟨m0,hn0,hl0⟩:=I.loc
    have hv:GC X.env.scope x:=by
      rcases hk with q | q
      · exact .inr (.inl q)
      · exact .inr (.inr q)
    obtain⟨u,r,l⟩:=hl0 o x v hx h5 hv
    refine⟨u,r,.inr ?_⟩
    rcases l with ⟨q,_⟩ | ⟨_,c,e,z⟩
    · rcases hk with q' | q'
      · exact absurd (q.symm.trans q') (by intro z;cases z)
      · exact absurd (q.symm.trans q') (by intro z;cases z)
    · obtain⟨c',e'⟩:=Mj x hfr
      have e2:=(hcl x c' e').2
      rw[e]at e2
      cases e2
      refine⟨RG,c,e',?_⟩
      obtain⟨oc,hoc,hd⟩:=z
      exact⟨oc,kept c oc hoc,hd⟩
  · obtain⟨v,oc,hoc,hd⟩:=I.cell x c (hcl x c e).2
    exact⟨v,oc,kept c oc hoc,hd⟩
  · show upd H s.heap.objs.size (.lst []) (s.heap.objs.size+1)=none
    rw[aZ (O2 (R9 _))]
    exact hC
  · have hc:=(hcl x c e).2
    obtain⟨v,oc,hoc,hd⟩:=I.cell x c hc
    show upd H s.heap.objs.size (.lst []) c=none
    rw[aZ (C3 (Heap.lt_size hoc))]
    exact I.fH x c hc
  · exact jY.kept I3.hok Ri
  · show (blk k σ fr).length=N.length
    rw[B.len]
    unfold blk zG
    simp
theorem Gm{tg elt iter:Expr}{ifs:List Expr}{scope:Scope}{pos:Pos}{N:List Str}{k:Nat}{fr:List Nat}{g:TG}{tc:TT}{te:TE}{cl:List (Str×Addr)}{pins:List (Addr×Obj)}{σ:St}{H:Hp}{s:Shared}{it:Addr}{fp:List Addr}{tn:Nat→Heap→Prop}{J:It}{Q:VK}
    {RR:Value→Addr→Result→Shared→Prop} {E:Value→Shared→Prop} (hcalm:X.calm=true) (I:Inv X pins σ H s) (T:Turn X.prog X.w X.K tg J fp it tn) (st:tn 0 s.heap) (hf:∀b∈fp,sJ X pins H b) (B:dC X.env.scope scope X.N N k fr)
    (hcl:∀x c,cl.lookup x=some c→(x,NameKind.free)∈scope.names∧X.env.cells.lookup x=some c) (Mj:∀x,(x,NameKind.free)∈scope.names→∃c,cl.lookup x=some c)
    (hg:∀cl fp s H C,PG (eY X scope N cl fp s H C) tg g) (hc:∀cl fp s H C,Ze (eY X scope N cl fp s H C) ifs tc) (he:∀cl fp s H C,PE (eY X scope N cl fp s H C) elt te)
    (hw:∀D,H D=none→Rh J k fr g tc te σ H Q D)
    (hRR:∀D C m s' H',s'.heap.Ns C m→s.heap.objs.size≤C→H' C=none→C≠D→Inv X pins σ H' s'→Q (.ref D) H'→RR (.ref D) C (.ok .next) s') :
    wpAny (model X.prog X.w) X.A (newList []) (λacc s₃=>wpAny (model X.prog X.w) X.A (newFunctionEnv scope X.env.globals cl [] X.env.qual none .none (some X.env)) (λcenv s₄=>
      codeAny (model X.prog X.w) X.A (.compStart (.ListComp elt [⟨tg,iter,ifs,0⟩] scope pos) 0 (.ref it) acc {cenv with scope:=relabel scope X.env}) (RR acc cenv.locals) s₄) E s₃) E s:=by
  refine wpAny_newObj_type (wpAny_newFunctionEnv B.cell (by intro y hy;simp at hy) (λh₁ hns₁ hsb₁=>?_) B.kind)
  dsimp only at hns₁ hsb₁ ⊢
  rw[Heap.size_push]at hns₁ hsb₁ ⊢
  have hfo:∀b∈fp,b<s.heap.objs.size:=λb hb=>by
    obtain⟨o,e,_⟩:=T.obj 0 _ st b hb
    exact Heap.lt_size e
  have I4:=zH (tk:=s.toks+([]:List (Str×Value)).length) I B hf hfo hcl Mj hns₁ hsb₁
  generalize hD:s.heap.objs.size=D at *
  have RJ:H D=none:=by rw[←hD];exact I.fresh
  obtain⟨W,⟨m0,w0⟩,turn⟩:=hw D RJ
  have st1:tn 0 h₁:=T.keep 0 _ _ st λb hb o e=>hsb₁.extBut b o (C3 (N6 (by have:=hfo b hb;exact this))) (Heap.get?_push_of_some _ (Heap.get?_push_of_some _ e))
  have RK:∀b∈fp,(upd H D (.lst [])) b=none:=λb hb=>by
    rw[aZ (C3 (hfo b hb))]
    exact(hf b hb).1
  generalize hX':eY X scope N cl fp s H (D+1)=X' at I4
  have stat:∀{H':Hp},(∀b∈fp,H' b=none)→∀b∈fp,sJ X' [] H' b:=λ{H'} hn b hb=>by
    subst hX'
    refine⟨hn b hb,?_,λz=>?_,.inl hb,λx c e=>(hf b hb).2.2.2.2.1 x c (hcl x c e).2,λp hp=>absurd (show p∈([]:List (Addr×Obj))from hp) (by simp)⟩
    · exact C3 (N6 (hfo b hb))
    · rcases G0.mp (I.uL b z)with z | z
      · exact(hf b hb).2.1 z
      · exact(hf b hb).2.2.1 z
  have loop:∀s₃:Shared,s₃={s with heap:=h₁,toks:=s.toks+([]:List (Str×Value)).length} →
      codeAny (model X.prog X.w) X.A (.compLoop (.ListComp elt [⟨tg,iter,ifs,0⟩] scope pos) 0 (.ref it) (.ref D) (compEnvC scope cl (D+1) X.env)) (RR (.ref D) (D+1)) s₃:=by
    rintro s₃ rfl
    refine lA (λn s'=>∃i ys H',Inv X' [] (blk k σ fr) H' s'∧tn i s'.heap∧(∀b∈fp,H' b=none)∧W i n ys H') ?_ m0 ⟨0,[],_,I4,st1,RK,w0⟩
    rintro n s5 ⟨i,ys,H5,I5,st5,fr5,w5⟩
    obtain⟨hys,way⟩:=turn i n ys H5 w5
    have e1:X'.prog=X.prog:=by rw[←hX'];rfl
    have e2:X'.w=X.w:=by rw[←hX'];rfl
    have e3:X'.K=X.K:=by rw[←hX'];rfl
    have e4:X'.A=X.A:=by rw[←hX'];rfl
    have e5:X'.calm=true:=by rw[←hX'];exact hcalm
    have e6:X'.env=compEnvC scope cl (D+1) X.env:=by rw[←hX'];rfl
    have e7:X'.xe=λ_ _=>False:=by rw[←hX'];rfl
    rcases way with ⟨stop,q⟩ | ⟨go,step⟩
    · have d:=T.done X' e1 e2 e3 e5 i [] s5 _ H5 (λ_ _=>False) I5 (stat fr5) st5 stop
      rw[e4]at d
      refine cV d λr s6 ⟨hr,I6⟩=>?_
      subst hr
      subst hX'
      obtain⟨m6,RL,_⟩:=I6.loc
      refine hRR D (D+1) m6 s6 H5 RL (R7 _) I6.free (O2 (R9 _)) ?_ q
      exact I.call' I6.os I6.base I6.hok I6.bare λb hb=>⟨(hf b hb).2.2.2.1,(hf b hb).2.1,(hf b hb).2.2.2.2.1,(hf b hb).2.2.2.2.2⟩
    · have d:=T.item X' e1 e2 e3 e5 i [] s5 _ H5 (λ_ _=>False) I5 (stat fr5) st5 go
      rw[e4]at d
      refine cV d λr s6 ⟨u,hr,h6⟩=>?_
      subst hr
      refine cV h6 λ_ s7 ⟨x,H7,I7,r7,y7,st7,fr7⟩=>?_
      have RM:=I7.pinned (stat fr7) (T.obj _ _ st7)
      have hg':PG X' tg g:=by rw[←hX'];exact hg _ _ _ _ _
      have hc':Ze X' ifs tc:=by rw[←hX'];exact hc _ _ _ _ _
      have he':PE X' elt te:=by rw[←hX'];exact he _ _ _ _ _
      have a1:=hg' _ s7 _ H7 x u _ RM r7 (step x H7 y7)
      rw[e1,e2,e4,e6,e7]at a1
      refine cV a1 λ_ s8 ⟨σ8,H8,I8,⟨kl,kk⟩,q8⟩=>?_
      have a2:=hc' _ s8 σ8 H8 _ I8 q8
      rw[e1,e2,e4,e6,e7]at a2
      refine cV a2 λok s9 ⟨H9,I9,q9⟩=>?_
      have again:∀{Ha:Hp} {ya:List V} {sa:Shared},Inv X' ([]++qI fp s7.heap) σ8 Ha sa→(∃m',m'<n∧W (i+1) m' ya Ha) →
          ∃m,m<n∧∃i ys H',Inv X' [] (blk k σ fr) H' sa∧tn i sa.heap∧(∀b∈fp,H' b=none)∧W i m ys H':=λ{Ha ya sa} Ia ⟨m',hm,w'⟩=>by
        refine⟨m',hm,i+1,ya,Ha,(Ia.weak kl.symm kk).mK,T.keep _ _ _ st7 λb hb o e=>(Ia.pin (b,o) (B7 _ (B7 _ (iD hb e)))).1,λb hb=>?_,w'⟩
        obtain⟨o,e,d⟩:=T.obj _ _ st7 b hb
        exact(Ia.pin (b,o) (B7 _ (B7 _ (iD hb e)))).2.1
      cases ok with
      | false=>exact again I9 q9
      | true=>
        have a3:=he' _ s9 σ8 H9 _ I9 q9
        rw[e1,e2,e4,e6,e7]at a3
        show wpAny _ _ _ _ _ s9
        refine cV a3 λv RN ⟨y,H10,I10,r10,hD10,hz,q10⟩=>?_
        have a4:=Dj (X:=X') _ RN σ8 H10 (.ref D) [y] (.ref D) [v] (λ_ PQ=>PQ=upd H10 D (.lst (ys++[y]))) I10 rfl (.cons r10 .nil) ⟨D,ys,y,rfl,rfl,hD10,hz,rfl⟩
        rw[e1,e2,e4,e7]at a4
        refine cV a4 λ_ VJ ⟨_,PQ,I11,_,e11⟩=>?_
        subst e11
        exact again I11 q10
  exact codeAny_compStart_list (loop _ rfl) (T.self _ 0 _ _ _ st1 (loop _ rfl))
theorem Ml{tg elt iter:Expr}{ifs:List Expr}{scope:Scope}{pos:Pos}{wi:TI}{g:TG}{tc:TT}{te:TE}(N:List Str)(k:Nat)(fr:List Nat)(hcalm:X.calm=true)(B:dC X.env.scope scope X.N N k fr)(hi:PI X tg iter wi)
  (hg:∀cl fp s H C,PG (eY X scope N cl fp s H C) tg g) (hc:∀cl fp s H C,Ze (eY X scope N cl fp s H C) ifs tc) (he:∀cl fp s H C,PE (eY X scope N cl fp s H C) elt te)
  (hs:∀x,foldedSetIterable iter X.env x=pure x:=by intro _;rfl):PE X (.ListComp elt [⟨tg,iter,ifs,0⟩] scope pos) (Gj wi k fr g tc te):=by
 intro pins s σ H Q I h
 obtain⟨cl,e,h1,h2⟩:=sU scope X.env λy hy hk=>I.ok.has y.1 (B.free y hy hk)
 rw[eval_ListComp]
 refine wpAny_comprehension_free (use:=none) rfl hs e B.kind B.loc (wpAny_mono (hi pins s σ H _ I h) (λxv s₁ q₁=>wpAny_mono q₁ (λitv s₂ q₂=>?_) λ_ _ x=>x) λ_ _ x=>x)
 obtain⟨it,fp,tn,J,H2,rfl,I2,T,st2,f2,hw⟩:=q₂
 refine Gm (Q:=Q) (RR:=λacc C=>compPost (model X.prog X.w) X.A X.xe none (EP X pins σ Q) acc C) hcalm I2 T st2 f2 B h1 h2 hg hc he hw ?_
 intro D C m s' H' hn hC hf hne I' q
 refine⟨m,hn,λh' hs'=>⟨.ref D,H',?_,rfl,q⟩⟩
 exact I'.turned (t':=s'.toks) (λb o hb eb=>(hs'.2 b hb).trans eb) hf (O2 (B4 I2.lt hC)) (.inr (F4 I2.sz hC)) (λx c ec z=>by
  obtain⟨v,q⟩:=I2.cell x c ec
  exact absurd (B4 q.lt (by rw[z];exact hC)) (G4 _)) λp hp z=>absurd (B4 (Heap.lt_size (I2.pin p hp).1) (by rw[z];exact hC)) (G4 _)
end
end L2


set_option maxHeartbeats 4000000
namespace L2
open PySem PySem.Spec PyProof.Rows
def Zg(J:It)(P:Hp→Prop)(xs:List V):Prop:=
 ∀i H,P H→(i<xs.length→J.go i H)∧(∀x H',J.Yn i H x H'→H'=H∧(i<xs.length→xs[i]?=some x))∧(xs.length≤i→J.stop i H)
theorem Dm{lo:Int}{n:Nat}:Zg (GP lo n) (λ_=>True) ((G5 n).map λi:Nat=>V.int (lo+(i:Int))):=λi H _=>
 ⟨λh=>show i<n by simpa using h,λx H' ⟨e,y⟩=>⟨e,λh=>by
  have h:i<n:=by simpa using h
  subst y
  simp[h]⟩,λh=>show n≤i by simpa using h⟩
section
variable{X:Cx}
theorem Mm{scope:Scope}{N:List Str}{x:Str}{pos:Pos}(hN:N.Nodup)(hi:N[0]?=some x)(hx:(jE scope X.env.scope).names.lookup x=some .local) :
  ∀cl fp s H C,PG (eY X scope N cl fp s H C) (.Name x pos) (bO 0):=λ_ _ _ _ _=>mJ hN hi (C9 hx) (C7 hx)
theorem Az{J:It}{P:Hp→Prop}{xs:List V}(hJ:Zg J P xs){g:TG}{tb:TS}{D:Ends}{σ:St}{H:Hp}(Pv:Nat→St→Hp→Prop)(h0:Pv 0 σ H)(hl:∀i σ H,i≤xs.length→Pv i σ H→P H)
  (hs:∀i x σ H,xs[i]?=some x→Pv i σ H→g x σ H λσ2 H2=>tb {D with nx:=Pv (i+1),ct:=Pv (i+1),bk:=D.nx} σ2 H2) (hd:∀σ H,Pv xs.length σ H→D.nx σ H) :
  ∃W:Nat→Nat→St→Hp→Prop,(∃m,W 0 m σ H)∧∀i m σ H,W i m σ H →
   (J.stop i H∧D.nx σ H)∨(J.go i H∧∃N:St→Hp→Prop,(∀σ' H',N σ' H'→∃m',m'<m∧W (i+1) m' σ' H')∧∀x H',J.Yn i H x H'→g x σ H' λσ2 H2=>tb {D with nx:=N,ct:=N,bk:=D.nx} σ2 H2):=by
 refine⟨λi m σ H=>m=xs.length-i∧i≤xs.length∧Pv i σ H,⟨xs.length,by simp,L8 _,h0⟩,?_⟩
 rintro i m σ H ⟨rfl,hi,p⟩
 obtain⟨j1,j2,j3⟩:=hJ i H (hl i σ H hi p)
 by_cases hlt:i<xs.length
 ·refine .inr ⟨j1 hlt,Pv (i+1),λσ' H' p'=>⟨xs.length-(i+1),by omega,rfl,hlt,p'⟩,λx H' y=>?_⟩
  obtain⟨e,ex⟩:=j2 x H' y
  subst e
  exact hs i x σ _ (ex hlt) p
 ·have e:i=xs.length:=by omega
  subst e
  exact .inl ⟨j3 (C0 _),hd σ H p⟩
end
end L2


namespace L2
open PySem PySem.Spec PyProof.Rows
section
variable{X:Cx}
theorem oX:∀{bs:List Bool} {us:List Value},Vals (bs.map V.bl) us→us=bs.map Value.bool
 | [],us,r=>by rw[J6]at r;cases r;rfl
 | b::bs,us,r=>by
  rw[D8]at r
  cases r with
  | cons r1 r2=>
   cases(show _=Value.bool b from r1)
   rw[oX r2]
   rfl
theorem zJ(bs:List Bool):((G5 bs.length).all λi=>(bs[i]?).getD true)=bs.all id:=by
 rw[F6,I0,I0]
 constructor
 ·intro h b hb
  obtain⟨i,hi,rfl⟩:=List.getElem_of_mem hb
  have:=h i (J5.mpr hi)
  simpa[hi]using this
 ·intro h i hi
  have hi':=J5.mp hi
  simp only[B3 hi',S0]
  exact h _ (List.getElem_mem hi')
theorem Mp{s:Shared}{h':Heap}{o:Obj}(hk:∀b x,b∉[s.heap.objs.size]→(s.heap.push o).get? b=some x→h'.get? b=some x):∀b x,s.heap.get? b=some x→h'.get? b=some x:=
 λb x e=>hk b x (λhm=>by rw[F9.mp hm]at e;exact G4 _ (Heap.lt_size e)) (Heap.get?_push_of_some _ e)
theorem Gn(hc:X.calm=true):dB X (.builtin "all") (λxs H Q=>∃(p:Addr)(bs:List Bool),xs=[.ref p]∧mG X.K H p (bs.map V.bl)∧Q (.bl (bs.all id)) H):=by
 intro pins s σ H xs us Q I r h
 obtain⟨p,bs,rfl,hq,q⟩:=h
 obtain⟨u,rfl,rx⟩:=vals1 r
 cases rx
 obtain⟨its,rv,pl,hz⟩:=I.list hq
 have hb:=oX rv
 subst hb
 have hl:=pl.isList
 have hlt:p<s.heap.objs.size:=by obtain⟨_,e,_⟩:=hl;exact Heap.lt_size e
 refine call_all_walk (wpAny_pyIter_list hl ?_)
 refine⟨s.heap.objs.size,[s.heap.objs.size,p],[s.heap.objs.size],_,_,_,λi=>(bs[i]?).getD true,rfl,Walks.list (A:=X.A.in1) (I.ok.hd hc) _ p (C3 hlt) _,
  ⟨⟨_,Heap.get?_push_size _ rfl,rfl,rfl⟩,hl.push _⟩,λi v s' Q' E' hP hQ=>?_,λh' tk hk=>?_⟩
 ·have e:(bs.map Value.bool)[i]?=some v:=by simpa using hP
  rw[C8]at e
  cases e2:bs[i]? with
  | none=>rw[e2]at e;cases e
  | some b=>
   rw[e2]at e
   cases e
   simp only[e2,S0]at hQ
   exact wpAny_truthy_bool hQ
 ·have e:((G5 (bs.map Value.bool).toArray.size).all λi=>(bs[i]?).getD true)=bs.all id:=by
   rw[B5,D1];exact zJ bs
  rw[e]
  exact⟨.bl _,H,I.kept (Mp hk),rfl,q⟩
end
inductive DV where
  | int (i:Int) | non | lst (ds:List DV) | tup (ds:List DV)
mutual
def Reads(K:aA)(H:Hp):DV→V→Prop
 | .int i,x=>x=.int i
 | .non,x=>x=.non
 | .lst ds,x=>∃a xs,x=.ref a∧mG K H a xs∧aY K H ds xs
 | .tup ds,x=>∃a xs,x=.ref a∧mH K H a xs∧aY K H ds xs
def aY(K:aA)(H:Hp):List DV→List V→Prop
 | [],xs=>xs=[]
 | d::ds,xs=>∃y ys,xs=y::ys∧Reads K H d y∧aY K H ds ys
end
mutual
def DV.depth:DV→Nat
 | .int _=>0
 | .non=>0
 | .lst ds=>bZ ds+1
 | .tup ds=>bZ ds+1
def bZ:List DV→Nat
 | []=>0
 | d::ds=>max d.depth (bZ ds)
end
theorem aY.length{K:aA}{H:Hp}:∀{ds:List DV} {xs:List V},aY K H ds xs→xs.length=ds.length
 | [],xs,h=>by
  unfold aY at h
  rw[h]
  rfl
 | d::ds,xs,h=>by
  unfold aY at h
  obtain⟨y,ys,rfl,_,h2⟩:=h
  simp[aY.length h2]
theorem aY.get{K:aA}{H:Hp}:∀{ds:List DV} {xs:List V} {i:Nat} {d:DV},aY K H ds xs→ds[i]?=some d→∃x,xs[i]?=some x∧Reads K H d x
 | [],xs,i,d,h,e=>by simp at e
 | d'::ds,xs,0,d,h,e=>by
  unfold aY at h
  obtain⟨y,ys,rfl,h1,_⟩:=h
  simp at e
  subst e
  exact⟨y,rfl,h1⟩
 | d'::ds,xs,i+1,d,h,e=>by
  unfold aY at h
  obtain⟨y,ys,rfl,_,h2⟩:=h
  obtain⟨x,e1,e2⟩:=aY.get h2 (by simpa using e)
  exact⟨x,by simpa using e1,e2⟩
theorem qN:∀{ds:List DV} {i:Nat} {d:DV},ds[i]?=some d→d.depth≤bZ ds
 | [],i,d,e=>by simp at e
 | d'::ds,0,d,e=>by
  simp at e
  subst e
  unfold bZ
  exact Nat.le_max_left _ _
 | d'::ds,i+1,d,e=>by
  have:=qN (ds:=ds) (i:=i) (d:=d) (by simpa using e)
  unfold bZ
  exact F4 this (Nat.le_max_right _ _)
theorem zK(A:Around):A.in1.units=A.units+1:=rfl
section
open SeqAt
open Classical in
noncomputable def jF(d e:DV):Bool:=decide (d=e)
theorem mO{d e:DV}:jF d e=true↔d=e:=by unfold jF;simp
theorem jG(d:DV):jF d d=true:=mO.mpr rfl
theorem cA{d e:DV}(h:d≠e):jF d e=false:=by unfold jF;simp[h]
theorem Mq(a b:Int):jF (.int a) (.int b)=(a==b):=by
 by_cases h:a=b
 ·subst h;simp[jG]
 ·rw[cA (by simpa using h)];simp[h]
open Classical in
theorem eG{ds es:List DV}(hl:ds.length=es.length):((G5 ds.length).all λi=>match ds[i]?,es[i]? with | some d,some e=>jF d e | _,_=>true)=decide (ds=es):=by
 rw[F6,I0,decide_eq_true_iff]
 constructor
 ·intro h
  apply S1 hl
  intro i h1 h2
  have:=h i (J5.mpr h1)
  simp only[B3 h1,B3 h2]at this
  exact mO.mp this
 ·rintro rfl i hi
  have hi':=J5.mp hi
  simp only[B3 hi']
  exact jG _
variable{X:Cx}{pins:List (Addr×Obj)}{σ:St}{H:Hp}{s:Shared}
open Classical in
theorem Ba(ds es:List DV):jF (.lst ds) (.lst es)=decide (ds=es):=by
 by_cases h:ds=es
 ·subst h;simp[jG]
 ·rw[cA (by intro z;cases z;exact h rfl)];simp[h]
open Classical in
theorem Bb(ds es:List DV):jF (.tup ds) (.tup es)=decide (ds=es):=by
 by_cases h:ds=es
 ·subst h;simp[jG]
 ·rw[cA (by intro z;cases z;exact h rfl)];simp[h]
theorem tU(I:Inv X pins σ H s):∀(n:Nat)(d e:DV)(x:V),d.depth≤n→Reads X.K H d x→Reads X.K H e x→d=e:=by
 have lists:∀(n:Nat),(∀(d e:DV)(x:V),d.depth≤n→Reads X.K H d x→Reads X.K H e x→d=e)→∀(ds es:List DV)(xs:List V),bZ ds≤n→aY X.K H ds xs→aY X.K H es xs→ds=es:=by
  intro n ih ds
  induction ds with
  | nil=>
   intro es xs _ h1 h2
   have l1:=h1.length
   have l2:=h2.length
   cases es with
   | nil=>rfl
   | cons _ _=>rw[l1]at l2;simp at l2
  | cons d ds ihl=>
   intro es xs hd h1 h2
   have hd1:d.depth≤n:=by unfold bZ at hd;omega
   have hd2:bZ ds≤n:=by unfold bZ at hd;omega
   unfold aY at h1
   obtain⟨y,ys,rfl,a1,a2⟩:=h1
   cases es with
   | nil=>have:=h2.length;simp at this
   | cons e es=>
    unfold aY at h2
    obtain⟨y',ys',q,b1,b2⟩:=h2
    cases q
    rw[ih d e y hd1 a1 b1,ihl es ys hd2 a2 b2]
 have kinds:∀{a:Addr} {xs ys:List V},mG X.K H a xs→mH X.K H a ys→False:=λ{a xs ys} h1 h2=>by
  obtain⟨_,_,p1,_⟩:=I.list h1
  obtain⟨_,_,p2,_⟩:=I.tuple h2
  exact ne_of_list_tuple p1.isList (show s.heap.IsTuple a _ from p2) rfl
 intro n
 induction n with
 | zero=>
  intro d e x hd h1 h2
  cases d with
  | int i=>
   unfold Reads at h1
   subst h1
   cases e with
   | int j=>unfold Reads at h2;cases h2;rfl
   | non=>unfold Reads at h2;cases h2
   | lst es=>unfold Reads at h2;obtain⟨_,_,q,_⟩:=h2;cases q
   | tup es=>unfold Reads at h2;obtain⟨_,_,q,_⟩:=h2;cases q
  | non=>
   unfold Reads at h1
   subst h1
   cases e with
   | non=>rfl
   | int j=>unfold Reads at h2;cases h2
   | lst es=>unfold Reads at h2;obtain⟨_,_,q,_⟩:=h2;cases q
   | tup es=>unfold Reads at h2;obtain⟨_,_,q,_⟩:=h2;cases q
  | lst ds=>unfold DV.depth at hd;omega
  | tup ds=>unfold DV.depth at hd;omega
 | succ n ih=>
  intro d e x hd h1 h2
  cases d with
  | int i=>
   unfold Reads at h1
   subst h1
   cases e with
   | int j=>unfold Reads at h2;cases h2;rfl
   | non=>unfold Reads at h2;cases h2
   | lst es=>unfold Reads at h2;obtain⟨_,_,q,_⟩:=h2;cases q
   | tup es=>unfold Reads at h2;obtain⟨_,_,q,_⟩:=h2;cases q
  | non=>
   unfold Reads at h1
   subst h1
   cases e with
   | non=>rfl
   | int j=>unfold Reads at h2;cases h2
   | lst es=>unfold Reads at h2;obtain⟨_,_,q,_⟩:=h2;cases q
   | tup es=>unfold Reads at h2;obtain⟨_,_,q,_⟩:=h2;cases q
  | lst ds=>
   unfold Reads at h1
   obtain⟨a,xs,rfl,hq,r⟩:=h1
   cases e with
   | int j=>unfold Reads at h2;cases h2
   | non=>unfold Reads at h2;cases h2
   | lst es=>
    unfold Reads at h2
    obtain⟨b,ys,q,hq2,r2⟩:=h2
    cases q
    have:=I.Fo hq hq2
    subst this
    rw[lists n ih ds es xs (by unfold DV.depth at hd;omega) r r2]
   | tup es=>
    unfold Reads at h2
    obtain⟨b,ys,q,hq2,r2⟩:=h2
    cases q
    exact(kinds hq hq2).elim
  | tup ds=>
   unfold Reads at h1
   obtain⟨a,xs,rfl,hq,r⟩:=h1
   cases e with
   | int j=>unfold Reads at h2;cases h2
   | non=>unfold Reads at h2;cases h2
   | lst es=>
    unfold Reads at h2
    obtain⟨b,ys,q,hq2,r2⟩:=h2
    cases q
    exact(kinds hq2 hq).elim
   | tup es=>
    unfold Reads at h2
    obtain⟨b,ys,q,hq2,r2⟩:=h2
    cases q
    have:=I.Cu hq hq2
    subst this
    rw[lists n ih ds es xs (by unfold DV.depth at hd;omega) r r2]
theorem Gp(I:Inv X pins σ H s)(i:Int)(e:DV)(y:V)(u v:Value)(A:Around)(hu:A.units<cLine)(r2:Reads X.K H e y)(rx:RelV (.int i) u)(ry:RelV y v):RcAt A s u v (jF (.int i) e)∧EqAt A s u v (jF (.int i) e):=by
 obtain⟨t,rfl⟩:=rx
 cases e with
 | int j=>
  unfold Reads at r2
  subst r2
  obtain⟨t',rfl⟩:=ry
  rw[Mq]
  exact⟨RcAt.int_int _ _ _ _,EqAt.int_int _ _ _ _⟩
 | non=>
  unfold Reads at r2
  subst r2
  cases ry
  rw[cA (by intro z;cases z)]
  exact⟨RcAt.int_none _ _,EqAt.int_none _ _⟩
 | lst es=>
  unfold Reads at r2
  obtain⟨b,ys,rfl,hq,_⟩:=r2
  cases ry
  obtain⟨its,_,pl,_⟩:=I.list hq
  rw[cA (by intro z;cases z)]
  exact⟨RcAt.int_list _ _ pl.isList (hu),EqAt.int_list _ _ pl.isList (hu)⟩
 | tup es=>
  unfold Reads at r2
  obtain⟨b,ys,rfl,hq,_⟩:=r2
  cases ry
  obtain⟨its,_,pl,_⟩:=I.tuple hq
  rw[cA (by intro z;cases z)]
  exact⟨RcAt.int_tuple _ _ pl (hu),EqAt.int_tuple _ _ pl (hu)⟩
theorem Gq(I:Inv X pins σ H s)(e:DV)(y:V)(u v:Value)(A:Around)(hu:A.units<cLine)(r2:Reads X.K H e y)(rx:RelV .non u)(ry:RelV y v):RcAt A s u v (jF .non e)∧EqAt A s u v (jF .non e):=by
 cases rx
 cases e with
 | non=>
  unfold Reads at r2
  subst r2
  cases ry
  rw[jG]
  exact⟨RcAt.none_none,EqAt.same _⟩
 | int j=>
  unfold Reads at r2
  subst r2
  obtain⟨t',rfl⟩:=ry
  rw[cA (by intro z;cases z)]
  exact⟨RcAt.none_int _ _,EqAt.none_int _ _⟩
 | lst es=>
  unfold Reads at r2
  obtain⟨b,ys,rfl,hq,_⟩:=r2
  cases ry
  obtain⟨its,_,pl,_⟩:=I.list hq
  rw[cA (by intro z;cases z)]
  exact⟨RcAt.none_list pl.isList hu,EqAt.none_list pl.isList hu⟩
 | tup es=>
  unfold Reads at r2
  obtain⟨b,ys,rfl,hq,_⟩:=r2
  cases ry
  obtain⟨its,_,pl,_⟩:=I.tuple hq
  rw[cA (by intro z;cases z)]
  exact⟨RcAt.none_tuple pl hu,EqAt.none_tuple pl hu⟩
theorem qO(I:Inv X pins σ H s):∀(n:Nat)(A:Around),(∀(d e:DV)(x y:V)(u v:Value)(A:Around),d.depth≤n→A.units+n<cLine→Reads X.K H d x→Reads X.K H e y→RelV x u→RelV y v→RcAt A s u v (jF d e)∧EqAt A s u v (jF d e)) →
  ∀(ds es:List DV)(xs ys:List V)(us vs:List Value),bZ ds≤n→A.units+(n+1)<cLine→aY X.K H ds xs→aY X.K H es ys→Vals xs us→Vals ys vs →
  ∀j (h1:j<us.toArray.size) (h2:j<vs.toArray.size),EqAt A.in1 s us.toArray[j] vs.toArray[j] (match ds[j]?,es[j]? with | some d,some e=>jF d e | _,_=>true):=by
 intro n A ih ds es xs ys us vs hd hu r1 r2 v1 v2 j h1 h2
 have l1:j<ds.length:=by rw[←r1.length,v1.length];simpa using h1
 have l2:j<es.length:=by rw[←r2.length,v2.length];simpa using h2
 obtain⟨x,ex,rx⟩:=r1.get (i:=j) (d:=ds[j]) (by simp)
 obtain⟨y,ey,ry⟩:=r2.get (i:=j) (d:=es[j]) (by simp)
 obtain⟨u,eu,ru⟩:=v1.get ex
 obtain⟨v,ev,rv⟩:=v2.get ey
 have e1:us.toArray[j]=u:=by
  rw[B6]at eu
  obtain⟨_,eu⟩:=eu
  simpa using eu
 have e2:vs.toArray[j]=v:=by
  rw[B6]at ev
  obtain⟨_,ev⟩:=ev
  simpa using ev
 rw[e1,e2]
 simp only[B3 l1,B3 l2]
 exact(ih _ _ x y u v A.in1 (F4 (qN (i:=j) (by simp)) hd) (by rw[zK];omega) rx ry ru rv).2
theorem uW(I:Inv X pins σ H s):∀(n:Nat)(d e:DV)(x y:V)(u v:Value)(A:Around),d.depth≤n→A.units+n<cLine→Reads X.K H d x→Reads X.K H e y→RelV x u→RelV y v→RcAt A s u v (jF d e)∧EqAt A s u v (jF d e):=by
 have items:=qO I
 have seqs:∀(n:Nat)(A:Around),(∀(d e:DV)(x y:V)(u v:Value)(A:Around),d.depth≤n→A.units+n<cLine→Reads X.K H d x→Reads X.K H e y→RelV x u→RelV y v→RcAt A s u v (jF d e)∧EqAt A s u v (jF d e)) →
   ∀(d e:DV)(x y:V)(u v:Value),d.depth≤n+1→A.units+(n+1)<cLine→Reads X.K H d x→Reads X.K H e y→RelV x u→RelV y v→RcAt A s u v (jF d e)∧EqAt A s u v (jF d e):=by
  intro n A ih d e x y u v hd hu r1 r2 rx ry
  have of_same:∀{a b:Addr} {k:Bool},(a=b→k=true)→RcAt A s (.ref a) (.ref b) k→EqAt A s (.ref a) (.ref b) k:=λ{a b k} hk h=>by
   by_cases hab:a=b
   ·subst hab
    rw[hk rfl]
    exact EqAt.same _
   ·exact EqAt.of_refs hab h
  cases d with
  | int i=>
   unfold Reads at r1
   subst r1
   exact Gp I i e y u v A (by omega) r2 rx ry
  | non=>
   unfold Reads at r1
   subst r1
   exact Gq I e y u v A (by omega) r2 rx ry
  | lst ds=>
   unfold Reads at r1
   obtain⟨a,xs,rfl,hq1,Dn⟩:=r1
   cases rx
   obtain⟨pG,v1,pL,_⟩:=I.list hq1
   have hd':bZ ds≤n:=by unfold DV.depth at hd;omega
   cases e with
   | int j=>
    unfold Reads at r2
    subst r2
    obtain⟨t',rfl⟩:=ry
    rw[cA (by intro z;cases z)]
    exact⟨RcAt.list_int _ _ pL.isList (by omega),EqAt.list_int _ _ pL.isList (by omega)⟩
   | non=>
    unfold Reads at r2
    subst r2
    cases ry
    rw[cA (by intro z;cases z)]
    exact⟨RcAt.list_none pL.isList (by omega),EqAt.list_none pL.isList (by omega)⟩
   | lst es=>
    unfold Reads at r2
    obtain⟨b,ys,rfl,hq2,zL⟩:=r2
    cases ry
    obtain⟨its2,v2,tV,_⟩:=I.list hq2
    have e1:pG.toArray.size=ds.length:=by rw[B5,←v1.length,Dn.length]
    have e2:its2.toArray.size=es.length:=by rw[B5,←v2.length,zL.length]
    have rc:RcAt A s (.ref a) (.ref b) (jF (.lst ds) (.lst es)):=by
     by_cases hl:ds.length=es.length
     ·have q:=RcAt.lists (A:=A) (s:=s) pL.isList tV.isList (by rw[e1,e2];exact hl) (by omega) (items n A ih ds es xs ys pG its2 hd' hu Dn zL v1 v2)
      rw[e1,eG hl]at q
      rw[Ba]
      exact q
     ·rw[cA (by intro z;cases z;exact hl rfl)]
      exact RcAt.lists_lengths pL.isList tV.isList (by rw[e1,e2];simpa using hl) (by omega)
    exact⟨rc,of_same (λhab=>by
     subst hab
     refine mO.mpr (tU I (n+1) _ _ (.ref a) hd ?_ ?_)
     ·unfold Reads
      exact⟨a,xs,rfl,hq1,Dn⟩
     ·unfold Reads
      exact⟨a,ys,rfl,hq2,zL⟩) rc⟩
   | tup es=>
    unfold Reads at r2
    obtain⟨b,ys,rfl,hq2,zL⟩:=r2
    cases ry
    obtain⟨its2,v2,tV,_⟩:=I.tuple hq2
    rw[cA (by intro z;cases z)]
    exact⟨RcAt.list_tuple pL.isList tV (by omega),EqAt.list_tuple pL.isList tV (by omega)⟩
  | tup ds=>
   unfold Reads at r1
   obtain⟨a,xs,rfl,hq1,Dn⟩:=r1
   cases rx
   obtain⟨pG,v1,pL,_⟩:=I.tuple hq1
   have hd':bZ ds≤n:=by unfold DV.depth at hd;omega
   cases e with
   | int j=>
    unfold Reads at r2
    subst r2
    obtain⟨t',rfl⟩:=ry
    rw[cA (by intro z;cases z)]
    exact⟨RcAt.tuple_int _ _ pL (by omega),EqAt.tuple_int _ _ pL (by omega)⟩
   | non=>
    unfold Reads at r2
    subst r2
    cases ry
    rw[cA (by intro z;cases z)]
    exact⟨RcAt.tuple_none pL (by omega),EqAt.tuple_none pL (by omega)⟩
   | lst es=>
    unfold Reads at r2
    obtain⟨b,ys,rfl,hq2,zL⟩:=r2
    cases ry
    obtain⟨its2,v2,tV,_⟩:=I.list hq2
    rw[cA (by intro z;cases z)]
    exact⟨RcAt.tuple_list pL tV.isList (by omega),EqAt.tuple_list pL tV.isList (by omega)⟩
   | tup es=>
    unfold Reads at r2
    obtain⟨b,ys,rfl,hq2,zL⟩:=r2
    cases ry
    obtain⟨its2,v2,tV,_⟩:=I.tuple hq2
    have e1:pG.toArray.size=ds.length:=by rw[B5,←v1.length,Dn.length]
    have e2:its2.toArray.size=es.length:=by rw[B5,←v2.length,zL.length]
    have rc:RcAt A s (.ref a) (.ref b) (jF (.tup ds) (.tup es)):=by
     have q:=RcAt.tuples (A:=A) (s:=s) (l:=a) (b:=b) pL tV (by omega) (items n A ih ds es xs ys pG its2 hd' hu Dn zL v1 v2)
     rw[e1,e2]at q
     by_cases hl:ds.length=es.length
     ·rw[←hl,Nat.min_self,eG hl]at q
      rw[Bb]
      simpa using q
     ·rw[cA (by intro z;cases z;exact hl rfl)]
      have z:(ds.length==es.length)=false:=by simpa using hl
      rw[z,T2]at q
      exact q
    exact⟨rc,of_same (λhab=>by
     subst hab
     refine mO.mpr (tU I (n+1) _ _ (.ref a) hd ?_ ?_)
     ·unfold Reads
      exact⟨a,xs,rfl,hq1,Dn⟩
     ·unfold Reads
      exact⟨a,ys,rfl,hq2,zL⟩) rc⟩
 intro n
 induction n with
 | zero=>
  intro d e x y u v A hd hu r1 r2 rx ry
  cases d with
  | int i=>
   unfold Reads at r1
   subst r1
   exact Gp I i e y u v A (by omega) r2 rx ry
  | non=>
   unfold Reads at r1
   subst r1
   exact Gq I e y u v A (by omega) r2 rx ry
  | lst ds=>unfold DV.depth at hd;omega
  | tup ds=>unfold DV.depth at hd;omega
 | succ n ih=>
  intro d e x y u v A hd hu r1 r2 rx ry
  exact seqs n A ih d e x y u v hd hu r1 r2 rx ry
end
section
variable{X:Cx}
def Up(K:aA)(neg:Bool):R2:=λx y H Q=>∃d e,Reads K H d x∧Reads K H e y∧d.depth≤32∧Q (.bl (if neg then !jF d e else jF d e)) H
theorem Uq(hu:X.A.units+64<cLine):iB X (compareOp .Eq) (Up X.K false):=by
 intro pins s σ H x y v u Q I rx ry h
 obtain⟨d,e,r1,r2,hd,q⟩:=h
 exact(uW I 32 d e x y v u X.A hd (by omega) r1 r2 rx ry).1 X.prog X.w X.xe _ ⟨.bl _,H,I,rfl,q⟩
open SeqAt in
theorem Ur(hu:X.A.units+64<cLine):iB X (compareOp .NotEq) (λx y H Q=>∃ds es,Reads X.K H (.lst ds) x∧Reads X.K H (.lst es) y∧bZ ds≤32∧Q (.bl (!jF (.lst ds) (.lst es))) H):=by
 intro pins s σ H x y v u Q I rx ry h
 obtain⟨ds,es,r1,r2,hd,q⟩:=h
 unfold Reads at r1 r2
 obtain⟨a,xs,rfl,hq1,Dn⟩:=r1
 obtain⟨b,ys,rfl,hq2,zL⟩:=r2
 cases rx
 cases ry
 obtain⟨pG,v1,pL,_⟩:=I.list hq1
 obtain⟨its2,v2,tV,_⟩:=I.list hq2
 have e1:pG.toArray.size=ds.length:=by rw[B5,←v1.length,Dn.length]
 have e2:its2.toArray.size=es.length:=by rw[B5,←v2.length,zL.length]
 have rc:RcNeAt X.A s (.ref a) (.ref b) (!jF (.lst ds) (.lst es)):=by
  by_cases hl:ds.length=es.length
  ·have z:=RcNeAt.lists (A:=X.A) (s:=s) pL.isList tV.isList (by rw[e1,e2];exact hl) (by omega) (qO I 32 X.A (λd e x y u v A a1 a2 a3 a4 a5 a6=>uW I 32 d e x y u v A a1 a2 a3 a4 a5 a6) ds es xs ys pG its2 hd (by omega) Dn zL v1 v2)
   rw[e1,eG hl]at z
   rw[Ba]
   exact z
  ·rw[cA (by intro z;cases z;exact hl rfl)]
   exact RcNeAt.lists_lengths pL.isList tV.isList (by rw[e1,e2];simpa using hl) (by omega)
 exact rc X.prog X.w X.xe _ ⟨.bl _,H,I,rfl,q⟩
end
end L2


namespace L2
open PySem PySem.Spec PyProof.Rows
structure Raw(K:aA)(mg:Str→Option Value)(x:Str)(st:Stmt):Prop where
 ex:∃f fd,Ks K x x st f fd∧mg x=some (.ref f)
theorem Us{K:aA}{h:Heap}{mg:Str→Option Value}{x:Str}{st:Stmt}{f:Addr}{oc:Value}{od an:Option Addr}{osl:Array (Option Value)}{kV doc pm cdv ct:Value}(X:K.In h)(G:h.Ns mainGlobals mg)
  (a:D7 K mainGlobals x=some (some (.ref f))) (l:K.lookup f=some ⟨oc,od,.func (D4 x x (cH st) (bF st) (aH st) .none kV doc pm an cdv ct),osl⟩)
  (c:K0 K cdv x=true) (k:G1 K (.ref f)=true):Raw K mg x st:=⟨⟨f,_,Uo l c k,D5 X G a⟩⟩
structure pH(P:Program)(w:World)(K:aA)(mg:Str→Option Value)(base:Heap)(x:Str)(k:Nat)(n:Nat)(sp:Sp):Prop where
 ex:∃f fd ps,ps.length=n∧mL P w K mg base Fd k f fd ps sp∧Binds K fd ps []∧G1 K (.ref f)=true∧mg x=some (.ref f)
theorem Raw.cal{P:Program}{w:World}{K:aA}{mg:Str→Option Value}{base:Heap}{x:Str}{st:Stmt}{N ps:List Str}{k:Nat}{sp:Sp}(R:Raw K mg x st)(S:bJ N ps (aH st))(len:∀vs H Q E,sp vs H Q E→vs.length=ps.length)
  (hb:∀(kV doc pm:Value)(an:Option Addr)(cdv ct:Value)(us:List Value),us.length=ps.length→bindArgs (D4 x x (cH st) (bF st) (aH st) .none kV doc pm an cdv ct) ⟨us,[]⟩=pure (ps.zip us))
  (hbody:∀(f:Addr)(cdv:Value)(A:Around)(outer:List Env)(s:Shared)(H:Hp)(vs:List V)(Q:VK)(E:XK),eN k (A.deeper (envOfC x (aH st) s.heap.objs.size f cdv))→sp vs H Q E →
   ∃t,wU (eX Fd P w K mg base N x (aH st) f cdv A outer s H E).Tn (bF st) t∧t {nx:=λ_ H'=>Q .non H',rt:=Q} (start N vs) H):pH P w K mg base x (k+1) ps.length sp:=by
 obtain⟨f,fd,F,m⟩:=R.ex
 exact⟨f,fd,ps,rfl,F.ok S len λcdv A outer s H vs Q E hr h=>hbody f cdv A outer s H vs Q E hr h,F.binds hb,F.kp,m⟩
theorem Ut{X:Cx}{x:Str}{k n:Nat}{sp:Sp}{e:Expr}{es:List Expr}{p pos:Pos}{t:TA}(C:pH X.prog X.w X.K X.mg X.base x k n sp)(hr:eN k X.A)(hg:Gl X x)
  (ha:PA X (e::es) t) (hdb:(x==("__debug__" : Str))=false:=by decide) (he:starEach (e::es) X.env=(false,eval e X.env)::starEach es X.env:=by rfl) (hpl:(backTo pos (starEach es X.env)).any (·.1)=false:=by rfl) :
  PE X (.Call (.Name x p) (e::es) [] pos) (tK sp [] E0 t):=by
 obtain⟨f,fd,ps,_,F,hb,hk,hm⟩:=C.ex
 exact Lp F hr hg hm hk hb .nil Zd ha hdb he hpl
theorem call_of{sp:Sp}{E:XK}{t:TA}{σ:St}{H:Hp}{Q:VK}(h:t σ H λvs H1=>sp vs H1 Q E):tK sp [] E t σ H Q:=by
 unfold tK
 have e:(λ(vs:List V) (H1:Hp)=>sp (vs++[]) H1 Q E)=λvs H1=>sp vs H1 Q E:=by funext vs H1;rw[P2]
 rw[e]
 exact h
theorem bR{H:Hp}{p:Addr}(h:H p=none)(o:HO):aD H (upd H p o):=λb u q=>by rw[aZ (cI q h)];exact q
theorem aD.tup{K:aA}{H H':Hp}{a:Addr}{xs:List V}(e:aD H H')(h:mH K H a xs):mH K H' a xs:=by
 rcases h with (h | ⟨o,h⟩) | h
 ·exact .inl (.inl (e _ _ h))
 ·exact .inl (.inr ⟨o,e _ _ h⟩)
 ·exact .inr h
mutual
theorem aD.reads{K:aA}{H H':Hp}(e:aD H H'):∀(d:DV)(x:V),Reads K H d x→Reads K H' d x
 | .int i,x,h=>by unfold Reads at h ⊢;exact h
 | .non,x,h=>by unfold Reads at h ⊢;exact h
 | .lst ds,x,h=>by
  unfold Reads at h ⊢
  obtain⟨a,xs,r,hq,l⟩:=h
  exact⟨a,xs,r,e.seq hq,aD.zM e ds xs l⟩
 | .tup ds,x,h=>by
  unfold Reads at h ⊢
  obtain⟨a,xs,r,hq,l⟩:=h
  exact⟨a,xs,r,e.tup hq,aD.zM e ds xs l⟩
theorem aD.zM{K:aA}{H H':Hp}(e:aD H H'):∀(ds:List DV)(xs:List V),aY K H ds xs→aY K H' ds xs
 | [],xs,h=>by unfold aY at h ⊢;exact h
 | d::ds,xs,h=>by
  unfold aY at h ⊢
  obtain⟨y,ys,r,h1,h2⟩:=h
  exact⟨y,ys,r,aD.reads e d y h1,aD.zM e ds ys h2⟩
end
end L2
namespace L2
theorem dC.at{scope:PySem.Scope}{N:List PySem.Str}{k:Nat}{fr:List Nat}(wM:PySem.Scope)(oN:List PySem.Str)(h:Gk wM scope oN N k fr=true):dC wM scope oN N k fr:=dC.of h
end L2
namespace L2
open PySem PySem.Spec PyProof.Rows
def mQ(H:Hp)(p:Addr):Prop:=(∀xs,H p≠some (.tup xs))∧∀o xs,H p≠some (.nR o (.tup xs))
theorem tW{H:Hp}{p:Addr}{xs:List V}(h:H p=some (.lst xs)):mQ H p:=⟨λys e=>(by rw[h]at e;cases e),λo ys e=>(by rw[h]at e;cases e)⟩
theorem Gr{H:Hp}{p:Addr}{kvs:List (Key×V)}(h:H p=some (.dK kvs)):mQ H p:=⟨λys e=>(by rw[h]at e;cases e),λo ys e=>(by rw[h]at e;cases e)⟩
theorem mH.upd{K:aA}{H:Hp}{a p:Addr}{xs:List V}{o:HO}(h:mH K H a xs)(n:mQ H p):mH K (upd H p o) a xs:=by
 rcases h with (h | ⟨u,h⟩) | h
 ·exact .inl (.inl (by rw[aZ (λz=>n.1 xs (by rw[←z];exact h))];exact h))
 ·exact .inl (.inr ⟨u,by rw[aZ (λz=>n.2 u xs (by rw[←z];exact h))];exact h⟩)
 ·exact .inr h
mutual
def dD:DV→Bool
 | .int _=>true
 | .non=>true
 | .lst _=>false
 | .tup ds=>lB ds
def lB:List DV→Bool
 | []=>true
 | d::ds=>dD d&&lB ds
end
mutual
theorem Dp{K:aA}{H:Hp}{p:Addr}{o:HO}(n:mQ H p):∀(d:DV)(x:V),dD d=true→Reads K H d x→Reads K (upd H p o) d x
 | .int i,x,_,h=>by unfold Reads at h ⊢;exact h
 | .non,x,_,h=>by unfold Reads at h ⊢;exact h
 | .lst ds,x,hi,h=>by unfold dD at hi;cases hi
 | .tup ds,x,hi,h=>by
  unfold dD at hi
  unfold Reads at h ⊢
  obtain⟨a,xs,r,hq,l⟩:=h
  exact⟨a,xs,r,hq.upd n,qP n ds xs hi l⟩
theorem qP{K:aA}{H:Hp}{p:Addr}{o:HO}(n:mQ H p):∀(ds:List DV)(xs:List V),lB ds=true→aY K H ds xs→aY K (upd H p o) ds xs
 | [],xs,_,h=>by unfold aY at h ⊢;exact h
 | d::ds,xs,hi,h=>by
  unfold lB at hi
  rw[C1]at hi
  unfold aY at h ⊢
  obtain⟨y,ys,r,h1,h2⟩:=h
  exact⟨y,ys,r,Dp n d y hi.1 h1,qP n ds ys hi.2 h2⟩
end
end L2
namespace L2
open PySem PySem.Spec PyProof.Rows
section
variable{X:Cx}
end
end L2
namespace L2
open PySem PySem.Spec PyProof.Rows
end L2
namespace L2
open PySem PySem.Spec PyProof.Rows
section
variable{X:Cx}
end
end L2


namespace L2
open PySem PySem.Spec PyProof.Rows
section
variable{X:Cx}
open SeqAt in
theorem Uu(hu:X.A.units+64<cLine):iB X (compareOp .NotEq) (λx y H Q=>∃ds es,Reads X.K H (.tup ds) x∧Reads X.K H (.tup es) y∧bZ ds≤32∧Q (.bl (!jF (.tup ds) (.tup es))) H):=by
 intro pins s σ H x y v u Q I rx ry h
 obtain⟨ds,es,r1,r2,hd,q⟩:=h
 unfold Reads at r1 r2
 obtain⟨a,xs,rfl,hq1,Dn⟩:=r1
 obtain⟨b,ys,rfl,hq2,zL⟩:=r2
 cases rx
 cases ry
 obtain⟨pG,v1,pL,_⟩:=I.tuple hq1
 obtain⟨its2,v2,tV,_⟩:=I.tuple hq2
 have e1:pG.toArray.size=ds.length:=by rw[B5,←v1.length,Dn.length]
 have e2:its2.toArray.size=es.length:=by rw[B5,←v2.length,zL.length]
 have rc:RcNeAt X.A s (.ref a) (.ref b) (!jF (.tup ds) (.tup es)):=by
  have z:=RcNeAt.tuples (A:=X.A) (s:=s) (l:=a) (b:=b) pL tV (by omega) (qO I 32 X.A (λd e x y u v A a1 a2 a3 a4 a5 a6=>uW I 32 d e x y u v A a1 a2 a3 a4 a5 a6) ds es xs ys pG its2 hd (by omega) Dn zL v1 v2)
  rw[e1,e2]at z
  by_cases hl:ds.length=es.length
  ·rw[←hl,Nat.min_self,eG hl]at z
   rw[Bb]
   simpa using z
  ·rw[cA (by intro z;cases z;exact hl rfl)]
   have zz:(ds.length==es.length)=false:=by simpa using hl
   rw[zz,T2]at z
   exact z
 exact rc X.prog X.w X.xe _ ⟨.bl _,H,I,rfl,q⟩
end
end L2


namespace L2
open PySem PySem.Spec PyProof.Rows
inductive D where
  | non | bl (b:Bool) | int (i:Int) | str (x:Str)
  | lst (ds:List D) | tup (ds:List D)
  | dk (ks:List Key) (ds:List D)
  | dt (ks:List (List Key)) (ds:List D)
  | ins (C:Addr) (nm:List Str) (ds:List D)
abbrev Fp:=Addr→Prop
def Apart(A B:Fp):Prop:=∀x,A x→¬B x
def Is(A B:Fp):Prop:=∀x,A x↔B x
def None(A:Fp):Prop:=∀x,¬A x
abbrev gK(A B:Fp):Fp:=λx=>A x∨B x
mutual
def Rv(K:aA)(H:Hp):D→V→Prop
 | .non,v=>v=.non
 | .bl b,v=>v=.bl b
 | .int i,v=>v=.int i
 | .str x,v=>v=.str x
 | .lst ds,v=>∃a xs,v=.ref a∧mG K H a xs∧bN K H ds xs
 | .tup ds,v=>∃a xs,v=.ref a∧mH K H a xs∧bN K H ds xs
 | .dk ks ds,v=>∃a xs,v=.ref a∧Rd H a (.dK (ks.zip xs))∧ks.length=xs.length∧bN K H ds xs
 | .dt ks ds,v=>∃a xs,v=.ref a∧Rd H a (.dT (ks.zip xs))∧ks.length=xs.length∧bN K H ds xs
 | .ins C nm ds,v=>∃a dx xs,v=.ref a∧H a=some (.ins C dx (nm.zip xs))∧nm.length=xs.length∧bN K H ds xs
def bN(K:aA)(H:Hp):List D→List V→Prop
 | [],xs=>xs=[]
 | d::ds,xs=>∃y ys,xs=y::ys∧Rv K H d y∧bN K H ds ys
end
theorem aD.rd{H H':Hp}(e:aD H H'){a:Addr}{u:HO}(h:Rd H a u):Rd H' a u:=by
 rcases h with h | ⟨o,h⟩
 ·exact .inl (e _ _ h)
 ·exact .inr ⟨o,e _ _ h⟩
mutual
theorem aD.rv{K:aA}{H H':Hp}(e:aD H H'):∀(d:D)(v:V),Rv K H d v→Rv K H' d v
 | .non,v,h=>by unfold Rv at h ⊢;exact h
 | .bl _,v,h=>by unfold Rv at h ⊢;exact h
 | .int _,v,h=>by unfold Rv at h ⊢;exact h
 | .str _,v,h=>by unfold Rv at h ⊢;exact h
 | .lst ds,v,h=>by unfold Rv at h ⊢;obtain⟨a,xs,r,hq,l⟩:=h;exact⟨a,xs,r,e.seq hq,aD.Gs e ds xs l⟩
 | .tup ds,v,h=>by unfold Rv at h ⊢;obtain⟨a,xs,r,hq,l⟩:=h;exact⟨a,xs,r,e.tup hq,aD.Gs e ds xs l⟩
 | .dk ks ds,v,h=>by unfold Rv at h ⊢;obtain⟨a,xs,r,hq,hl,l⟩:=h;exact⟨a,xs,r,e.rd hq,hl,aD.Gs e ds xs l⟩
 | .dt ks ds,v,h=>by unfold Rv at h ⊢;obtain⟨a,xs,r,hq,hl,l⟩:=h;exact⟨a,xs,r,e.rd hq,hl,aD.Gs e ds xs l⟩
 | .ins C nm ds,v,h=>by unfold Rv at h ⊢;obtain⟨a,dx,xs,r,hq,hl,l⟩:=h;exact⟨a,dx,xs,r,e _ _ hq,hl,aD.Gs e ds xs l⟩
theorem aD.Gs{K:aA}{H H':Hp}(e:aD H H'):∀(ds:List D)(xs:List V),bN K H ds xs→bN K H' ds xs
 | [],xs,h=>by unfold bN at h ⊢;exact h
 | d::ds,xs,h=>by unfold bN at h ⊢;obtain⟨y,ys,r,h1,h2⟩:=h;exact⟨y,ys,r,aD.rv e d y h1,aD.Gs e ds ys h2⟩
end
theorem bN.length{K:aA}{H:Hp}:∀{ds:List D} {xs:List V},bN K H ds xs→xs.length=ds.length
 | [],xs,h=>by unfold bN at h;subst h;rfl
 | d::ds,xs,h=>by unfold bN at h;obtain⟨y,ys,rfl,_,h2⟩:=h;rw[G9,G9,bN.length h2]
theorem bN.get{K:aA}{H:Hp}:∀{ds:List D} {xs:List V} {i:Nat} {d:D},bN K H ds xs→ds[i]?=some d→∃x,xs[i]?=some x∧Rv K H d x
 | [],xs,i,d,h,e=>by simp at e
 | d'::ds,xs,0,d,h,e=>by unfold bN at h;obtain⟨y,ys,rfl,h1,_⟩:=h;simp at e;subst e;exact⟨y,rfl,h1⟩
 | d'::ds,xs,i+1,d,h,e=>by
  unfold bN at h
  obtain⟨y,ys,rfl,_,h2⟩:=h
  obtain⟨x,e1,e2⟩:=bN.get (i:=i) (d:=d) h2 (by simpa using e)
  exact⟨x,by simpa using e1,e2⟩
theorem bN.of{K:aA}{H:Hp}:∀{ds:List D} {xs:List V},xs.length=ds.length→(∀(i:Nat)(d:D)(x:V),ds[i]?=some d→xs[i]?=some x→Rv K H d x)→bN K H ds xs
 | [],xs,hl,_=>by unfold bN;exact List.eq_nil_of_length_eq_zero hl
 | d::ds,[],hl,_=>by simp at hl
 | d::ds,x::xs,hl,h=>by
  unfold bN
  exact⟨x,xs,rfl,h 0 d x rfl rfl,bN.of (by simpa using hl) λi e y h1 h2=>h (i+1) e y (by simpa using h1) (by simpa using h2)⟩
def dW{α β:Type}(R:α→Fp→β→Prop):List α→Fp→List β→Prop
 | [],A,ys=>None A∧ys=[]
 | d::ds,A,ys=>∃y yt A1 A2,ys=y::yt∧Apart A1 A2∧Is A (gK A1 A2)∧R d A1 y∧dW R ds A2 yt
section
variable{α β:Type}{R R':α→Fp→β→Prop}
theorem dW.mono:∀{ds:List α} {A:Fp} {ys:List β},dW R ds A ys→(∀e B z,(∀x,B x→A x)→R e B z→R' e B z)→dW R' ds A ys
 | [],A,ys,h,_=>h
 | d::ds,A,ys,⟨y,yt,A1,A2,h1,h2,h3,h4,h5⟩,m=>
  ⟨y,yt,A1,A2,h1,h2,h3,m _ _ _ (λx q=>(h3 x).mpr (.inl q)) h4,h5.mono λe B z hb=>m e B z λx q=>(h3 x).mpr (.inr (hb x q))⟩
theorem dW.focus:∀{ds:List α} {A:Fp} {ys:List β} {i:Nat} {d:α},dW R ds A ys→ds[i]?=some d→∃y A1 C,ys[i]?=some y∧Apart A1 C∧Is A (gK A1 C)∧R d A1 y ∧
    ∀(R':α→Fp→β→Prop),(∀e B z,(∀x,B x→C x)→R e B z→R' e B z)→∀d' y' Ku,Apart Ku C→R' d' Ku y'→dW R' (ds.set i d') (gK Ku C) (ys.set i y')
  | [],A,ys,i,d,h,e=>by simp at e
  | d0::ds,A,ys,0,d,⟨y,yt,A1,A2,h1,h2,h3,h4,h5⟩,e=>by
    simp at e
    subst e h1
    exact⟨y,A1,A2,rfl,h2,h3,h4,λR' m d' y' Ku ap r=>⟨y',yt,Ku,A2,rfl,ap,λx=>Iff.rfl,r,h5.mono m⟩⟩
  | d0::ds,A,ys,i+1,d,⟨y,yt,A1,A2,h1,h2,h3,h4,h5⟩,e=>by
    subst h1
    obtain⟨z,B1,C,e1,ap,hA,r,k⟩:=dW.focus (i:=i) (d:=d) h5 (by simpa using e)
    refine⟨z,B1,gK A1 C,by simpa using e1,?_,?_,r,λR' m d' y' Ku ap' r'=>?_⟩
    · intro x hx hc
      rcases hc with hc | hc
      · exact h2 x hc ((hA x).mpr (.inl hx))
      · exact ap x hx hc
    · intro x
      rw[h3 x]
      constructor
      · rintro(q | q)
        · exact .inr (.inl q)
        · rcases(hA x).mp q with q | q
          · exact .inl q
          · exact .inr (.inr q)
      · rintro(q | q | q)
        · exact .inr ((hA x).mpr (.inl q))
        · exact .inl q
        · exact .inr ((hA x).mpr (.inr q))
    · refine⟨y,_,A1,gK Ku C,rfl,?_,?_,m _ _ _ (λx q=>.inl q) h4,k R' (λe B z hb=>m e B z λx q=>.inr (hb x q)) d' y' Ku (λx q q'=>ap' x q (.inr q')) r'⟩
      · intro x q q'
        rcases q' with q' | q'
        · exact ap' x q' (.inl q)
        · exact h2 x q ((hA x).mpr (.inr q'))
      · intro x
        show (Ku x∨A1 x∨C x)↔(A1 x∨Ku x∨C x)
        constructor
        · rintro(q | q | q)
          · exact .inr (.inl q)
          · exact .inl q
          · exact .inr (.inr q)
        · rintro(q | q | q)
          · exact .inr (.inl q)
          · exact .inl q
          · exact .inr (.inr q)
theorem dW.snoc:∀{ds:List α} {A A1:Fp} {ys:List β} {d:α} {y:β},dW R ds A ys→R d A1 y→Apart A A1→dW R (ds++[d]) (gK A A1) (ys++[y])
 | [],A,A1,ys,d,y,h,r,ap=>by
  rw[h.2]
  exact⟨y,[],A1,λ_=>False,rfl,λ_ _ z=>z,λx=>⟨λq=>q.elim (λq=>absurd q (h.1 x)) .inl,λq=>q.elim .inr False.elim⟩,r,λ_ z=>z,rfl⟩
 | d0::ds,A,A1,ys,d,y,⟨y0,yt,B1,B2,h1,h2,h3,h4,h5⟩,r,ap=>by
  subst h1
  refine⟨y0,yt++[y],B1,gK B2 A1,rfl,?_,?_,h4,dW.snoc h5 r λx q=>ap x ((h3 x).mpr (.inr q))⟩
  ·intro x q q'
   rcases q' with q' | q'
   ·exact h2 x q q'
   ·exact ap x ((h3 x).mpr (.inl q)) q'
  ·intro x
   show (A x∨A1 x)↔(B1 x∨B2 x∨A1 x)
   rw[h3 x]
   exact or_assoc
end
mutual
def Ow(K:aA)(H:Hp):D→Fp→V→Prop
 | .non,A,v=>None A∧v=.non
 | .bl b,A,v=>None A∧v=.bl b
 | .int i,A,v=>None A∧v=.int i
 | .str x,A,v=>None A∧v=.str x
 | .lst ds,A,v=>∃a xs B,v=.ref a∧H a=some (.lst xs)∧¬B a∧Is A (gK (·=a) B)∧cT K H ds B xs
 | .tup ds,A,v=>∃a xs,v=.ref a∧mH K H a xs∧cT K H ds A xs
 | .dk ks ds,A,v=>∃a xs B,v=.ref a∧H a=some (.dK (ks.zip xs))∧ks.length=xs.length∧¬B a∧Is A (gK (·=a) B)∧cT K H ds B xs
 | .dt ks ds,A,v=>∃a xs B,v=.ref a∧H a=some (.dT (ks.zip xs))∧ks.length=xs.length∧¬B a∧Is A (gK (·=a) B)∧cT K H ds B xs
 | .ins C nm ds,A,v=>∃a dx xs B,v=.ref a∧H a=some (.ins C dx (nm.zip xs))∧H dx=some (.own a)∧nm.length=xs.length∧¬B a∧¬B dx∧Is A (gK (λx=>x=a∨x=dx) B)∧cT K H ds B xs
def cT(K:aA)(H:Hp):List D→Fp→List V→Prop
 | [],A,ys=>None A∧ys=[]
 | d::ds,A,ys=>∃y yt A1 A2,ys=y::yt∧Apart A1 A2∧Is A (gK A1 A2)∧Ow K H d A1 y∧cT K H ds A2 yt
end
theorem pM{K:aA}{H:Hp}:∀{ds:List D} {A:Fp} {ys:List V},cT K H ds A ys↔dW (Ow K H) ds A ys
 | [],A,ys=>by unfold cT dW;exact Iff.rfl
 | d::ds,A,ys=>by
  unfold cT dW
  constructor
  ·rintro⟨y,yt,A1,A2,h1,h2,h3,h4,h5⟩;exact⟨y,yt,A1,A2,h1,h2,h3,h4,pM.mp h5⟩
  ·rintro⟨y,yt,A1,A2,h1,h2,h3,h4,h5⟩;exact⟨y,yt,A1,A2,h1,h2,h3,h4,pM.mpr h5⟩
def Dq(K:aA)(H H':Hp):Prop:=∀a xs,mH K H a xs→mH K H' a xs
theorem aD.tk{K:aA}{H H':Hp}(e:aD H H'):Dq K H H':=λ_ _ h=>e.tup h
mutual
theorem Ow.frame{K:aA}{H H':Hp}(t:Dq K H H'):∀(d:D)(A:Fp)(v:V),Ow K H d A v→(∀a,A a→H' a=H a)→Ow K H' d A v
 | .non,A,v,h,f=>by unfold Ow at h ⊢;exact h
 | .bl _,A,v,h,f=>by unfold Ow at h ⊢;exact h
 | .int _,A,v,h,f=>by unfold Ow at h ⊢;exact h
 | .str _,A,v,h,f=>by unfold Ow at h ⊢;exact h
 | .lst ds,A,v,h,f=>by
  unfold Ow at h ⊢
  obtain⟨a,xs,B,h1,h2,h3,h4,h5⟩:=h
  exact⟨a,xs,B,h1,(f a ((h4 a).mpr (.inl rfl))).trans h2,h3,h4,cT.frame t ds B xs h5 λb q=>f b ((h4 b).mpr (.inr q))⟩
 | .tup ds,A,v,h,f=>by unfold Ow at h ⊢;obtain⟨a,xs,h1,h2,h3⟩:=h;exact⟨a,xs,h1,t _ _ h2,cT.frame t ds A xs h3 f⟩
 | .dk ks ds,A,v,h,f=>by
  unfold Ow at h ⊢
  obtain⟨a,xs,B,h1,h2,h2',h3,h4,h5⟩:=h
  exact⟨a,xs,B,h1,(f a ((h4 a).mpr (.inl rfl))).trans h2,h2',h3,h4,cT.frame t ds B xs h5 λb q=>f b ((h4 b).mpr (.inr q))⟩
 | .dt ks ds,A,v,h,f=>by
  unfold Ow at h ⊢
  obtain⟨a,xs,B,h1,h2,h2',h3,h4,h5⟩:=h
  exact⟨a,xs,B,h1,(f a ((h4 a).mpr (.inl rfl))).trans h2,h2',h3,h4,cT.frame t ds B xs h5 λb q=>f b ((h4 b).mpr (.inr q))⟩
 | .ins C nm ds,A,v,h,f=>by
  unfold Ow at h ⊢
  obtain⟨a,dx,xs,B,h1,h2,h2',h3,h3',h3'',h4,h5⟩:=h
  exact⟨a,dx,xs,B,h1,(f a ((h4 a).mpr (.inl (.inl rfl)))).trans h2,(f dx ((h4 dx).mpr (.inl (.inr rfl)))).trans h2',h3,h3',h3'',h4,cT.frame t ds B xs h5 λb q=>f b ((h4 b).mpr (.inr q))⟩
theorem cT.frame{K:aA}{H H':Hp}(t:Dq K H H'):∀(ds:List D)(A:Fp)(ys:List V),cT K H ds A ys→(∀a,A a→H' a=H a)→cT K H' ds A ys
 | [],A,ys,h,f=>by unfold cT at h ⊢;exact h
 | d::ds,A,ys,h,f=>by
  unfold cT at h ⊢
  obtain⟨y,yt,A1,A2,h1,h2,h3,h4,h5⟩:=h
  exact⟨y,yt,A1,A2,h1,h2,h3,Ow.frame t d A1 y h4 λb q=>f b ((h3 b).mpr (.inl q)),cT.frame t ds A2 yt h5 λb q=>f b ((h3 b).mpr (.inr q))⟩
end
mutual
theorem Ow.rv{K:aA}{H:Hp}:∀(d:D)(A:Fp)(v:V),Ow K H d A v→Rv K H d v
 | .non,A,v,h=>by unfold Ow at h;unfold Rv;exact h.2
 | .bl _,A,v,h=>by unfold Ow at h;unfold Rv;exact h.2
 | .int _,A,v,h=>by unfold Ow at h;unfold Rv;exact h.2
 | .str _,A,v,h=>by unfold Ow at h;unfold Rv;exact h.2
 | .lst ds,A,v,h=>by unfold Ow at h;unfold Rv;obtain⟨a,xs,B,h1,h2,h3,h4,h5⟩:=h;exact⟨a,xs,h1,mG.of h2,cT.rv ds B xs h5⟩
 | .tup ds,A,v,h=>by unfold Ow at h;unfold Rv;obtain⟨a,xs,h1,h2,h3⟩:=h;exact⟨a,xs,h1,h2,cT.rv ds A xs h3⟩
 | .dk ks ds,A,v,h=>by unfold Ow at h;unfold Rv;obtain⟨a,xs,B,h1,h2,h2',h3,h4,h5⟩:=h;exact⟨a,xs,h1,.inl h2,h2',cT.rv ds B xs h5⟩
 | .dt ks ds,A,v,h=>by unfold Ow at h;unfold Rv;obtain⟨a,xs,B,h1,h2,h2',h3,h4,h5⟩:=h;exact⟨a,xs,h1,.inl h2,h2',cT.rv ds B xs h5⟩
 | .ins C nm ds,A,v,h=>by unfold Ow at h;unfold Rv;obtain⟨a,dx,xs,B,h1,h2,h2',h3,h3',h3'',h4,h5⟩:=h;exact⟨a,dx,xs,h1,h2,h3,cT.rv ds B xs h5⟩
theorem cT.rv{K:aA}{H:Hp}:∀(ds:List D)(A:Fp)(ys:List V),cT K H ds A ys→bN K H ds ys
 | [],A,ys,h=>by unfold cT at h;unfold bN;exact h.2
 | d::ds,A,ys,h=>by unfold cT at h;unfold bN;obtain⟨y,yt,A1,A2,h1,h2,h3,h4,h5⟩:=h;exact⟨y,yt,h1,Ow.rv d A1 y h4,cT.rv ds A2 yt h5⟩
end
def nT(H:Hp)(a:Addr):Prop:=(∃o,H a=some o)∧mQ H a
mutual
theorem Ow.cells{K:aA}{H:Hp}:∀(d:D)(A:Fp)(v:V),Ow K H d A v→∀a,A a→nT H a
 | .non,A,v,h,a,q=>by unfold Ow at h;exact absurd q (h.1 a)
 | .bl _,A,v,h,a,q=>by unfold Ow at h;exact absurd q (h.1 a)
 | .int _,A,v,h,a,q=>by unfold Ow at h;exact absurd q (h.1 a)
 | .str _,A,v,h,a,q=>by unfold Ow at h;exact absurd q (h.1 a)
 | .lst ds,A,v,h,a,q=>by
  unfold Ow at h
  obtain⟨p,xs,B,h1,h2,h3,h4,h5⟩:=h
  rcases(h4 a).mp q with z | z
  ·cases z;exact⟨⟨_,h2⟩,tW h2⟩
  ·exact cT.cells ds B xs h5 a z
 | .tup ds,A,v,h,a,q=>by unfold Ow at h;obtain⟨p,xs,h1,h2,h3⟩:=h;exact cT.cells ds A xs h3 a q
 | .dk ks ds,A,v,h,a,q=>by
  unfold Ow at h
  obtain⟨p,xs,B,h1,h2,h2',h3,h4,h5⟩:=h
  rcases(h4 a).mp q with z | z
  ·cases z;exact⟨⟨_,h2⟩,Gr h2⟩
  ·exact cT.cells ds B xs h5 a z
 | .dt ks ds,A,v,h,a,q=>by
  unfold Ow at h
  obtain⟨p,xs,B,h1,h2,h2',h3,h4,h5⟩:=h
  rcases(h4 a).mp q with z | z
  ·cases z;exact⟨⟨_,h2⟩,λys e=>(by rw[h2]at e;cases e),λo ys e=>(by rw[h2]at e;cases e)⟩
  ·exact cT.cells ds B xs h5 a z
 | .ins C nm ds,A,v,h,a,q=>by
  unfold Ow at h
  obtain⟨p,dx,xs,B,h1,h2,h2',h3,h3',h3'',h4,h5⟩:=h
  rcases(h4 a).mp q with (z | z) | z
  ·cases z;exact⟨⟨_,h2⟩,λys e=>(by rw[h2]at e;cases e),λo ys e=>(by rw[h2]at e;cases e)⟩
  ·cases z;exact⟨⟨_,h2'⟩,λys e=>(by rw[h2']at e;cases e),λo ys e=>(by rw[h2']at e;cases e)⟩
  ·exact cT.cells ds B xs h5 a z
theorem cT.cells{K:aA}{H:Hp}:∀(ds:List D)(A:Fp)(ys:List V),cT K H ds A ys→∀a,A a→nT H a
 | [],A,ys,h,a,q=>by unfold cT at h;exact absurd q (h.1 a)
 | d::ds,A,ys,h,a,q=>by
  unfold cT at h
  obtain⟨y,yt,A1,A2,h1,h2,h3,h4,h5⟩:=h
  rcases(h3 a).mp q with z | z
  ·exact Ow.cells d A1 y h4 a z
  ·exact cT.cells ds A2 yt h5 a z
end
mutual
def D.dD:D→Bool
  | .non=>true | .bl _=>true | .int _=>true | .str _=>true
  | .tup ds=>D.lB ds
  | _=>false
def D.lB:List D→Bool
  | []=>true
  | d::ds=>D.dD d&&D.lB ds
end
abbrev nil:Fp:=λ_=>False
mutual
theorem qQ{K:aA}{H:Hp}:∀(d:D)(v:V),d.dD=true→Rv K H d v→Ow K H d nil v
 | .non,v,_,h=>by unfold Rv at h;unfold Ow;exact⟨λ_ z=>z,h⟩
 | .bl _,v,_,h=>by unfold Rv at h;unfold Ow;exact⟨λ_ z=>z,h⟩
 | .int _,v,_,h=>by unfold Rv at h;unfold Ow;exact⟨λ_ z=>z,h⟩
 | .str _,v,_,h=>by unfold Rv at h;unfold Ow;exact⟨λ_ z=>z,h⟩
 | .tup ds,v,i,h=>by unfold D.dD at i;unfold Rv at h;unfold Ow;obtain⟨a,xs,h1,h2,h3⟩:=h;exact⟨a,xs,h1,h2,pN ds xs i h3⟩
 | .lst ds,v,i,h=>by unfold D.dD at i;cases i
 | .dk _ ds,v,i,h=>by unfold D.dD at i;cases i
 | .dt _ ds,v,i,h=>by unfold D.dD at i;cases i
 | .ins _ _ ds,v,i,h=>by unfold D.dD at i;cases i
theorem pN{K:aA}{H:Hp}:∀(ds:List D)(ys:List V),D.lB ds=true→bN K H ds ys→cT K H ds nil ys
 | [],ys,_,h=>by unfold bN at h;unfold cT;exact⟨λ_ z=>z,h⟩
 | d::ds,ys,i,h=>by
  unfold D.lB at i
  rw[C1]at i
  unfold bN at h
  unfold cT
  obtain⟨y,yt,h1,h2,h3⟩:=h
  exact⟨y,yt,nil,nil,h1,λ_ z _=>z,λx=>⟨False.elim,λz=>z.elim id id⟩,qQ d y i.1 h2,pN ds yt i.2 h3⟩
end
open Classical in
noncomputable def out(H:Hp)(A:Fp):Hp:=λa=>if A a then none else H a
theorem Uv{H:Hp}{A:Fp}{a:Addr}(h:¬A a):out H A a=H a:=by unfold out;rw[if_neg h]
theorem bT{H:Hp}{A:Fp}{a:Addr}{o:HO}:out H A a=some o↔¬A a∧H a=some o:=by
 unfold out
 split
 ·rename_i h;exact⟨λz=>(by cases z),λz=>absurd h z.1⟩
 ·rename_i h;exact⟨λz=>⟨h,z⟩,λz=>z.2⟩
theorem fQ(H:Hp)(A:Fp):aD (out H A) H:=λb o h=>(bT.mp h).2
theorem Gu{K:aA}{H:Hp}{A:Fp}(h:∀a,A a→mQ H a):Dq K H (out H A):=λa xs q=>by
 rcases q with (q | ⟨o,q⟩) | q
 ·exact .inl (.inl (bT.mpr ⟨λz=>(h a z).1 _ q,q⟩))
 ·exact .inl (.inr ⟨o,bT.mpr ⟨λz=>(h a z).2 _ _ q,q⟩⟩)
 ·exact .inr q
theorem Ow.out{K:aA}{H:Hp}{d:D}{A A':Fp}{v:V}(h:Ow K H d A' v)(ap:Apart A' A)(c:∀a,A a→mQ H a):Rv K (out H A) d v:=
 Ow.rv d A' v (Ow.frame (Gu c) d A' v h λa q=>Uv (ap a q))
end L2


namespace L2
open PySem PySem.Spec PyProof.Rows
abbrev DE:=List (Option D)
abbrev FE:=DE→Option D
abbrev FA:=DE→Option (List D)
abbrev FT:=DE→Option Bool
def lM(K:aA)(H:Hp)(e:DE)(σ:St):Prop:=∀(i:Nat)(d:D),e[i]?=some (some d)→∃v,σ[i]?=some (some v)∧Rv K H d v
theorem lM.same{K:aA}{H H':Hp}{e:DE}{σ:St}(h:lM K H e σ)(s:aD H H'):lM K H' e σ:=λi d q=>let ⟨v,h1,h2⟩:=h i d q;⟨v,h1,s.rv _ _ h2⟩
structure Zn(K:aA)(N:Fp)(Z H:Hp):Prop where
 sm:aD Z H
 tk:Dq K H Z
 no:∀a,N a→Z a=none∧¬H a=none
theorem Zn.self(K:aA)(H:Hp):Zn K nil H H:=⟨aD.refl _,λ_ _ h=>h,λ_ z=>z.elim⟩
theorem Ow.same{K:aA}{H H':Hp}{d:D}{A:Fp}{v:V}(h:Ow K H d A v)(s:aD H H'):Ow K H' d A v:=
 Ow.frame s.tk d A v h λa q=>by
  obtain⟨⟨o,e⟩,_⟩:=Ow.cells d A v h a q
  rw[e];exact s a o e
theorem cT.same{K:aA}{H H':Hp}{ds:List D}{A:Fp}{vs:List V}(h:cT K H ds A vs)(s:aD H H'):cT K H' ds A vs:=
 cT.frame s.tk ds A vs h λa q=>by
  obtain⟨⟨o,e⟩,_⟩:=cT.cells ds A vs h a q
  rw[e];exact s a o e
def wN(K:aA)(H H':Hp)(d:D)(v:V):Prop:=∃A,Ow K H' d A v∧∀a,A a→H a=none
def sV(K:aA)(H H':Hp)(ds:List D)(vs:List V):Prop:=∃A,cT K H' ds A vs∧∀a,A a→H a=none
theorem wN.rv{K:aA}{H H':Hp}{d:D}{v:V}(h:wN K H H' d v):Rv K H' d v:=let ⟨A,o,_⟩:=h;Ow.rv d A v o
theorem sV.rv{K:aA}{H H':Hp}{ds:List D}{vs:List V}(h:sV K H H' ds vs):bN K H' ds vs:=let ⟨A,o,_⟩:=h;cT.rv ds A vs o
theorem wN.back{K:aA}{H0 H H':Hp}{d:D}{v:V}(h:wN K H H' d v)(s:aD H0 H):wN K H0 H' d v:=let ⟨A,o,f⟩:=h;⟨A,o,λa q=>s.free (f a q)⟩
theorem wN.dD{K:aA}{H H':Hp}{d:D}{v:V}(i:d.dD=true)(h:Rv K H' d v):wN K H H' d v:=⟨nil,qQ d v i h,λ_ z=>z.elim⟩
theorem sV.lB{K:aA}{H H':Hp}{ds:List D}{vs:List V}(i:D.lB ds=true)(h:bN K H' ds vs):sV K H H' ds vs:=⟨nil,pN ds vs i h,λ_ z=>z.elim⟩
open Classical in
noncomputable def xG(Z H H':Hp):Hp:=λa=>if H a=none then H' a else Z a
theorem mR{Z H H':Hp}{a:Addr}(h:H a=none):xG Z H H' a=H' a:=by unfold xG;rw[if_pos h]
theorem qR{Z H H':Hp}{a:Addr}(h:¬H a=none):xG Z H H' a=Z a:=by unfold xG;rw[if_neg h]
theorem tX{K:aA}{N:Fp}{Z H H':Hp}(z:Zn K N Z H):aD Z (xG Z H H'):=λb o e=>by
 rw[qR (by rw[z.sm b o e];intro q;cases q)];exact e
theorem Bc{K:aA}{N:Fp}{Z H H':Hp}(z:Zn K N Z H)(s:aD H H'):Zn K N (xG Z H H') H' where
  sm:=λb o e=>by
    by_cases c:H b=none
    · rw[mR c]at e;exact e
    · rw[qR c]at e;exact s b o (z.sm b o e)
  tk:=λa xs h=>by
    by_cases c:H a=none
    · rcases h with (h | ⟨o,h⟩) | h
      · exact .inl (.inl (by rw[mR c];exact h))
      · exact .inl (.inr ⟨o,by rw[mR c];exact h⟩)
      · exact .inr h
    · have q:mH K H a xs:=by
        rcases h with (h | ⟨o,h⟩) | h
        · cases e:H a with
          | none=>exact absurd e c
          | some o=>have:=s a o e;rw[h]at this;cases this;exact .inl (.inl e)
        · cases e:H a with
          | none=>exact absurd e c
          | some o=>have:=s a o e;rw[h]at this;cases this;exact .inl (.inr ⟨_,e⟩)
        · exact .inr h
      exact(tX z).tup (z.tk a xs q)
  no:=λa q=>⟨by rw[qR (z.no a q).2];exact(z.no a q).1,λh=>(z.no a q).2 (s.free h)⟩
theorem wN.zone{K:aA}{N:Fp}{Z H H':Hp}{d:D}{v:V}(h:wN K H H' d v)(z:Zn K N Z H)(s:aD H H'):Rv K (xG Z H H') d v:=by
 obtain⟨A,o,f⟩:=h
 exact Ow.rv d A v (Ow.frame (Bc z s).tk d A v o λa q=>mR (f a q))
def yR(K:aA)(t:TE)(f:FE):Prop:=∀{N:Fp}(σ:St)(H Z:Hp)(e:DE)(d:D)(Q:VK),Zn K N Z H→lM K Z e σ→f e=some d →
 (∀v H' Z',aD H H'→aD Z Z'→Zn K N Z' H'→Rv K Z' d v→Q v H')→t σ H Q
def xH(K:aA)(t:TE)(f:FE):Prop:=∀(σ:St)(H:Hp)(e:DE)(d:D)(Q:VK),lM K H e σ→f e=some d →
 (∀v H',aD H H'→wN K H H' d v→Q v H')→t σ H Q
def Bd(K:aA)(t:TT)(f:FT):Prop:=∀(σ:St)(H:Hp)(e:DE)(b:Bool)(Q:Bool→Hp→Prop),lM K H e σ→f e=some b→(∀H',aD H H'→Q b H')→t σ H Q
def Xv(K:aA)(t:TA)(f:FA):Prop:=∀{N:Fp}(σ:St)(H Z:Hp)(e:DE)(ds:List D)(Q:List V→Hp→Prop),Zn K N Z H→lM K Z e σ→f e=some ds →
 (∀vs H' Z',aD H H'→aD Z Z'→Zn K N Z' H'→bN K Z' ds vs→Q vs H')→t σ H Q
def Xw(K:aA)(t:TA)(f:FA):Prop:=∀(σ:St)(H:Hp)(e:DE)(ds:List D)(Q:List V→Hp→Prop),lM K H e σ→f e=some ds →
 (∀vs H',aD H H'→sV K H H' ds vs→Q vs H')→t σ H Q
theorem xH.r{K:aA}{t:TE}{f:FE}(h:xH K t f):yR K t f:=λσ H Z e d Q z r q k=>
 h σ H e d Q (r.same z.sm) q λv H' s n=>k v H' (xG Z H H') s (tX z) (Bc z s) (n.zone z s)
def xJ(f:FE):FE:=λe=>(f e).bind λd=>if d.dD=true then some d else none
theorem tY{f:FE}{e:DE}{d:D}:xJ f e=some d↔f e=some d∧d.dD=true:=by
 unfold xJ
 cases q:f e with
 | none=>simp
 | some a=>
  simp only[F3]
  split
  ·rename_i h;constructor
   ·intro z;cases z;exact⟨rfl,h⟩
   ·rintro⟨z,_⟩;exact z
  ·rename_i h;constructor
   ·intro z;cases z
   ·rintro⟨z,z2⟩;cases z;exact absurd z2 h
theorem yR.n{K:aA}{t:TE}{f:FE}(h:yR K t f):xH K t (xJ f):=λσ H e d Q r q k=>by
 obtain⟨q1,q2⟩:=tY.mp q
 exact h σ H H e d Q (Zn.self K H) r q1 λv H' Z' s1 s2 z' rv=>k v H' s1 (.dD q2 (z'.sm.rv _ _ rv))
def aG(i:Nat):FE:=λe=>(e[i]?).getD none
theorem Uw{K:aA}(i:Nat):yR K (mD i) (aG i):=λσ H Z e d Q z r q k=>by
 have e1:e[i]?=some (some d):=by
  unfold aG at q
  cases h:e[i]? with
  | none=>rw[h]at q;cases q
  | some o=>rw[h]at q;cases q;rfl
 obtain⟨v,h1,h2⟩:=r i d e1
 exact⟨v,h1,k v H Z (aD.refl _) (aD.refl _) z h2⟩
def fC(d:D):FE:=λ_=>some d
theorem Gv{K:aA}(i:Int):xH K (tC (.int i)) (fC (.int i)):=λσ H e d Q r q k=>by cases q;exact k _ H (aD.refl _) (.dD rfl (by unfold Rv;rfl))
theorem Zh{K:aA}(i:Bool):xH K (tC (.bl i)) (fC (.bl i)):=λσ H e d Q r q k=>by cases q;exact k _ H (aD.refl _) (.dD rfl (by unfold Rv;rfl))
theorem Ux{K:aA}:xH K (tC .non) (fC .non):=λσ H e d Q r q k=>by cases q;exact k _ H (aD.refl _) (.dD rfl (by unfold Rv;rfl))
theorem Gw{K:aA}(i:Str):xH K (tC (.str i)) (fC (.str i)):=λσ H e d Q r q k=>by cases q;exact k _ H (aD.refl _) (.dD rfl (by unfold Rv;rfl))
def f2(φ:D→D→Option D)(f g:FE):FE:=λe=>(f e).bind λa=>(g e).bind λb=>φ a b
theorem mU{φ:D→D→Option D}{f g:FE}{e:DE}{d:D}(h:f2 φ f g e=some d):∃a b,f e=some a∧g e=some b∧φ a b=some d:=by
 unfold f2 at h
 obtain⟨a,h1,h2⟩:=aQ h
 obtain⟨b,h3,h4⟩:=aQ h2
 exact⟨a,b,h1,h3,h4⟩
def RP(K:aA)(r:R2)(φ:D→D→Option D):Prop:=∀{N:Fp}(x y:V)(H Z:Hp)(a b d:D)(Q:VK),Zn K N Z H→Rv K Z a x→Rv K Z b y→φ a b=some d →
 (∀v H' Z',aD H H'→aD Z Z'→Zn K N Z' H'→Rv K Z' d v→Q v H')→r x y H Q
def yS(K:aA)(r:R2)(φ:D→D→Option D):Prop:=∀(x y:V)(H:Hp)(a b d:D)(Q:VK),Rv K H a x→Rv K H b y→φ a b=some d →
 (∀v H',aD H H'→wN K H H' d v→Q v H')→r x y H Q
theorem Zi{K:aA}{r:R2}{φ:D→D→Option D}{ta tb:TE}{f g:FE}(o:RP K r φ)(ha:yR K ta f)(hb:yR K tb g):yR K (wL r ta tb) (f2 φ f g):=λσ H Z e d Q z re q k=>by
 obtain⟨a,b,h1,h2,h3⟩:=mU q
 refine ha σ H Z e a _ z re h1 λx H1 Z1 s1 t1 z1 rx=>hb σ H1 Z1 e b _ z1 (re.same t1) h2 λy H2 Z2 s2 t2 z2 ry=>?_
 exact o x y H2 Z2 a b d Q z2 (t2.rv _ _ rx) ry h3 λv H3 Z3 s3 t3 z3 rv=>k v H3 Z3 (s1.trans (s2.trans s3)) (t1.trans (t2.trans t3)) z3 rv
theorem Be{K:aA}{r:R2}{φ:D→D→Option D}{ta tb:TE}{f g:FE}(o:yS K r φ)(ha:yR K ta f)(hb:yR K tb g):xH K (wL r ta tb) (f2 φ f g):=λσ H e d Q re q k=>by
 obtain⟨a,b,h1,h2,h3⟩:=mU q
 refine ha σ H H e a _ (Zn.self K H) re h1 λx H1 Z1 s1 t1 z1 rx=>hb σ H1 Z1 e b _ z1 (re.same t1) h2 λy H2 Z2 s2 t2 z2 ry=>?_
 exact o x y H2 a b d Q (z2.sm.rv _ _ (t2.rv _ _ rx)) (z2.sm.rv _ _ ry) h3 λv H3 s3 n=>k v H3 (s1.trans (s2.trans s3)) (n.back (s1.trans s2))
def tZ(C:Int→Int→Prop) [∀i j,Decidable (C i j)] (g:Int→Int→D):D→D→Option D
 | .int i,.int j=>if C i j then some (g i j)else none
 | _,_=>none
theorem xK{C:Int→Int→Prop} [∀i j,Decidable (C i j)] {g:Int→Int→D} {a b d:D} (h:tZ C g a b=some d):∃i j,a=.int i∧b=.int j∧C i j∧d=g i j:=by
 unfold tZ at h
 split at h
 ·split at h
  ·rename_i i j c;cases h;exact⟨i,j,rfl,rfl,c,rfl⟩
  ·cases h
 ·cases h
theorem uX{K:aA}{C:Int→Int→Prop} [∀i j,Decidable (C i j)] {C':Int→Int→Prop} (hC:∀i j,C i j→C' i j) {g:Int→Int→Int}:yS K (rI C' λi j=>.int (g i j)) (tZ C λi j=>.int (g i j)):=λx y H a b d Q ra rb q k=>by
 obtain⟨i,j,rfl,rfl,c,rfl⟩:=xK q
 unfold Rv at ra rb
 exact⟨i,j,ra,rb,hC i j c,k _ H (aD.refl _) (.dD rfl (by unfold Rv;rfl))⟩
theorem iG{K:aA}{g:Int→Int→Bool}:yS K (Lg λi j=>.bl (g i j)) (tZ (λ_ _=>True) λi j=>.bl (g i j)):=λx y H a b d Q ra rb q k=>by
 obtain⟨i,j,rfl,rfl,c,rfl⟩:=xK q
 unfold Rv at ra rb
 exact⟨i,j,ra,rb,k _ H (aD.refl _) (.dD rfl (by unfold Rv;rfl))⟩
def aO:FA:=λ_=>some []
def aC(f:FE)(fs:FA):FA:=λe=>(f e).bind λa=>(fs e).bind λr=>some (a::r)
theorem jH{f:FE}{fs:FA}{e:DE}{ds:List D}(h:aC f fs e=some ds):∃a r,f e=some a∧fs e=some r∧ds=a::r:=by
 unfold aC at h
 obtain⟨a,h1,h2⟩:=aQ h
 obtain⟨b,h3,h4⟩:=aQ h2
 cases h4
 exact⟨a,b,h1,h3,rfl⟩
theorem Uy{K:aA}:Xv K kZ aO:=λσ H Z e ds Q z re q k=>by cases q;exact k [] H Z (aD.refl _) (aD.refl _) z (by unfold bN;rfl)
theorem Mr{K:aA}{te:TE}{t:TA}{f:FE}{fs:FA}(h:yR K te f)(hs:Xv K t fs):Xv K (cZ te t) (aC f fs):=λσ H Z e ds Q z re q k=>by
 obtain⟨a,r,h1,h2,rfl⟩:=jH q
 refine h σ H Z e a _ z re h1 λx H1 Z1 s1 t1 z1 rx=>hs σ H1 Z1 e r _ z1 (re.same t1) h2 λvs H2 Z2 s2 t2 z2 rs=>?_
 exact k _ H2 Z2 (s1.trans s2) (t1.trans t2) z2 (by unfold bN;exact⟨x,vs,rfl,t2.rv _ _ rx,rs⟩)
theorem Uz{K:aA}:Xw K kZ aO:=λσ H e ds Q re q k=>by cases q;exact k [] H (aD.refl _) (.lB rfl (by unfold bN;rfl))
theorem Ms{K:aA}{te:TE}{t:TA}{f:FE}{fs:FA}(h:xH K te f)(hs:Xw K t fs):Xw K (cZ te t) (aC f fs):=λσ H e ds Q re q k=>by
 obtain⟨a,r,h1,h2,rfl⟩:=jH q
 refine h σ H e a _ re h1 λx H1 s1 n1=>hs σ H1 e r _ (re.same s1) h2 λvs H2 s2 n2=>?_
 refine k _ H2 (s1.trans s2) ?_
 obtain⟨A,oA,fA⟩:=n1
 obtain⟨B,oB,fB⟩:=n2
 refine⟨gK A B,?_,λp q=>q.elim (fA p) λz=>s1.free (fB p z)⟩
 unfold cT
 refine⟨x,vs,A,B,rfl,λp qa qb=>?_,λ_=>Iff.rfl,oA.same s2,oB⟩
 obtain⟨⟨o,e1⟩,_⟩:=Ow.cells _ _ _ oA p qa
 rw[fB p qb]at e1;cases e1
def cap(n:Nat)(d:D):Option D:=if n≤100000 then some d else none
theorem mV{n:Nat}{d d':D}(h:cap n d=some d'):n≤100000∧d'=d:=by
 unfold cap at h
 split at h
 ·rename_i c;cases h;exact⟨c,rfl⟩
 ·cases h
theorem iV{n:Nat}(h:n≤100000):n≤sizeLine:=by rw[sizeLine_eq];omega
theorem Zj{n:Nat}(h:n≤100000):n<sizeLine:=by rw[sizeLine_eq];omega
def iH(fs:FA):FE:=λe=>(fs e).bind λds=>cap ds.length (.lst ds)
def Dr(fs:FA):FE:=λe=>(fs e).bind λds=>cap ds.length (.tup ds)
theorem uY{K:aA}{H H1:Hp}{ds:List D}{xs:List V}{p:Addr}(s:aD H H1)(n:sV K H H1 ds xs)(hp:H1 p=none):wN K H (upd H1 p (.lst xs)) (.lst ds) (.ref p):=by
 obtain⟨A,o,f⟩:=n
 refine⟨gK (·=p) A,?_,λa q=>q.elim (λz=>by cases z;exact s.free hp) (f a)⟩
 unfold Ow
 refine⟨p,xs,A,rfl,bB,λz=>?_,λ_=>Iff.rfl,o.same (bR hp _)⟩
 obtain⟨⟨u,e⟩,_⟩:=cT.cells _ _ _ o p z
 rw[hp]at e;cases e
theorem Mt{K:aA}{H H1:Hp}{ds:List D}{xs:List V}{p:Addr}(n:sV K H H1 ds xs)(hp:H1 p=none):wN K H (upd H1 p (.tup xs)) (.tup ds) (.ref p):=by
 obtain⟨A,o,f⟩:=n
 refine⟨A,?_,f⟩
 unfold Ow
 exact⟨p,xs,rfl,mH.of bB,o.same (bR hp _)⟩
theorem Va{K:aA}{t:TA}{fs:FA}(h:Xw K t fs):xH K (Df t) (iH fs):=λσ H e d Q re q k=>by
 unfold iH at q
 obtain⟨ds,h1,h2⟩:=aQ q
 obtain⟨hc,rfl⟩:=mV h2
 refine h σ H e ds _ re h1 λxs H1 s1 n=>⟨iV (by rw[n.rv.length];exact hc),λp hp=>?_⟩
 exact k _ _ (s1.trans (bR hp _)) (uY s1 n hp)
theorem Vb{K:aA}{t:TA}{fs:FA}(h:Xw K t fs):xH K (wY t) (Dr fs):=λσ H e d Q re q k=>by
 unfold Dr at q
 obtain⟨ds,h1,h2⟩:=aQ q
 obtain⟨hc,rfl⟩:=mV h2
 refine h σ H e ds _ re h1 λxs H1 s1 n=>⟨iV (by rw[n.rv.length];exact hc),λp hp=>?_⟩
 exact k _ _ (s1.trans (bR hp _)) (Mt n hp)
theorem Vc{K:aA}{N:Fp}{Z H:Hp}{p:Addr}{o:HO}(z:Zn K N Z H)(hp:H p=none):aD Z (upd Z p o)∧Zn K N (upd Z p o) (upd H p o):=by
 have hz:Z p=none:=z.sm.free hp
 refine⟨bR hz o,⟨λb u e=>?_,λa xs h=>?_,λa q=>?_⟩⟩
 ·by_cases c:b=p
  ·subst c;rw[bB]at e;rw[bB];exact e
  ·rw[aZ c]at e;rw[aZ c];exact z.sm b u e
 ·by_cases c:a=p
  ·subst c
   rcases h with (h | ⟨u,h⟩) | h
   ·rw[bB]at h;exact .inl (.inl (by rw[bB];exact h))
   ·rw[bB]at h;exact .inl (.inr ⟨u,by rw[bB];exact h⟩)
   ·exact .inr h
  ·have q:mH K H a xs:=by
    rcases h with (h | ⟨u,h⟩) | h
    ·rw[aZ c]at h;exact .inl (.inl h)
    ·rw[aZ c]at h;exact .inl (.inr ⟨u,h⟩)
    ·exact .inr h
   exact(bR hz o).tup (z.tk a xs q)
 ·have c:a≠p:=λz'=>(z.no a q).2 (by rw[z'];exact hp)
  rw[aZ c,aZ c];exact z.no a q
theorem Vd{K:aA}{t:TA}{fs:FA}(h:Xv K t fs):yR K (Df t) (iH fs):=λσ H Z e d Q z re q k=>by
 unfold iH at q
 obtain⟨ds,h1,h2⟩:=aQ q
 obtain⟨hc,rfl⟩:=mV h2
 refine h σ H Z e ds _ z re h1 λxs H1 Z1 s1 t1 z1 rs=>⟨iV (by rw[rs.length];exact hc),λp hp=>?_⟩
 obtain⟨a1,a2⟩:=Vc (o:=.lst xs) z1 hp
 exact k _ _ _ (s1.trans (bR hp _)) (t1.trans a1) a2 (by unfold Rv;exact⟨p,xs,rfl,mG.of bB,a1.Gs _ _ rs⟩)
end L2


namespace L2
open PySem PySem.Spec PyProof.Rows
structure XR(K:aA)(X:Cx)(e:Expr)(t:TE)(f:FE):Prop where
 hk:X.K=K
 pe:PE X e t
 ev:yR K t f
structure XN(K:aA)(X:Cx)(e:Expr)(t:TE)(f:FE):Prop where
 hk:X.K=K
 pe:PE X e t
 ev:xH K t f
structure XT(K:aA)(X:Cx)(e:Expr)(t:TT)(f:FT):Prop where
 hk:X.K=K
 pt:PT X e t
 ev:Bd K t f
structure XW(K:aA)(X:Cx)(e:Expr)(t:TT)(f:FT):Prop where
 hk:X.K=K
 pw:PW X e t
 ev:Bd K t f
structure XA(K:aA)(X:Cx)(es:List Expr)(t:TA)(f:FA):Prop where
 hk:X.K=K
 pa:PA X es t
 ev:Xv K t f
structure XB(K:aA)(X:Cx)(es:List Expr)(t:TA)(f:FA):Prop where
 hk:X.K=K
 pa:PA X es t
 ev:Xw K t f
section
variable{K:aA}{X:Cx}{e a b c:Expr}{es:List Expr}{t ta tb:TE}{f g:FE}{tA:TA}{fs:FA}{pos:Pos}
theorem XN.r(h:XN K X e t f):XR K X e t f:=⟨h.hk,h.pe,h.ev.r⟩
theorem XR.n(h:XR K X e t f):XN K X e t (xJ f):=⟨h.hk,h.pe,yR.n h.ev⟩
theorem aL{i:Nat}(h:PE X e (mD i))(hk:X.K=K:=by rfl):XR K X e (mD i) (aG i):=⟨hk,h,Uw i⟩
theorem aJ{i:Int}{j:Nat}(hk:X.K=K:=by rfl):XN K X (.Constant (.int i) j pos) (tC (.int i)) (fC (.int i)):=⟨hk,Fg,Gv i⟩
theorem jJ{i:Bool}{j:Nat}(hk:X.K=K:=by rfl):XN K X (.Constant (.bool i) j pos) (tC (.bl i)) (fC (.bl i)):=⟨hk,Yi,Zh i⟩
theorem lN{j:Nat}(hk:X.K=K:=by rfl):XN K X (.Constant .none j pos) (tC .non) (fC .non):=⟨hk,Sx,Ux⟩
theorem bM{x:Str}{j:Nat}(hk:X.K=K:=by rfl):XN K X (.Constant (.str x) j pos) (tC (.str x)) (fC (.str x)):=⟨hk,Fi,Gw x⟩
theorem uA{op:Operator}{r:R2}{φ:D→D→Option D}(ho:iB X (binaryOp op) r)(hd:yS K r φ)(ha:XR K X a ta f)(hb:XR K X b tb g):XN K X (.BinOp a op b pos) (wL r ta tb) (f2 φ f g):=⟨ha.hk,Qx ho ha.pe hb.pe,Be hd ha.ev hb.ev⟩
def RQ:D→D→Option D:=tZ (λ_ _=>True) λi j=>.int (i-j)
instance (i j:Int):Decidable (sO i j):=by unfold sO;exact inferInstance
instance (i j:Int):Decidable (Cy i j):=by unfold Cy;exact inferInstance
instance (i j:Int):Decidable (Cz i j):=by unfold Cz;exact inferInstance
def nU:D→D→Option D:=tZ sO λi j=>.int (i*j)
def uZ:D→D→Option D:=tZ Cy λi j=>.int (i/j)
def gM:D→D→Option D:=tZ (λ_ j=>0<j) λi j=>.int (i%j)
def zN:D→D→Option D:=tZ Cz λi j=>.int (i ^ j.toNat)
theorem iI(ha:XR K X a ta f)(hb:XR K X b tb g):XN K X (.BinOp a .Mult b pos) (wL (rI sO λi j=>.int (i*j)) ta tb) (f2 nU f g):=uA Tv (uX λ_ _ h=>h) ha hb
theorem nW(ha:XR K X a ta f)(hb:XR K X b tb g):XN K X (.BinOp a .FloorDiv b pos) (wL (rI Cy λi j=>.int (i/j)) ta tb) (f2 uZ f g):=uA Lh (uX λ_ _ h=>h) ha hb
theorem cR(ha:XR K X a ta f)(hb:XR K X b tb g):XN K X (.BinOp a .Mod b pos) (wL (rI (λ_ j=>0<j) λi j=>.int (i%j)) ta tb) (f2 gM f g):=uA Tw (uX λ_ _ h=>h) ha hb
theorem zO(ha:XR K X a ta f)(hb:XR K X b tb g):XN K X (.BinOp a .Pow b pos) (wL (rI Cz λi j=>.int (i ^ j.toNat)) ta tb) (f2 zN f g):=uA Tz (uX λ_ _ h=>h) ha hb
theorem nY{op:CmpOp}{r:R2}{φ:D→D→Option D}(ho:iB X (compareOp op) r)(hd:yS K r φ)(ha:XR K X a ta f)(hb:XR K X b tb g)(hm:behindInMarks op b=false):XN K X (.Compare a [op] [b] pos) (wL r ta tb) (f2 φ f g):=⟨ha.hk,Li ho ha.pe hb.pe hm,Be hd ha.ev hb.ev⟩
def fB(f:FE):FT:=λe=>(f e).bind λd=>match d with | .bl b=>some b | _=>none
theorem mW{f:FE}{e:DE}{b:Bool}(h:fB f e=some b):f e=some (.bl b):=by
 unfold fB at h
 obtain⟨d,h1,h2⟩:=aQ h
 split at h2
 ·cases h2;exact h1
 ·cases h2
theorem Mu(h:yR K t f):Bd K (wX t) (fB f):=λσ H e b Q re q k=>h σ H H e _ _ (Zn.self K H) re (mW q) λv H' Z' s1 s2 z rv=>by
 unfold Rv at rv
 exact⟨b,rv,k H' s1⟩
theorem Zk(h:yR K t f):Bd K (tB t) (fB f):=λσ H e b Q re q k=>h σ H H e _ _ (Zn.self K H) re (mW q) λv H' Z' s1 s2 z rv=>by
 unfold Rv at rv
 exact⟨b,rv,k H' s1⟩
theorem cY{op:CmpOp}{r:R2}{φ:D→D→Option D}(ho:iB X (compareOp op) r)(hd:yS K r φ)(ha:XR K X a ta f)(hb:XR K X b tb g)(hm:behindInMarks op b=false):XT K X (.Compare a [op] [b] pos) (wX (wL r ta tb)) (fB (f2 φ f g)):=⟨ha.hk,Lj ho ha.pe hb.pe hm,Mu (Be hd ha.ev hb.ev).r⟩
theorem jK(h:XR K X e t f)(he:∀whole,isTrue e X.env whole=(do let v ←whole;standAt e.pos;holding [v] (truthy v)):=by intro _;rfl):XT K X e (tB t) (fB f):=⟨h.hk,Sy h.pe he,Zk h.ev⟩
def Kv:D→D→Option D:=tZ (λ_ _=>True) λi j=>.bl (decide (i<j))
def Rj:D→D→Option D:=tZ (λ_ _=>True) λi j=>.bl (decide (i≤j))
def HD:D→D→Option D:=tZ (λ_ _=>True) λi j=>.bl (decide (j<i))
def VL:D→D→Option D:=tZ (λ_ _=>True) λi j=>.bl (decide (j≤i))
def toV:D→Option V
  | .non=>some .non | .bl b=>some (.bl b) | .int i=>some (.int i) | .str x=>some (.str x)
  | _=>none
theorem vA{H:Hp}{d:D}{v x:V}(h:toV d=some v)(r:Rv K H d x):x=v:=by
 cases d<;>unfold toV at h<;>first | (cases h;unfold Rv at r;exact r) | cases h
mutual
def cL:D→Option DV
 | .int i=>some (.int i)
 | .non=>some .non
 | .lst ds=>(jL ds).map DV.lst
 | .tup ds=>(jL ds).map DV.tup
 | _=>none
def jL:List D→Option (List DV)
 | []=>some []
 | d::ds=>(cL d).bind λx=>(jL ds).bind λxs=>some (x::xs)
end
mutual
theorem iJ{H:Hp}:∀(d:D)(x:DV)(v:V),cL d=some x→Rv K H d v→Reads K H x v
 | .int i,x,v,h,r=>by unfold cL at h;cases h;unfold Rv at r;unfold Reads;exact r
 | .lst ds,x,v,h,r=>by
  unfold cL at h
  obtain⟨xs,h1,rfl⟩:=fP h
  unfold Rv at r;unfold Reads
  obtain⟨a,vs,r1,r2,r3⟩:=r
  exact⟨a,vs,r1,r2,qT ds xs vs h1 r3⟩
 | .tup ds,x,v,h,r=>by
  unfold cL at h
  obtain⟨xs,h1,rfl⟩:=fP h
  unfold Rv at r;unfold Reads
  obtain⟨a,vs,r1,r2,r3⟩:=r
  exact⟨a,vs,r1,r2,qT ds xs vs h1 r3⟩
 | .non,x,v,h,r=>by unfold cL at h;cases h;unfold Rv at r;unfold Reads;exact r
 | .bl _,x,v,h,r=>by unfold cL at h;cases h
 | .str _,x,v,h,r=>by unfold cL at h;cases h
 | .dk _ _,x,v,h,r=>by unfold cL at h;cases h
 | .dt _ _,x,v,h,r=>by unfold cL at h;cases h
 | .ins _ _ _,x,v,h,r=>by unfold cL at h;cases h
theorem qT{H:Hp}:∀(ds:List D)(xs:List DV)(vs:List V),jL ds=some xs→bN K H ds vs→aY K H xs vs
 | [],xs,vs,h,r=>by unfold jL at h;cases h;unfold bN at r;unfold aY;exact r
 | d::ds,xs,vs,h,r=>by
  unfold jL at h
  obtain⟨x,h1,h2⟩:=aQ h
  obtain⟨xt,h3,h4⟩:=aQ h2
  cases h4
  unfold bN at r;unfold aY
  obtain⟨y,ys,r1,r2,r3⟩:=r
  exact⟨y,ys,r1,iJ d x y h1 r2,qT ds xt ys h3 r3⟩
end
mutual
theorem Gx:∀(d e:D)(x:DV),cL d=some x→cL e=some x→d=e
 | .int i,e,x,h,h'=>by
  unfold cL at h;cases h
  cases e<;>unfold cL at h'<;>first | (cases h';rfl) | cases h' | (obtain⟨xs,q1,q2⟩:=fP h';cases q2)
 | .lst ds,e,x,h,h'=>by
  unfold cL at h
  obtain⟨xs,h1,rfl⟩:=fP h
  cases e with
  | lst es=>unfold cL at h';obtain⟨ys,q1,q2⟩:=fP h';cases q2;rw[nZ ds es xs h1 q1]
  | tup es=>unfold cL at h';obtain⟨ys,q1,q2⟩:=fP h';cases q2
  | _=>unfold cL at h';cases h'
 | .tup ds,e,x,h,h'=>by
  unfold cL at h
  obtain⟨xs,h1,rfl⟩:=fP h
  cases e with
  | tup es=>unfold cL at h';obtain⟨ys,q1,q2⟩:=fP h';cases q2;rw[nZ ds es xs h1 q1]
  | lst es=>unfold cL at h';obtain⟨ys,q1,q2⟩:=fP h';cases q2
  | _=>unfold cL at h';cases h'
 | .non,e,x,h,h'=>by
  unfold cL at h;cases h
  cases e<;>unfold cL at h'<;>first | (cases h';rfl) | cases h' | (obtain⟨xs,q1,q2⟩:=fP h';cases q2)
 | .bl _,e,x,h,h'=>by unfold cL at h;cases h
 | .str _,e,x,h,h'=>by unfold cL at h;cases h
 | .dk _ _,e,x,h,h'=>by unfold cL at h;cases h
 | .dt _ _,e,x,h,h'=>by unfold cL at h;cases h
 | .ins _ _ _,e,x,h,h'=>by unfold cL at h;cases h
theorem nZ:∀(ds es:List D)(xs:List DV),jL ds=some xs→jL es=some xs→ds=es
 | [],[],xs,h,h'=>rfl
 | [],e::es,xs,h,h'=>by
  unfold jL at h h'
  cases h
  obtain⟨x,h1,h2⟩:=aQ h'
  obtain⟨xt,h3,h4⟩:=aQ h2
  cases h4
 | d::ds,[],xs,h,h'=>by
  unfold jL at h h'
  cases h'
  obtain⟨x,h1,h2⟩:=aQ h
  obtain⟨xt,h3,h4⟩:=aQ h2
  cases h4
 | d::ds,e::es,xs,h,h'=>by
  unfold jL at h h'
  obtain⟨x,h1,h2⟩:=aQ h
  obtain⟨xt,h3,h4⟩:=aQ h2
  cases h4
  obtain⟨y,k1,k2⟩:=aQ h'
  obtain⟨yt,k3,k4⟩:=aQ k2
  cases k4
  rw[Gx d e x h1 k1,nZ ds es xt h3 k3]
end
noncomputable def yU(a b:D):Option D:=match toV a,toV b with
 | some x,some y=>if wW x y=true then some (.bl (decide (x=y)))else none
 | _,_=>match cL a,cL b with
  | some x,some y=>if x.depth≤32 then some (.bl (jF x y))else none
  | _,_=>none
theorem qU:yS K (λx y H Q=>JD x y H Q∨Up K false x y H Q) yU:=λx y H a b d Q ra rb q k=>by
 unfold yU at q
 split at q
 ·rename_i u v h1 h2
  split at q
  ·rename_i hs
   cases q
   rw[vA h1 ra,vA h2 rb]
   exact .inl ⟨hs,k _ H (aD.refl _) (.dD rfl (by unfold Rv;rfl))⟩
  ·cases q
 ·split at q
  ·rename_i u v h1 h2
   split at q
   ·rename_i hs
    cases q
    exact .inr ⟨u,v,iJ a u x h1 ra,iJ b v y h2 rb,hs,k _ H (aD.refl _) (.dD rfl (by unfold Rv;rfl))⟩
   ·cases q
  ·cases q
noncomputable def Kw(a b:D):Option D:=match toV a,toV b with
 | some x,some y=>if wW x y=true then some (.bl (!decide (x=y)))else none
 | _,_=>match cL a,cL b with
  | some (.lst x),some (.lst y)=>if bZ x≤32 then some (.bl (!jF (.lst x) (.lst y)))else none
  | some (.tup x),some (.tup y)=>if bZ x≤32 then some (.bl (!jF (.tup x) (.tup y)))else none
  | _,_=>none
def Zm(K:aA):R2:=λx y H Q=>NZ x y H Q∨(∃ds es,Reads K H (.lst ds) x∧Reads K H (.lst es) y∧bZ ds≤32∧Q (.bl (!jF (.lst ds) (.lst es))) H)∨(∃ds es,Reads K H (.tup ds) x∧Reads K H (.tup es) y∧bZ ds≤32∧Q (.bl (!jF (.tup ds) (.tup es))) H)
theorem Gy:yS K (Zm K) Kw:=λx y H a b d Q ra rb q k=>by
 unfold Kw at q
 split at q
 ·rename_i u v h1 h2
  split at q
  ·rename_i hs
   cases q
   rw[vA h1 ra,vA h2 rb]
   exact .inl ⟨hs,k _ H (aD.refl _) (.dD rfl (by unfold Rv;rfl))⟩
  ·cases q
 ·split at q
  ·rename_i u v h1 h2
   split at q
   ·rename_i hs
    cases q
    exact .inr (.inl ⟨u,v,iJ a _ x h1 ra,iJ b _ y h2 rb,hs,k _ H (aD.refl _) (.dD rfl (by unfold Rv;rfl))⟩)
   ·cases q
  ·rename_i u v h1 h2
   split at q
   ·rename_i hs
    cases q
    exact .inr (.inr ⟨u,v,iJ a _ x h1 ra,iJ b _ y h2 rb,hs,k _ H (aD.refl _) (.dD rfl (by unfold Rv;rfl))⟩)
   ·cases q
  ·cases q
theorem or_eq(hu:X.A.units+64<cLine)(hk:X.K=K):iB X (compareOp .Eq) (λx y H Q=>JD x y H Q∨Up K false x y H Q):=by subst hk;exact Yq.or (Uq hu)
theorem Gz(hu:X.A.units+64<cLine)(hk:X.K=K):iB X (compareOp .NotEq) (Zm K):=by subst hk;exact Yr.or ((Ur hu).or (Uu hu))
def vB:D→Option (List D)
 | .lst ds=>some ds
 | .tup ds=>some ds
 | _=>none
theorem Mv{H:Hp}{d:D}{ds:List D}{v:V}(h:vB d=some ds)(r:Rv K H d v):∃p xs,v=.ref p∧(mG K H p xs∨mH K H p xs)∧bN K H ds xs:=by
 cases d with
 | lst es=>unfold vB at h;cases h;unfold Rv at r;obtain⟨p,xs,r1,r2,r3⟩:=r;exact⟨p,xs,r1,.inl r2,r3⟩
 | tup es=>unfold vB at h;cases h;unfold Rv at r;obtain⟨p,xs,r1,r2,r3⟩:=r;exact⟨p,xs,r1,.inr r2,r3⟩
 | _=>unfold vB at h;cases h
end
section
variable{κ:Type} [DecidableEq κ] {K:aA} {H:Hp}
def posK:List κ→κ→Option Nat
 | [],_=>none
 | a::ks,k=>if a=k then some 0 else(posK ks k).map (·+1)
end
section
variable{K:aA}{X:Cx}{e a b c:Expr}{es:List Expr}{t ta tb:TE}{f g:FE}{pos:Pos}
def Mw(a i:D):Option D:=match i with
 | .int i=>(vB a).bind λds=>Fb ds i
 | _=>none
theorem Rk{H:Hp}{ds:List D}{xs:List V}{i:Int}{d:D}(r:bN K H ds xs)(h:Fb ds i=some d):∃v,Fb xs i=some v∧Rv K H d v:=by
 unfold Fb at h ⊢
 obtain⟨j,h1,h2⟩:=aQ h
 rw[r.length,h1]
 exact r.get h2
theorem Zo(hk:X.K=K):Kr X (JH K):=by subst hk;exact Uj
theorem Bf(ha:XR K X a ta f)(hb:XR K X b tb g)(hs:uR b):XR K X (.Subscript a b pos) (wL (JH K) ta tb) (f2 Mw f g):=
 ⟨ha.hk,Rb (Zo ha.hk) ha.pe hb.pe hs,Zi (λx y H Z da db d Q z ra rb q k=>by
  unfold Mw at q
  split at q
  ·rename_i i
   obtain⟨ds,h1,h2⟩:=aQ q
   unfold Rv at rb
   cases da with
   | lst es=>
    unfold vB at h1;cases h1
    unfold Rv at ra
    obtain⟨p,xs,r1,r2,r3⟩:=ra
    obtain⟨v,e1,e2⟩:=Rk r3 h2
    exact .inl ⟨p,xs,i,v,r1,rb,z.sm.seq r2,e1,k v H Z (aD.refl _) (aD.refl _) z e2⟩
   | tup es=>
    unfold vB at h1;cases h1
    unfold Rv at ra
    obtain⟨p,xs,r1,r2,r3⟩:=ra
    obtain⟨v,e1,e2⟩:=Rk r3 h2
    exact .inr (.inl ⟨p,xs,i,v,r1,rb,z.sm.tup r2,e1,k v H Z (aD.refl _) (aD.refl _) z e2⟩)
   | _=>unfold vB at h1;cases h1
  ·cases q) ha.ev hb.ev⟩
end
end L2


namespace L2
open PySem PySem.Spec PyProof.Rows
section
variable{K:aA}{X:Cx}{e a b c:Expr}{es rest:List Expr}{t ta tb:TE}{f g:FE}{tA:TA}{fs:FA}{pos:Pos}{tc:TT}{fc fd:FT}{td:TT}
theorem aU(hk:X.K=K:=by rfl):XA K X [] kZ aO:=⟨hk,dU,Uy⟩
theorem aF(h:XR K X e t f)(hs:XA K X es tA fs)(hst:starEach (e::es) X.env=(false,eval e X.env)::starEach es X.env:=by rfl):XA K X (e::es) (cZ t tA) (aC f fs):=⟨h.hk,aX h.pe hs.pa hst,Mr h.ev hs.ev⟩
theorem zP(hk:X.K=K:=by rfl):XB K X [] kZ aO:=⟨hk,dU,Uz⟩
theorem cM(h:XN K X e t f)(hs:XB K X es tA fs)(hst:starEach (e::es) X.env=(false,eval e X.env)::starEach es X.env:=by rfl):XB K X (e::es) (cZ t tA) (aC f fs):=⟨h.hk,aX h.pe hs.pa hst,Ms h.ev hs.ev⟩
theorem Hf(h:XB K X es tA fs):XN K X (.List es pos) (Df tA) (iH fs):=⟨h.hk,zB h.pa,Va h.ev⟩
theorem vC(h:XA K X es tA fs):XR K X (.List es pos) (Df tA) (iH fs):=⟨h.hk,zB h.pa,Vd h.ev⟩
theorem Ve{x1:Nat}(h:XB K X es tA fs):XN K X (.Tuple es x1 pos) (wY tA) (Dr fs):=⟨h.hk,qK h.pa,Vb h.ev⟩
def zQ(f g:FT):FT:=λe=>(f e).bind λc=>if c=true then g e else some false
def yV(f g:FT):FT:=λe=>(f e).bind λc=>if c=true then some true else g e
def gF(f:FT):FT:=λe=>(f e).map λc=>!c
theorem Vf(h1:Bd K tc fc)(h2:Bd K td fd):Bd K (Tc tc td) (zQ fc fd):=λσ H e b Q re q k=>by
 unfold zQ at q
 obtain⟨c,q1,q2⟩:=aQ q
 refine h1 σ H e c _ re q1 λH1 s1=>?_
 cases c with
 | true=>rw[if_pos rfl]at q2 ⊢;exact h2 σ H1 e b Q (re.same s1) q2 λH2 s2=>k H2 (s1.trans s2)
 | false=>rw[if_neg (by decide)]at q2 ⊢;cases q2;exact k H1 s1
theorem Zq(h1:Bd K tc fc)(h2:Bd K td fd):Bd K (IK tc td) (yV fc fd):=λσ H e b Q re q k=>by
 unfold yV at q
 obtain⟨c,q1,q2⟩:=aQ q
 refine h1 σ H e c _ re q1 λH1 s1=>?_
 cases c with
 | false=>rw[if_neg (by decide)]at q2 ⊢;exact h2 σ H1 e b Q (re.same s1) q2 λH2 s2=>k H2 (s1.trans s2)
 | true=>rw[if_pos rfl]at q2 ⊢;cases q2;exact k H1 s1
theorem Vg(h1:Bd K tc fc):Bd K (Td tc) (gF fc):=λσ H e b Q re q k=>by
 unfold gF at q
 obtain⟨c,q1,rfl⟩:=fP q
 exact h1 σ H e c _ re q1 k
theorem XW.xt(h:XW K X e tc fc):XT K X e tc fc:=⟨h.hk,h.pw.pt,h.ev⟩
theorem Mx(h:XT K X a tc fc):XW K X (.BoolOp .And [a] pos) tc fc:=⟨h.hk,Lb h.pt,h.ev⟩
theorem zR(h:XT K X a tc fc):XW K X (.BoolOp .Or [a] pos) tc fc:=⟨h.hk,Te h.pt,h.ev⟩
theorem Vh(h:XT K X a tc fc)(h2:XW K X (.BoolOp .And (b::rest) pos) td fd):XW K X (.BoolOp .And (a::b::rest) pos) (Tc tc td) (zQ fc fd):=⟨h.hk,Tf h.pt h2.pw,Vf h.ev h2.ev⟩
theorem Hg(h:XT K X a tc fc)(h2:XW K X (.BoolOp .Or (b::rest) pos) td fd):XW K X (.BoolOp .Or (a::b::rest) pos) (IK tc td) (yV fc fd):=⟨h.hk,Yj h.pt h2.pw,Zq h.ev h2.ev⟩
theorem jM(h:XT K X a tc fc):XT K X (.UnaryOp .Not a pos) (Td tc) (gF fc):=⟨h.hk,Tg h.pt,Vg h.ev⟩
def qW(f g:FE):FE:=λe=>(fB f e).bind λc=>if c=true then g e else some (.bl false)
def Ds(f g:FE):FE:=λe=>(fB f e).bind λc=>if c=true then some (.bl true)else g e
def xM(f:FE):FE:=λe=>(fB f e).map λc=>.bl (!c)
theorem Bg{op:BoolOp}(h:XN K X a t f):XN K X (.BoolOp op [a] pos) t f:=⟨h.hk,Th h.pe,h.ev⟩
theorem zT(h:XR K X a ta f)(h2:XN K X (.BoolOp .And (b::rest) pos) tb g):XN K X (.BoolOp .And (a::b::rest) pos) (Qn ta tb) (qW f g):=⟨h.hk,Ti h.pe h2.pe,λσ H e d Q re q k=>by
 unfold qW at q
 obtain⟨c,q1,q2⟩:=aQ q
 refine h.ev σ H H e _ _ (Zn.self K H) re (mW q1) λv H1 Z1 s1 t1 z1 rv=>?_
 unfold Rv at rv
 refine⟨c,rv,?_⟩
 cases c with
 | true=>rw[if_pos rfl]at q2 ⊢;exact h2.ev σ H1 e d Q (re.same s1) q2 λv H2 s2 n=>k v H2 (s1.trans s2) (n.back s1)
 | false=>rw[if_neg (by decide)]at q2 ⊢;cases q2;exact k _ H1 s1 (.dD rfl (by unfold Rv;rfl))⟩
theorem Zr(h:XR K X a ta f)(h2:XN K X (.BoolOp .Or (b::rest) pos) tb g):XN K X (.BoolOp .Or (a::b::rest) pos) (Yk ta tb) (Ds f g):=⟨h.hk,Yl h.pe h2.pe,λσ H e d Q re q k=>by
 unfold Ds at q
 obtain⟨c,q1,q2⟩:=aQ q
 refine h.ev σ H H e _ _ (Zn.self K H) re (mW q1) λv H1 Z1 s1 t1 z1 rv=>?_
 unfold Rv at rv
 refine⟨c,rv,?_⟩
 cases c with
 | false=>rw[if_neg (by decide)]at q2 ⊢;exact h2.ev σ H1 e d Q (re.same s1) q2 λv H2 s2 n=>k v H2 (s1.trans s2) (n.back s1)
 | true=>rw[if_pos rfl]at q2 ⊢;cases q2;exact k _ H1 s1 (.dD rfl (by unfold Rv;rfl))⟩
theorem Vi(h:XR K X a ta f):XN K X (.UnaryOp .Not a pos) (Qo ta) (xM f):=⟨h.hk,Tj h.pe,λσ H e d Q re q k=>by
 unfold xM at q
 obtain⟨c,q1,rfl⟩:=fP q
 refine h.ev σ H H e _ _ (Zn.self K H) re (mW q1) λv H1 Z1 s1 t1 z1 rv=>?_
 unfold Rv at rv
 exact⟨c,rv,k _ H1 s1 (.dD rfl (by unfold Rv;rfl))⟩⟩
def Vj(c:FT)(f g:FE):FE:=λe=>(c e).bind λb=>if b=true then f e else g e
theorem Zt(hc:XT K X c tc fc)(ha:XN K X a ta f)(hb:XN K X b tb g):XN K X (.IfExp c a b pos) (NT tc ta tb) (Vj fc f g):=⟨ha.hk,Fj hc.pt ha.pe hb.pe,λσ H e d Q re q k=>by
 unfold Vj at q
 obtain⟨c,q1,q2⟩:=aQ q
 refine hc.ev σ H e c _ re q1 λH1 s1=>?_
 cases c with
 | true=>rw[if_pos rfl]at q2 ⊢;exact ha.ev σ H1 e d Q (re.same s1) q2 λv H2 s2 n=>k v H2 (s1.trans s2) (n.back s1)
 | false=>rw[if_neg (by decide)]at q2 ⊢;exact hb.ev σ H1 e d Q (re.same s1) q2 λv H2 s2 n=>k v H2 (s1.trans s2) (n.back s1)⟩
theorem Vk(ha:XR K X a ta f):XN K X (.UnaryOp .USub a pos) (JB (rU λi=>.int (-i)) ta) (λe=>(f e).bind λd=>match d with | .int i=>some (.int (-i)) | _=>none):=⟨ha.hk,Yp Ua ha.pe,λσ H e d Q re q k=>by
 obtain⟨c,q1,q2⟩:=aQ q
 split at q2
 ·rename_i i
  cases q2
  refine ha.ev σ H H e _ _ (Zn.self K H) re q1 λv H1 Z1 s1 t1 z1 rv=>?_
  unfold Rv at rv
  exact⟨i,rv,k _ H1 s1 (.dD rfl (by unfold Rv;rfl))⟩
 ·cases q2⟩
def fL(φ:List D→Option D)(fs:FA):FE:=λe=>(fs e).bind φ
def mX(K:aA)(r:List V→Hp→VK→Prop)(φ:List D→Option D):Prop:=∀(vs:List V)(H:Hp)(ds:List D)(d:D)(Q:VK),bN K H ds vs→φ ds=some d →
 (∀v H',aD H H'→wN K H H' d v→Q v H')→r vs H Q
theorem Rm{r:List V→Hp→VK→Prop}{φ:List D→Option D}(o:mX K r φ)(h:Xv K tA fs):xH K (Lq r tA) (fL φ fs):=λσ H e d Q re q k=>by
 obtain⟨ds,q1,q2⟩:=aQ q
 exact h σ H H e ds _ (Zn.self K H) re q1 λvs H1 Z1 s1 t1 z1 rs=>o vs H1 ds d Q (z1.sm.Gs _ _ rs) q2 λv H2 s2 n=>k v H2 (s1.trans s2) (n.back s1)
theorem jN{r:List V→Hp→VK→Prop}{φ:List D→Option D}{x:Str}{id:String}{p:Pos}(o:mX K r φ)(hc:dB X (.builtin id) r)(hg:Gl X x)(hm:X.mg x=none)(hv:bootBuiltins x=some (.builtin id))(ha:XA K X (e::es) tA fs)(hn:x ≠ "__name__" := by decide) (hdb:(x==("__debug__" : Str))=false:=by decide)
  (he:starEach (e::es) X.env=(false,eval e X.env)::starEach es X.env:=by rfl) (hpl:(backTo pos (starEach es X.env)).any (·.1)=false:=by rfl):XN K X (.Call (.Name x p) (e::es) [] pos) (Lq r tA) (fL φ fs):=⟨ha.hk,jC hc hg hm hv ha.pa hn hdb he hpl,Rm o ha.ev⟩
theorem Rn{r:List V→Hp→VK→Prop}{φ:List D→Option D}{x:Str}{id:String}{p:Pos}(o:mX K r φ)(hc:dB X (.type id) r)(hg:Gl X x)(hm:X.mg x=none)(hv:bootBuiltins x=some (.type id))(ha:XA K X (e::es) tA fs)(hn:x ≠ "__name__" := by decide) (hdb:(x==("__debug__" : Str))=false:=by decide)
  (he:starEach (e::es) X.env=(false,eval e X.env)::starEach es X.env:=by rfl) (hpl:(backTo pos (starEach es X.env)).any (·.1)=false:=by rfl):XN K X (.Call (.Name x p) (e::es) [] pos) (Lq r tA) (fL φ fs):=⟨ha.hk,Di hc hg hm hv ha.pa hn hdb he hpl,Rm o ha.ev⟩
theorem lO{H:Hp}{d:D}{vs:List V}(h:bN K H [d] vs):∃v,vs=[v]∧Rv K H d v:=by
 unfold bN at h
 obtain⟨y,ys,rfl,h1,h2⟩:=h
 unfold bN at h2
 subst h2
 exact⟨y,rfl,h1⟩
theorem Vl{H:Hp}{d d':D}{vs:List V}(h:bN K H [d,d'] vs):∃v v',vs=[v,v']∧Rv K H d v∧Rv K H d' v':=by
 unfold bN at h
 obtain⟨y,ys,rfl,h1,h2⟩:=h
 obtain⟨v,rfl,h3⟩:=lO h2
 exact⟨y,v,rfl,h1,h3⟩
def xN:List D→Option D
 | [d]=>(vB d).map λds=>.int ds.length
 | _=>none
def Zu(K:aA):List V→Hp→VK→Prop:=λxs H Q=>∃p ys,xs=[.ref p]∧(mG K H p ys∨mH K H p ys)∧Q (.int ys.length) H
theorem qX:mX K (Zu K) xN:=λvs H ds d Q rs q k=>by
 unfold xN at q
 split at q
 ·rename_i d0
  obtain⟨es,q1,rfl⟩:=fP q
  obtain⟨v,rfl,r⟩:=lO rs
  obtain⟨p,xs,rfl,r2,r3⟩:=Mv q1 r
  refine⟨p,xs,rfl,r2,k _ H (aD.refl _) (.dD rfl ?_)⟩
  rw[r3.length];unfold Rv;rfl
 ·cases q
theorem qY(hk:X.K=K):dB X (.builtin "len") (Zu K):=by subst hk;exact uT
theorem qZ{H:Hp}:∀{ns:List Int} {xs:List V},bN K H (ns.map D.int) xs↔xs=ns.map V.int
 | [],xs=>by rw[J6,J6];unfold bN;rfl
 | n::ns,xs=>by
  rw[D8,D8]
  unfold bN
  constructor
  ·rintro⟨y,ys,rfl,h1,h2⟩
   unfold Rv at h1
   rw[h1,qZ.mp h2]
  ·rintro rfl
   exact⟨_,_,rfl,by unfold Rv;rfl,qZ.mpr rfl⟩
def lF:List D→Option (List Bool)
 | []=>some []
 | .bl i::ds=>(lF ds).map (i::·)
 | _=>none
theorem xO{H:Hp}:∀{ds:List D} {bs:List Bool} {xs:List V},lF ds=some bs→bN K H ds xs→xs=bs.map V.bl
 | [],bs,xs,h,r=>by unfold lF at h;cases h;unfold bN at r;exact r
 | d::ds,bs,xs,h,r=>by
  cases d with
  | bl i=>
   unfold lF at h
   obtain⟨cs,h1,rfl⟩:=fP h
   unfold bN at r
   obtain⟨y,ys,rfl,r1,r2⟩:=r
   unfold Rv at r1
   rw[r1,xO h1 r2]
   rfl
  | _=>unfold lF at h;cases h
theorem uB{α:Type}(p:α→Bool):∀l:List α,lF (l.map λx=>D.bl (p x))=some (l.map p)
 | []=>rfl
 | a::l=>by rw[D8];unfold lF;rw[uB p l];rfl
def Hh:List D→Option D
 | [.lst ds]=>(lF ds).map λbs=>.bl (bs.all id)
 | _=>none
def Zv(K:aA):List V→Hp→VK→Prop:=λxs H Q=>∃(p:Addr)(bs:List Bool),xs=[.ref p]∧mG K H p (bs.map V.bl)∧Q (.bl (bs.all id)) H
theorem My{H:Hp}{ds:List D}{bs:List Bool}{v:V}(h:lF ds=some bs)(r:Rv K H (.lst ds) v):∃p,v=.ref p∧mG K H p (bs.map V.bl):=by
 unfold Rv at r
 obtain⟨p,xs,r1,r2,r3⟩:=r
 rw[xO h r3]at r2
 exact⟨p,r1,r2⟩
theorem Vm:mX K (Zv K) Hh:=λvs H ds d Q rs q k=>by
 unfold Hh at q
 split at q
 ·obtain⟨bs,q1,rfl⟩:=fP q
  obtain⟨v,rfl,r⟩:=lO rs
  obtain⟨p,rfl,r2⟩:=My q1 r
  exact⟨p,bs,rfl,r2,k _ H (aD.refl _) (.dD rfl (by unfold Rv;rfl))⟩
 ·cases q
theorem Vn(hk:X.K=K)(hc:X.calm=true:=by rfl):dB X (.builtin "all") (Zv K):=by subst hk;exact Gn hc
def Bh:List D→Option D
 | [.int i,.int j]=>some (.int (if j<i then j else i))
 | _=>none
theorem Mz:mX K (λxs H Q=>∃i j,xs=[.int i,.int j]∧Q (.int (if j<i then j else i)) H) Bh:=λvs H ds d Q rs q k=>by
 unfold Bh at q
 split at q
 ·cases q
  obtain⟨v,w,rfl,r1,r2⟩:=Vl rs
  unfold Rv at r1 r2
  exact⟨_,_,by rw[r1,r2],k _ H (aD.refl _) (.dD rfl (by unfold Rv;rfl))⟩
 ·cases q
end
end L2


namespace L2
open PySem PySem.Spec PyProof.Rows
section
variable{K:aA}{X:Cx}{e a b c:Expr}{es rest:List Expr}{t ta tb:TE}{f g:FE}{tA:TA}{fs:FA}{pos:Pos}{tc:TT}{fc fd:FT}{td:TT}
abbrev FO:=DE→Option (Option Int)
def RT(K:aA)(t:TO)(f:FO):Prop:=∀(σ:St)(H:Hp)(e:DE)(o:Option Int)(Q:Option Int→Hp→Prop),lM K H e σ→f e=some o→(∀H',aD H H'→Q o H')→t σ H Q
structure XO(K:aA)(X:Cx)(e:Option Expr)(t:TO)(f:FO):Prop where
 po:PO X e t
 ev:RT K t f
def fU:FO:=λ_=>some none
def cD(f:FE):FO:=λe=>(f e).bind λd=>match d with | .int i=>some (some i) | _=>none
theorem fM:XO K X none Ax fU:=⟨Lr,λσ H e o Q re q k=>by cases q;exact k H (aD.refl _)⟩
theorem dF(h:XR K X e t f):XO K X (some e) (Ra t) (cD f):=⟨Ls h.pe,λσ H e o Q re q k=>by
 unfold cD at q
 obtain⟨d,q1,q2⟩:=aQ q
 split at q2
 ·rename_i i
  cases q2
  refine h.ev σ H H e _ _ (Zn.self K H) re q1 λv H1 Z1 s1 t1 z1 rv=>?_
  unfold Rv at rv
  exact⟨i,rv,k H1 s1⟩
 ·cases q2⟩
def dG{α:Type}(xs:List α)(lo hi:Option Int):List α:=(xs.drop (HT.uP xs.length 0 lo)).take (HT.uP xs.length xs.length hi-HT.uP xs.length 0 lo)
variable{lo hi:Option Expr}{tl th:TO}{fl fh:FO}{p2:Pos}
def Hi(K:aA):R2:=λx y H Q=>∃l b xs zs,x=.ref l∧y=.ref b∧mG K H l xs∧mG K H b zs∧xs.length+zs.length≤sizeLine∧∀p,H p=none→Q (.ref p) (upd H p (.lst (xs++zs)))
theorem vD(hk:X.K=K):iB X (binaryOp .Add) (Hi K):=by
 subst hk
 intro pins s σ H x y v u Q I rx ry h
 obtain⟨l,b,xs,zs,rfl,rfl,h1,h2,hz,q⟩:=h
 cases rx
 cases ry
 obtain⟨its,r,pl,_⟩:=I.list h1
 obtain⟨its2,r2,tV,_⟩:=I.list h2
 obtain⟨⟨cl,dd,da,sl⟩,ho,hc,n,hd⟩:=pl.isList
 obtain⟨⟨cl2,dd2,da2,sl2⟩,ho2,hc2,n2,hd2⟩:=tV.isList
 dsimp only at hc hd hc2 hd2
 subst hc hd hc2 hd2
 have hlen:its.toArray.size+its2.toArray.size≤sizeLine:=by rw[B5,B5,←r.length,←r2.length];exact hz
 have ea:its.toArray++its2.toArray=(its++its2).toArray:=by simp
 refine concat_meets ⟨_,ho,rfl⟩ ⟨_,ho2,rfl⟩ noFill_list_add seq_list_add PySem.F.slot_list_add PySem.F.entry_list_add (PySem.F.args_list_add_2 _ _)
  (list_addW l b its.toArray its2.toArray n n2 dd dd2 sl sl2 hlen) ⟨ho,ho2,?_⟩
 rw[ea]
 exact⟨.ref _,_,I.Yz (t':=s.toks) (r.append r2) (by rw[C2];exact hz),rfl,q _ I.fresh⟩
def cP(a b:D):Option D:=match a,b with
 | .int i,.int j=>some (.int (i+j))
 | .lst x,.lst y=>if D.lB (x++y)=true∧x.length+y.length≤100000 then some (.lst (x++y))else none
 | _,_=>none
theorem bN.append{H:Hp}:∀{ds es:List D} {xs ys:List V},bN K H ds xs→bN K H es ys→bN K H (ds++es) (xs++ys)
 | [],es,xs,ys,h,h'=>by unfold bN at h;subst h;exact h'
 | d::ds,es,xs,ys,h,h'=>by unfold bN at h;obtain⟨y,yt,rfl,h1,h2⟩:=h;rw[M3,M3];unfold bN;exact⟨y,_,rfl,h1,bN.append h2 h'⟩
theorem vG:yS K (λx y H Q=>Lg (λi j=>.int (i+j)) x y H Q∨Hi K x y H Q) cP:=λx y H a b d Q ra rb q k=>by
 unfold cP at q
 split at q
 ·cases q;unfold Rv at ra rb;exact .inl ⟨_,_,ra,rb,k _ H (aD.refl _) (.dD rfl (by unfold Rv;rfl))⟩
 ·split at q
  ·rename_i c
   cases q
   unfold Rv at ra rb
   obtain⟨p,xs,rfl,r2,r3⟩:=ra
   obtain⟨p',xs',rfl,r2',r3'⟩:=rb
   refine .inr ⟨p,p',xs,xs',rfl,rfl,r2,r2',iV (by rw[r3.length,r3'.length];exact c.2),λl hl=>?_⟩
   exact k _ _ (bR hl _) (uY (aD.refl _) (.lB c.1 (r3.append r3')) hl)
  ·cases q
 ·cases q
theorem cX(ha:XR K X a ta f)(hb:XR K X b tb g):XN K X (.BinOp a .Add b pos) (wL (λx y H Q=>Lg (λi j=>.int (i+j)) x y H Q∨Hi K x y H Q) ta tb) (f2 cP f g):=uA (yZ.or (vD ha.hk)) vG ha hb
def JN(K:aA)(wi:TI)(fi:FA):Prop:=∀{N:Fp}(σ:St)(H Z:Hp)(e:DE)(ds:List D)(R:It→Hp→Prop),Zn K N Z H→lM K Z e σ→fi e=some ds →
 (∀J H' Z' P vs,aD H H'→aD Z Z'→Zn K N Z' H'→Zg J P vs→(∀H2,aD Z' H2→P H2)→bN K Z' ds vs→R J H')→wi σ H R
structure XI(K:aA)(X:Cx)(tg iter:Expr)(wi:TI)(fi:FA):Prop where
 hk:X.K=K
 pi:PI X tg iter wi
 ev:JN K wi fi
def fD(lo:Int)(n:Nat):List D:=(G5 n).map λi:Nat=>D.int (lo+(i:Int))
theorem Dt{H:Hp}(lo:Int)(n:Nat):bN K H (fD lo n) ((G5 n).map λi:Nat=>V.int (lo+(i:Int))):=by
 unfold fD
 refine bN.of (by simp) λi d x h1 h2=>?_
 rw[C8]at h1 h2
 cases q:(G5 n)[i]? with
 | none=>rw[q]at h1;cases h1
 | some j=>rw[q]at h1 h2;cases h1;cases h2;unfold Rv;rfl
def lim(i:Int):Bool:=decide (-100000≤i∧i≤100000)
def uC(fs:FA):FA:=λe=>(fs e).bind λds=>match ds with
 | [.int n]=>if lim n=true then some (fD 0 n.toNat)else none
 | _=>none
theorem Vo{i:Int}(h:lim i=true):-100000≤i∧i≤100000:=of_decide_eq_true h
def lG(e:DE)(fr:List Nat):DE:=fr.map λi=>(e[i]?).getD none
theorem Nb{H:Hp}{e:DE}{σ:St}{fr:List Nat}{d:D}{x:V}(re:lM K H e σ)(r:Rv K H d x):lM K H (some d::lG e fr) (some x::zG σ fr):=λi d' h=>by
 cases i with
 | zero=>simp at h;subst h;exact⟨x,rfl,r⟩
 | succ i=>
  rw[List.getElem?_cons_succ]at h ⊢
  unfold lG at h
  unfold zG
  rw[C8]at h ⊢
  cases q:fr[i]? with
  | none=>rw[q]at h;cases h
  | some j=>
   rw[q]at h
   have h:(e[j]?).getD none=some d':=D6 h
   have h2:e[j]?=some (some d'):=by
    cases q2:e[j]? with
    | none=>rw[q2]at h;cases h
    | some o=>rw[q2]at h;rw[show o=some d' from h]
   obtain⟨v,h3,h4⟩:=re j d' h2
   refine⟨v,?_,h4⟩
   show some (σ.getD j none)=_
   rw[C5,h3]
   rfl
def mY(c:D→Option Bool)(el:D→Option D):List D→Option (List D)
 | []=>some []
 | x::xs=>(c x).bind λb=>if b=true then(el x).bind λy=>(mY c el xs).map (y::·)else mY c el xs
def mZ(fi:FA)(fr:List Nat)(fc:FT)(fe:FE):FE:=λe=>(fi e).bind λxs=>if xs.length≤100000 then(mY (λx=>fc (some x::lG e fr)) (λx=>fe (some x::lG e fr)) xs).map D.lst else none
theorem Vp{H:Hp}{p:Addr}{o:HO}(n:mQ H p):Dq K H (upd H p o):=λa xs h=>h.upd n
theorem Nf{wi:TI}{fi:FA}{fr:List Nat}{te:TE}{fe:FE}(hi:JN K wi fi)(hc:Bd K tc fc)(he:xH K te fe):xH K (Gj wi 1 fr (bO 0) tc te) (mZ fi fr fc fe):=by
 intro σ H e d Q re q k
 unfold mZ at q
 obtain⟨xs,q1,q⟩:=aQ q
 split at q
 ·rename_i hlen
  obtain⟨ds,q2,rfl⟩:=fP q
  refine hi σ H H e xs _ (Zn.self K H) re q1 λJ H1 Z1 P vs s1 t1 z1 hJ hP rvs=>?_
  intro D0 hD
  have hl:=rvs.length
  have RV:H D0=none:=s1.free hD
  generalize hcc:(λx=>fc (some x::lG e fr))=cc at q2
  generalize hel:(λx=>fe (some x::lG e fr))=el at q2
  refine⟨λi m ys H2=>∃Xx HF A,m=vs.length-i∧i≤vs.length∧ds=Xx++HF∧mY cc el (xs.drop i)=some HF∧aD H1 H2∧H2 D0=some (.lst ys)∧cT K H2 Xx A ys∧(∀a,A a→H1 a=none∧a≠D0)∧ys.length≤i,
   ⟨vs.length,[],ds,nil,by simp,L8 _,rfl,by simpa using q2,bR hD _,bB,by unfold cT;exact⟨λ_ z=>z,rfl⟩,λ_ z=>z.elim,C0 _⟩,?_⟩
  rintro i m ys H2 ⟨Xx,HF,A,rfl,hi',hds,hcl,s2,hD2,ow,fr2,hyl⟩
  obtain⟨j1,j2,j3⟩:=hJ i H2 (hP H2 (z1.sm.trans s2))
  refine⟨hD2,?_⟩
  by_cases hlt:i<vs.length
  ·refine .inr ⟨j1 hlt,λx H' y=>?_⟩
   obtain⟨e1,ex⟩:=j2 x H' y
   subst e1
   have hx:=ex hlt
   have hxi:i<xs.length:=by omega
   have hxs:xs.drop i=xs[i]::xs.drop (i+1):=K6 hxi
   obtain⟨x',hx',rx⟩:=rvs.get (B3 hxi)
   rw[hx]at hx'
   cases hx'
   rw[hxs]at hcl
   unfold mY at hcl
   obtain⟨bb,c1,c2⟩:=aQ hcl
   show Kp 1 σ fr (some x::zG σ fr)∧_
   refine⟨⟨by simp[blk],λj v hv=>?_⟩,?_⟩
   ·cases j with
    | zero=>simp[blk]at hv
    | succ j=>simpa[blk]using hv
   have PX:lM K H' (some xs[i]::lG e fr) (some x::zG σ fr):=Nb (re.same (s1.trans s2)) ((z1.sm.trans s2).rv _ _ rx)
   refine hc _ H' _ bb _ PX (by rw[←hcc]at c1;exact c1) λH3 s3=>?_
   have JP:=s3 _ _ hD2
   cases bb with
   | false=>
    rw[if_neg (by decide)]at c2 ⊢
    exact⟨vs.length-(i+1),by omega,Xx,HF,A,rfl,by omega,hds,c2,s2.trans s3,JP,ow.same s3,fr2,by omega⟩
   | true=>
    rw[if_pos rfl]at c2 ⊢
    obtain⟨dy,c3,c4⟩:=aQ c2
    obtain⟨RW,c5,rfl⟩:=fP c4
    refine he _ H3 _ dy _ (PX.same s3) (by rw[←hel]at c3;exact c3) λyv H4 s4 n4=>?_
    have QB:=s4 _ _ JP
    refine⟨QB,Zj (by omega),vs.length-(i+1),by omega,Xx++[dy],RW,?_⟩
    obtain⟨B,oB,fB⟩:=n4
    have hB:∀a,B a→H1 a=none∧a≠D0:=λa qa=>⟨(s2.trans s3).free (fB a qa),λz=>by have q0:=fB a qa;rw[z,JP]at q0;cases q0⟩
    refine⟨gK A B,rfl,by omega,by rw[hds];simp,c5,λb o eb=>?_,bB,?_,λa qa=>qa.elim (fr2 a) (hB a),by rw[C2];simp;exact hyl⟩
    ·rw[aZ (cI eb hD)]
     exact(s2.trans (s3.trans s4)) b o eb
    ·have o4:=(ow.same s3).same s4
     have ap:Apart A B:=λa qa qb=>by
      obtain⟨⟨u,eu⟩,_⟩:=cT.cells _ _ _ (ow.same s3) a qa
      rw[fB a qb]at eu;cases eu
     have all:cT K H4 (Xx++[dy]) (gK A B) (ys++[yv]):=pM.mpr ((pM.mp o4).snoc oB ap)
     exact cT.frame (Vp (tW QB)) _ _ _ all λa qa=>aZ (qa.elim (λz=>(fr2 a z).2) λz=>(hB a z).2)
  ·have ei:i=vs.length:=by omega
   subst ei
   have:xs.drop vs.length=[]:=List.drop_eq_nil_of_le (by omega)
   rw[this]at hcl
   unfold mY at hcl
   cases hcl
   rw[P2]at hds
   subst hds
   refine .inl ⟨j3 (C0 _),k _ H2 (s1.trans s2) ⟨gK (·=D0) A,?_,λa qa=>qa.elim (λz=>by cases z;exact RV) λz=>s1.free (fr2 a z).1⟩⟩
   unfold Ow
   exact⟨D0,ys,A,rfl,hD2,λz=>(fr2 D0 z).2 rfl,λ_=>Iff.rfl,ow⟩
 ·cases q
def xP:FT:=λ_=>some true
structure QC(K:aA)(X:Cx)(ifs:List Expr)(t:TT)(f:FT):Prop where
 RX:Ze X ifs t
 ev:Bd K t f
theorem Ng:QC K X [] Zf xP:=⟨Mh,λσ H e b Q re q k=>by cases q;exact k H (aD.refl _)⟩
theorem Nh{tg elt iter:Expr}{ifs:List Expr}{scope:Scope}{wi:TI}{fi:FA}{te:TE}{fe:FE}(N:List Str)(fr:List Nat)(hcalm:X.calm=true)(B:dC X.env.scope scope X.N N 1 fr)(hi:XI K X tg iter wi fi)
  (hg:∀cl fp s H C,PG (eY X scope N cl fp s H C) tg (bO 0)) (hc:∀cl fp s H C,QC K (eY X scope N cl fp s H C) ifs tc fc) (he:∀cl fp s H C,XN K (eY X scope N cl fp s H C) elt te fe)
  (hs:∀x,foldedSetIterable iter X.env x=pure x:=by intro _;rfl):XN K X (.ListComp elt [⟨tg,iter,ifs,0⟩] scope pos) (Gj wi 1 fr (bO 0) tc te) (mZ fi fr fc fe):=
 ⟨hi.hk,Ml N 1 fr hcalm B hi.pi hg (λcl fp s H C=>(hc cl fp s H C).RX) (λcl fp s H C=>(he cl fp s H C).pe) hs,
  Nf hi.ev (hc [] [] X.s₀ X.H₀ 0).ev (he [] [] X.s₀ X.H₀ 0).ev⟩
def pO(K:aA)(n:Nat)(F:List D→Option D):Sp:=λvs H Q _=>∃ds d,ds.length=n∧bN K H ds vs∧F ds=some d∧∀v H',aD H H'→wN K H H' d v→Q v H'
def cU(n:Nat)(F:List D→Option D)(fs:FA):FE:=λe=>(fs e).bind λds=>if ds.length=n then F ds else none
theorem dH{x:Str}{k n:Nat}{F:List D→Option D}{p:Pos}(C:pH X.prog X.w X.K X.mg X.base x k n (pO K n F))(hr:eN k X.A)(hg:Gl X x)(ha:XA K X (e::es) tA fs)(hdb:(x==("__debug__" : Str))=false:=by decide)
  (he:starEach (e::es) X.env=(false,eval e X.env)::starEach es X.env:=by rfl) (hpl:(backTo pos (starEach es X.env)).any (·.1)=false:=by rfl):XN K X (.Call (.Name x p) (e::es) [] pos) (tK (pO K n F) [] E0 tA) (cU n F fs):=
 ⟨ha.hk,Ut C hr hg ha.pa hdb he hpl,λσ H e d Q re q k=>by
  unfold cU at q
  obtain⟨ds,q1,q2⟩:=aQ q
  split at q2
  ·rename_i hl
   refine call_of (ha.ev σ H H e ds _ (Zn.self K H) re q1 λvs H1 Z1 s1 t1 z1 rs=>?_)
   exact⟨ds,d,hl,z1.sm.Gs _ _ rs,q2,λv H2 s2 n=>k v H2 (s1.trans s2) (n.back s1)⟩
  ·cases q2⟩
end
end L2


namespace L2
open PySem PySem.Spec PyProof.Rows
inductive SD where
  | no | fro (d:D) | own (d:D) | inn (v:V) (d:D)
def SD.z:SD→Option D
 | .fro d=>some d
 | .own d=>if d.dD=true then some d else none
 | .inn _ d=>if d.dD=true then some d else none
 | .no=>none
def SD.r:SD→Option D
 | .fro d=>some d
 | .own d=>some d
 | .inn _ d=>some d
 | .no=>none
abbrev EN:=List SD
def zE(env:EN):DE:=env.map SD.z
def rE(env:EN):DE:=env.map SD.r
def dO(K:aA)(H Z:Hp):SD→Fp→Option V→Prop
 | .no,A,_=>None A
 | .fro d,A,y=>None A∧∃v,y=some v∧Rv K Z d v
 | .own d,A,y=>∃v,y=some v∧Ow K H d A v
 | .inn v d,A,y=>y=some v∧Ow K H d A v
def Rel(K:aA)(B:Hp)(env:EN)(σ:St)(H:Hp):Prop:=∃A,dW (dO K H (out H A)) env A σ∧aD B (out H A)
section
variable{K:aA}{B B' H H' Z Z':Hp}{env:EN}{σ:St}{A:Fp}
theorem dW.all{α β:Type}{R:α→Fp→β→Prop}{Pr:Addr→Prop}:∀{ds:List α} {A:Fp} {ys:List β},dW R ds A ys→(∀d B y,R d B y→∀a,B a→Pr a)→∀a,A a→Pr a
 | [],A,ys,h,_,a,q=>absurd q (h.1 a)
 | d::ds,A,ys,⟨y,yt,A1,A2,h1,h2,h3,h4,h5⟩,m,a,q=>((h3 a).mp q).elim (m _ _ _ h4 a) (dW.all h5 m a)
theorem dO.cells{s:SD}{y:Option V}(h:dO K H Z s A y):∀a,A a→nT H a:=by
 cases s with
 | no=>exact λa q=>absurd q (h a)
 | fro d=>exact λa q=>absurd q (h.1 a)
 | own d=>obtain⟨v,_,o⟩:=h;exact Ow.cells d A v o
 | inn v d=>exact Ow.cells d A v h.2
theorem dX(h:dW (dO K H Z) env A σ):∀a,A a→nT H a:=dW.all h λ_ _ _ q=>q.cells
theorem Rel.mono(h:Rel K B' env σ H)(s:aD B B'):Rel K B env σ H:=let ⟨A,a,b⟩:=h;⟨A,a,s.trans b⟩
theorem cJ{A A':Fp}(s:aD H H')(h:∀a,A' a→A a∨H a=none):aD (out H A) (out H' A'):=λb o e=>by
 obtain⟨e1,e2⟩:=bT.mp e
 refine bT.mpr ⟨λq=>?_,s b o e2⟩
 rcases h b q with q | q
 ·exact e1 q
 ·rw[q]at e2;cases e2
theorem dO.same{s:SD}{y:Option V}(h:dO K H Z s A y)(e:aD H H')(z:aD Z Z'):dO K H' Z' s A y:=by
 cases s with
 | no=>exact h
 | fro d=>obtain⟨h1,v,h2,h3⟩:=h;exact⟨h1,v,h2,z.rv _ _ h3⟩
 | own d=>obtain⟨v,h1,h2⟩:=h;exact⟨v,h1,h2.same e⟩
 | inn v d=>exact⟨h.1,h.2.same e⟩
theorem Rel.same(h:Rel K B env σ H)(s:aD H H'):Rel K B env σ H':=by
 obtain⟨A,a,b⟩:=h
 have g:aD (out H A) (out H' A):=cJ s λa q=>.inl q
 exact⟨A,a.mono λe C z _ q=>q.same s g,b.trans g⟩
theorem vH(h:dW (dO K H (out H A)) env A σ):Zn K A (out H A) H:=⟨fQ H A,Gu λa q=>(dX h a q).2,λa q=>⟨by
 unfold out;rw[if_pos q],λz=>by obtain⟨⟨o,e⟩,_⟩:=dX h a q;rw[z]at e;cases e⟩⟩
theorem Rel.r(h:Rel K B env σ H):lM K H (rE env) σ:=λi d q=>by
 obtain⟨A,a,b⟩:=h
 unfold rE at q
 rw[C8]at q
 cases e:env[i]? with
 | none=>rw[e]at q;cases q
 | some s=>
  rw[e]at q
  obtain⟨y,A1,C,h1,h2,h3,h4,_⟩:=a.focus e
  cases s with
  | no=>cases q
  | fro d0=>cases q;obtain⟨_,v,rfl,h5⟩:=h4;exact⟨v,h1,(fQ H A).rv _ _ h5⟩
  | own d0=>cases q;obtain⟨v,rfl,h5⟩:=h4;exact⟨v,h1,Ow.rv _ _ _ h5⟩
  | inn v d0=>cases q;obtain⟨rfl,h5⟩:=h4;exact⟨v,h1,Ow.rv _ _ _ h5⟩
theorem Ro(a:dW (dO K H (out H A)) env A σ):lM K (out H A) (zE env) σ:=λi d q=>by
 unfold zE at q
 rw[C8]at q
 cases e:env[i]? with
 | none=>rw[e]at q;cases q
 | some s=>
  rw[e]at q
  obtain⟨y,A1,C,h1,h2,h3,h4,_⟩:=a.focus e
  cases s with
  | no=>cases q
  | fro d0=>cases q;obtain⟨_,v,rfl,h5⟩:=h4;exact⟨v,h1,h5⟩
  | own d0=>
   obtain⟨v,rfl,h5⟩:=h4
   have q:(if d0.dD=true then some d0 else none)=some d:=D6 q
   split at q
   ·rename_i im
    cases q
    exact⟨v,h1,(qQ _ v im (Ow.rv _ _ _ h5)).out (λ_ z=>z.elim) λx hx=>(dX a x hx).2⟩
   ·cases q
  | inn v d0=>
   obtain⟨rfl,h5⟩:=h4
   have q:(if d0.dD=true then some d0 else none)=some d:=D6 q
   split at q
   ·rename_i im
    cases q
    exact⟨v,h1,(qQ _ v im (Ow.rv _ _ _ h5)).out (λ_ z=>z.elim) λx hx=>(dX a x hx).2⟩
   ·cases q
theorem Rel.own{i:Nat}{d:D}{v:V}(h:Rel K B env σ H)(hi:i<env.length)(s:aD H H')(n:wN K H H' d v):Rel K B (env.set i (.own d)) (σ.set i (some v)) H':=by
 obtain⟨A,a,b⟩:=h
 obtain⟨N,o,f⟩:=n
 have cl:=dX a
 obtain⟨y,A1,C,h1,h2,h3,h4,k⟩:=a.focus (B3 hi)
 have g:aD (out H A) (out H' (gK N C)):=cJ s λx q=>q.elim (λq=>.inr (f x q)) λq=>.inl ((h3 x).mpr (.inr q))
 refine⟨gK N C,k (dO K H' (out H' (gK N C))) (λe D z _ q=>q.same s g) (.own d) (some v) N (λx q c=>?_) ⟨v,rfl,o⟩,b.trans g⟩
 obtain⟨⟨u,e⟩,_⟩:=cl x ((h3 x).mpr (.inr c))
 rw[f x q]at e;cases e
theorem vI{i:Nat}{d:D}{v:V}(a:dW (dO K H (out H A)) env A σ)(b:aD B (out H A))(hi:i<env.length)(s:aD H H')(t:aD (out H A) Z')(z:Zn K A Z' H')(r:Rv K Z' d v):Rel K B (env.set i (.fro d)) (σ.set i (some v)) H':=by
 obtain⟨y,A1,C,h1,h2,h3,h4,k⟩:=a.focus (B3 hi)
 have hC:∀x,gK nil C x→A x:=λx q=>q.elim False.elim λq=>(h3 x).mpr (.inr q)
 have g:aD (out H A) (out H' (gK nil C)):=cJ s λx q=>.inl (hC x q)
 have g2:aD Z' (out H' (gK nil C)):=λx o e=>bT.mpr ⟨λq=>(by rw[(z.no x (hC x q)).1]at e;cases e),z.sm x o e⟩
 exact⟨gK nil C,k (dO K H' (out H' (gK nil C))) (λe D z _ q=>q.same s g) (.fro d) (some v) nil (λx q c=>q) ⟨λ_ z=>z,v,rfl,g2.rv _ _ r⟩,b.trans g⟩
def Hj(env:EN)(j:Nat):EN:=match env[j]? with
 | some (.own d)=>env.set j (.fro d)
 | _=>env
def nR(js:List Nat)(env:EN):EN:=js.foldl Hj env
theorem set_same{α:Type}{l:List α}{i:Nat}{x:α}(h:l[i]?=some x):l.set i x=l:=by
 apply List.ext_getElem?
 intro j
 rw[N7]
 by_cases c:i=j
 ·subst c
  rw[if_pos rfl,h]
  split
  ·rfl
  ·rename_i q;rw[List.getElem?_eq_none (by omega)]at h;cases h
 ·rw[if_neg c]
theorem Rel.Hj{j:Nat}(h:Rel K B env σ H):Rel K B (Hj env j) σ H:=by
 unfold L2.Hj
 cases e:env[j]? with
 | none=>exact h
 | some s=>
  cases s with
  | no=>exact h
  | fro d=>exact h
  | inn v d=>exact h
  | own d=>
   obtain⟨A,a,b⟩:=h
   have cl:=dX a
   obtain⟨y,A1,C,h1,h2,h3,h4,k⟩:=a.focus e
   obtain⟨v,rfl,o⟩:=h4
   have g:aD (out H A) (out H (gK nil C)):=cJ (aD.refl _) λx q=>q.elim False.elim λq=>.inl ((h3 x).mpr (.inr q))
   have:=k (dO K H (out H (gK nil C))) (λe D z _ q=>q.same (aD.refl _) g) (.fro d) (some v) nil (λx q c=>q)
    ⟨λ_ z=>z,v,rfl,o.out (λx q c=>h2 x q (c.elim False.elim id)) λx q=>(cl x ((h3 x).mpr (.inr (q.elim False.elim id)))).2⟩
   rw[set_same h1]at this
   exact⟨gK nil C,this,b.trans g⟩
theorem Rel.nR{js:List Nat}(h:Rel K B env σ H):Rel K B (nR js env) σ H:=by
 unfold L2.nR
 induction js generalizing env with
 | nil=>exact h
 | cons j js ih=>exact ih h.Hj
end
inductive SR where
  | next (env:EN) | ret (d:D) | brk (env:EN) | cont (env:EN) | bad | rete (d:D) (env:EN)
def sW(K:aA)(B:Hp)(E:Ends):SR→Prop
 | .next env=>∀σ H,Rel K B env σ H→E.nx σ H
 | .ret d=>∀v H A,aD B (out H A)→Ow K H d A v→E.rt v H
 | .brk env=>∀σ H,Rel K B env σ H→E.bk σ H
 | .cont env=>∀σ H,Rel K B env σ H→E.ct σ H
 | .bad=>False
 | .rete d env=>∀v σ H,Rel K B (env++[.own d]) (σ++[some v]) H→E.rt v H
theorem sW.mono{K:aA}{B B':Hp}{E:Ends}{r:SR}(h:sW K B E r)(s:aD B B'):sW K B' E r:=by
 cases r with
 | next env=>exact λσ H q=>h σ H (q.mono s)
 | ret d=>exact λv H A q=>h v H A (s.trans q)
 | brk env=>exact λσ H q=>h σ H (q.mono s)
 | cont env=>exact λσ H q=>h σ H (q.mono s)
 | bad=>exact h
 | rete d env=>exact λv σ H q=>h v σ H (q.mono s)
abbrev GS:=EN→SR
def DS(K:aA)(t:TS)(g:GS):Prop:=∀(B:Hp)(E:Ends)(σ:St)(H:Hp)(env:EN),Rel K B env σ H→sW K B E (g env)→t E σ H
def Zw(K:aA)(B:Hp)(E:Ends)(σ:St):SR→Prop
 | .next env=>∀H,Rel K B env σ H→E.nx σ H
 | r=>sW K B E r
def VM(K:aA)(t:TS)(g:GS):Prop:=∀(B:Hp)(E:Ends)(σ:St)(H:Hp)(env:EN),Rel K B env σ H→Zw K B E σ (g env)→t E σ H
structure YS(K:aA)(X:Cx)(st:Stmt)(t:TS)(g:GS):Prop where
 ps:PS X st t
 ev:DS K t g
structure YB(K:aA)(X:Cx)(st:List Stmt)(t:TS)(g:GS):Prop where
 ps:wU X st t
 ev:DS K t g
section
variable{K:aA}{X:Cx}{st:Stmt}{sts:List Stmt}{t u:TS}{g g1 g2:GS}{e a b c:Expr}{te ta tb:TE}{f fa fb:FE}{tc:TT}{fc:FT}{pos:Pos}
def aN(g1 g2:GS):GS:=λenv=>match g1 env with
 | .next env'=>g2 env'
 | r=>r
theorem Vq(h1:DS K t g1)(h2:DS K u g2):DS K (Fq t u) (aN g1 g2):=λB E σ H env r p=>by
 unfold aN at p
 refine h1 B {E with nx:=u E} σ H env r ?_
 cases q:g1 env with
 | next env'=>rw[q]at p;exact λσ' H' r'=>h2 B E σ' H' env' r' p
 | ret d=>rw[q]at p;exact p
 | brk d=>rw[q]at p;exact p
 | cont d=>rw[q]at p;exact p
 | bad=>rw[q]at p;exact p
 | rete d e=>rw[q]at p;exact p
def bK:GS:=λenv=>.next env
theorem cF:YB K X [] Qp bK:=⟨Ld,λB E σ H env r p=>p σ H r⟩
theorem aW(h:YS K X st t g):YB K X [st] t g:=⟨Aq h.ps,h.ev⟩
theorem aM(h:YS K X st t g1)(h2:YB K X sts u g2):YB K X (st::sts) (Fq t u) (aN g1 g2):=⟨qG h.ps h2.ps,Vq h.ev h2.ev⟩
def bD(i:Nat)(f:FE):GS:=λenv=>match f (rE env)with
 | some d=>if i<env.length then .next (env.set i (.own d))else .bad
 | none=>.bad
theorem Vr{i:Nat}(h:xH K te f):DS K (iC te (bO i)) (bD i f):=λB E σ H env r p=>by
 unfold bD at p
 split at p
 ·rename_i d q
  split at p
  ·rename_i hi
   exact h σ H (rE env) d _ r.r q λv H' s n=>p _ _ (r.own hi s n)
  ·exact p.elim
 ·exact p.elim
def oY(i:Nat)(f:FE):GS:=λenv=>match f (zE env)with
 | some d=>if i<env.length then .next (env.set i (.fro d))else .bad
 | none=>.bad
theorem Ni{i:Nat}(h:yR K te f):DS K (iC te (bO i)) (oY i f):=λB E σ H env r p=>by
 unfold oY at p
 split at p
 ·rename_i d q
  split at p
  ·rename_i hi
   obtain⟨A,a,b⟩:=r
   exact h σ H (out H A) (zE env) d _ (vH a) (Ro a) q λv H' Z' s t z rv=>p _ _ (vI a b hi s t z rv)
  ·exact p.elim
 ·exact p.elim
theorem bG{i:Nat}{x:Str}{pos':Pos}(h:XN K X e te f)(hp:PE X e te→PS X (.Assign [.Name x pos'] e pos) (iC te (bO i))):YS K X (.Assign [.Name x pos'] e pos) (iC te (bO i)) (bD i f):=⟨hp h.pe,Vr h.ev⟩
theorem Nj{i:Nat}{x:Str}{pos':Pos}(h:XR K X e te f)(hp:PE X e te→PS X (.Assign [.Name x pos'] e pos) (iC te (bO i))):YS K X (.Assign [.Name x pos'] e pos) (iC te (bO i)) (oY i f):=⟨hp h.pe,Ni h.ev⟩
def cN(f:FE):GS:=λenv=>match f (rE env)with
 | some d=>.ret d
 | none=>.bad
theorem bU(h:XN K X e te f):YS K X (.Return (some e) pos) (Ft te) (cN f):=⟨yW h.pe,λB E σ H env r p=>by
 unfold cN at p
 split at p
 ·rename_i d q
  refine h.ev σ H (rE env) d _ r.r q λv H' s ⟨N,o,fr⟩=>p v H' N (λx u ex=>?_) o
  obtain⟨A,a,b⟩:=r
  have h1:=(bT.mp (b x u ex)).2
  exact bT.mpr ⟨λz=>(by rw[fr x z]at h1;cases h1),s x u h1⟩
 ·exact p.elim⟩
def iW(i:Nat):GS:=λenv=>match env[i]? with
 | some (.own d)=>.ret d
 | some (.fro d)=>if d.dD=true then .ret d else .bad
 | _=>.bad
theorem vJ{i:Nat}(h:PE X e (mD i)):YS K X (.Return (some e) pos) (Ft (mD i)) (iW i):=⟨yW h,λB E σ H env r p=>by
 unfold iW at p
 obtain⟨A,a,b⟩:=r
 split at p
 ·rename_i d q
  obtain⟨y,A1,C,h1,h2,h3,h4,_⟩:=a.focus q
  obtain⟨v,rfl,o⟩:=h4
  exact⟨v,h1,p v H A1 (b.trans (cJ (aD.refl _) λx z=>.inl ((h3 x).mpr (.inl z)))) o⟩
 ·rename_i d q
  split at p
  ·rename_i im
   obtain⟨y,A1,C,h1,h2,h3,h4,_⟩:=a.focus q
   obtain⟨_,v,rfl,rv⟩:=h4
   exact⟨v,h1,p v H nil (b.trans (cJ (aD.refl _) λx z=>z.elim)) (qQ d v im ((fQ H A).rv _ _ rv))⟩
  ·exact p.elim
 ·exact p.elim⟩
def iK(f:FT)(g1 g2:GS):GS:=λenv=>match f (rE env)with
 | some true=>g1 env
 | some false=>g2 env
 | none=>.bad
theorem dR{s1 s2:List Stmt}(hc:XT K X c tc fc)(h1:YB K X s1 t g1)(h2:YB K X s2 u g2):YS K X (.If c s1 s2 pos) (Tp tc t u) (iK fc g1 g2):=⟨Qq hc.pt h1.ps h2.ps,λB E σ H env r p=>by
 unfold iK at p
 split at p
 ·rename_i q
  refine hc.ev σ H (rE env) true _ r.r q λH' s=>?_
  rw[if_pos rfl]
  exact h1.ev B E σ H' env (r.same s) p
 ·rename_i q
  refine hc.ev σ H (rE env) false _ r.r q λH' s=>?_
  rw[if_neg (by decide)]
  exact h2.ev B E σ H' env (r.same s) p
 ·exact p.elim⟩
def lC(i:Nat)(g:GS):List D→EN→SR
 | [],env=>.next env
 | x::xs,env=>if i<env.length then match g (env.set i (.fro x))with
   | .next env'=>lC i g xs env'
   | .cont env'=>lC i g xs env'
   | .brk env'=>.next env'
   | r=>r
  else .bad
def xQ(js:List Nat)(i:Nat)(fi:FA)(g:GS):GS:=λenv=>match fi (zE (nR js env))with
 | some xs=>lC i g xs (nR js env)
 | none=>.bad
theorem Vs{js:List Nat}{i:Nat}{wi:TI}{fi:FA}{tb:TS}(hi:JN K wi fi)(h:DS K tb g):DS K (Fx wi (bO i) tb) (xQ js i fi g):=λB E σ H env r p=>by
 unfold xQ at p
 have r':Rel K B (nR js env) σ H:=r.nR
 generalize nR js env=pI at r' p
 split at p
 ·rename_i xs q
  obtain⟨A,a,b⟩:=r'
  refine hi σ H (out H A) (zE pI) xs _ (vH a) (Ro a) q λJ H1 Z1 P vs s t z hJ hP rvs=>?_
  have hl:=rvs.length
  have g0:aD Z1 (out H1 A):=λx o e=>bT.mpr ⟨λqa=>(by rw[(z.no x qa).1]at e;cases e),z.sm x o e⟩
  have JQ:Rel K Z1 pI σ H1:=⟨A,a.mono λe D y _ qq=>qq.same s (cJ s λx q=>.inl q),g0⟩
  have bz:aD B Z1:=b.trans t
  have p':=p.mono bz
  refine Az hJ (λk σ2 H2=>∃lD,Rel K Z1 lD σ2 H2∧sW K Z1 E (lC i g (xs.drop k) lD)) ⟨pI,JQ,by simpa using p'⟩ (λk σ2 H2 _ ⟨lD,⟨A2,a2,b2⟩,_⟩=>hP H2 (b2.trans (fQ H2 A2))) ?_ ?_
  ·rintro k x σ2 H2 hx ⟨lD,r2,p2⟩
   have hk:k<xs.length:=by
    have:=B6.mp hx
    obtain⟨h1,_⟩:=this
    omega
   rw[K6 hk]at p2
   unfold lC at p2
   obtain⟨x',hx',rx⟩:=rvs.get (B3 hk)
   rw[hx]at hx'
   cases hx'
   split at p2
   ·rename_i hlen
    obtain⟨A2,a2,b2⟩:=r2
    have r3:Rel K Z1 (lD.set i (.fro xs[k])) (σ2.set i (some x)) H2:=vI a2 b2 hlen (aD.refl _) (aD.refl _) (vH a2) (b2.rv _ _ rx)
    refine h Z1 _ _ H2 _ r3 ?_
    split at p2
    ·rename_i env' q2;rw[q2];exact λσ' H' r'=>⟨env',r',p2⟩
    ·rename_i env' q2;rw[q2];exact λσ' H' r'=>⟨env',r',p2⟩
    ·rename_i env' q2;rw[q2];exact p2
    ·rename_i n1 n2 n3
     cases q2:g (lD.set i (.fro xs[k]))with
     | next e=>exact absurd q2 (n1 e)
     | cont e=>exact absurd q2 (n2 e)
     | brk e=>exact absurd q2 (n3 e)
     | ret d=>rw[q2]at p2;exact p2
     | bad=>rw[q2]at p2;exact p2
     | rete d e=>rw[q2]at p2;exact p2
   ·exact p2.elim
  ·rintro σ2 H2 ⟨lD,r2,p2⟩
   rw[hl,S2]at p2
   exact p2 σ2 H2 r2
 ·exact p.elim
theorem Vt{tg iter:Expr}{body:List Stmt}{wi:TI}{fi:FA}{tb:TS}{i:Nat}(js:List Nat)(hp:PassesOwn (model X.prog X.w) X.A X.env X.xe)(Nk:X.calm=true)(hi:XI K X tg iter wi fi)(hg:PG X tg (bO i))(hb:YB K X body tb g)
  (hs:∀x,foldedSetIterable iter X.env x=pure x:=by intro _;rfl):YS K X (.For tg iter body [] pos) (Fx wi (bO i) tb) (xQ js i fi g):=⟨Fy hp Nk hi.pi hg hb.ps hs,Vs hi.ev hb.ev⟩
end
end L2


namespace L2
open PySem PySem.Spec PyProof.Rows
inductive Step where
  | ix (k:Nat) | key (k:Key) | fld (C:Addr) (f:Str)
def kids:D→List D
 | .lst ds=>ds
 | .dk _ ds=>ds
 | .ins _ _ ds=>ds
 | _=>[]
def Hl:D→List D→D
 | .lst _,ds=>.lst ds
 | .dk ks _,ds=>.dk ks ds
 | .ins C nm _,ds=>.ins C nm ds
 | d,_=>d
def Zx:Step→D→Option Nat
 | .ix k,.lst ds=>some k
 | .key k,.dk ks _=>posK ks k
 | .fld C f,.ins C' nm _=>if C'=C then posK nm f else none
 | _,_=>none
def JR:List Step→D→Option D
 | [],d=>some d
 | s::p,d=>(Zx s d).bind λj=>((kids d)[j]?).bind (JR p)
def JS:List Step→D→D→D
 | [],_,d'=>d'
 | s::p,d,d'=>match Zx s d with
  | some j=>(match (kids d)[j]? with
   | some c=>Hl d ((kids d).set j (JS p c d'))
   | none=>d)
  | none=>d
def stepV(H:Hp)(s:Step)(v:V):Option V:=match v with
 | .ref a=>(match s,H a with
  | .ix k,some (.lst xs)=>xs[k]?
  | .key k,some (.dK kvs)=>Ul kvs k
  | .fld C f,some (.ins C' _ fs)=>if C'=C then fs.lookup f else none
  | _,_=>none)
 | _=>none
def QD(H:Hp):List Step→V→Option V
 | [],v=>some v
 | s::p,v=>(stepV H s v).bind (QD H p)
section
variable{K:aA}{B H:Hp}{env:EN}{σ:St}
end
end L2


namespace L2
open PySem PySem.Spec PyProof.Rows
abbrev FP:=DE→Option (List Step)
def RZ(K:aA)(t:TE)(i:Nat)(π:FP):Prop:=∀(σ:St)(H:Hp)(e:DE)(v0:V)(p:List Step)(v:V)(Q:VK),lM K H e σ→σ[i]?=some (some v0)→π e=some p→QD H p v0=some v→(∀H',aD H H'→Q v H')→t σ H Q
structure XP(K:aA)(X:Cx)(e:Expr)(t:TE)(i:Nat)(π:FP):Prop where
 hk:X.K=K
 pe:PE X e t
 ev:RZ K t i π
section
variable{K:aA}{X:Cx}{e a b c:Expr}{es:List Expr}{t ta tb te:TE}{f g:FE}{tA:TA}{fs:FA}{pos:Pos}{i j:Nat}{π:FP}{st:Stmt}
end
end L2


namespace L2
open PySem PySem.Spec PyProof.Rows
def zU(K:aA)(B:Hp)(R:Fp)(env:EN)(σ:St)(H:Hp):Prop:=∃A,dW (dO K H (out H (gK A R))) env A σ∧Apart A R∧aD B (out H (gK A R))
section
variable{K:aA}{B H H':Hp}{env:EN}{σ:St}{R R' A1:Fp}
theorem Rel.x(h:Rel K B env σ H)(s:aD H H')(f:∀a,R a→H a=none):zU K B R env σ H':=by
 obtain⟨A,a,b⟩:=h
 have cl:=dX a
 have g:aD (out H A) (out H' (gK A R)):=cJ s λx q=>q.imp id (f x)
 refine⟨A,a.mono λe C z _ q=>q.same s g,λx q1 q2=>?_,b.trans g⟩
 obtain⟨⟨u,eu⟩,_⟩:=cl x q1
 rw[f x q2]at eu;cases eu
theorem zU.own{i:Nat}{d:D}{v:V}(h:zU K B R env σ H)(e:Is R (gK A1 R'))(ap:Apart A1 R')(o:Ow K H d A1 v)(hi:i<env.length):zU K B R' (env.set i (.own d)) (σ.set i (some v)) H:=by
 obtain⟨A,a,aR,b⟩:=h
 obtain⟨y,A0,C,h1,h2,h3,h4,k⟩:=a.focus (B3 hi)
 have g:aD (out H (gK A R)) (out H (gK (gK A1 C) R')):=cJ (aD.refl _) λx q=>by
  rcases q with (q | q) | q
  ·exact .inl (.inr ((e x).mpr (.inl q)))
  ·exact .inl (.inl ((h3 x).mpr (.inr q)))
  ·exact .inl (.inr ((e x).mpr (.inr q)))
 refine⟨gK A1 C,k _ (λs D z _ q=>q.same (aD.refl _) g) (.own d) (some v) A1 (λx q1 q2=>aR x ((h3 x).mpr (.inr q2)) ((e x).mpr (.inl q1))) ⟨v,rfl,o⟩,λx q1 q2=>?_,b.trans g⟩
 rcases q1 with q1 | q1
 ·exact ap x q1 q2
 ·exact aR x ((h3 x).mpr (.inr q1)) ((e x).mpr (.inr q2))
theorem zU.done(h:zU K B R env σ H)(e:None R):Rel K B env σ H:=by
 obtain⟨A,a,aR,b⟩:=h
 have g:aD (out H (gK A R)) (out H A):=cJ (aD.refl _) λx q=>.inl (.inl q)
 exact⟨A,a.mono λs D z _ q=>q.same (aD.refl _) g,b.trans g⟩
end
def lQ:List Nat→Qt
 | []=>Ym
 | i::is=>Qu (bO i) (lQ is)
def iM:EN→List Nat→List D→EN
 | env,i::is,d::ds=>iM (env.set i (.own d)) is ds
 | env,_,_=>env
theorem xR{K:aA}{B H:Hp}{Q:St→Hp→Prop}:∀{is:List Nat} {ds:List D} {xs:List V} {R:Fp} {env:EN} {σ:St},zU K B R env σ H→cT K H ds R xs→is.length=ds.length→(∀i∈is,i<env.length) →
  (∀σ',Rel K B (iM env is ds) σ' H→Q σ' H)→lQ is xs σ H Q
 | [],ds,xs,R,env,σ,r,o,hl,hi,k=>by
  cases ds with
  | cons d ds=>simp at hl
  | nil=>
   unfold cT at o
   unfold lQ
   exact⟨o.2,k σ (by unfold iM;exact r.done o.1)⟩
 | i::is,ds,xs,R,env,σ,r,o,hl,hi,k=>by
  cases ds with
  | nil=>simp at hl
  | cons d ds=>
   unfold cT at o
   obtain⟨y,yt,A1,A2,rfl,h2,h3,h4,h5⟩:=o
   unfold lQ
   refine⟨y,yt,rfl,?_⟩
   have hi0:=hi i C4
   exact xR (r.own h3 h2 h4 hi0) h5 (by simpa using hl) (λj hj=>by rw[List.length_set];exact hi j (B9 _ hj)) λσ' r'=>k σ' (by unfold iM;exact r')
def iQ(is:List Nat)(f:FE):GS:=λenv=>match f (rE env)with
 | some (.tup ds)=>if is.length=ds.length∧is.all (λi=>decide (i<env.length))=true then .next (iM env is ds)else .bad
 | _=>.bad
section
variable{K:aA}{X:Cx}{e a b c:Expr}{es:List Expr}{t ta tb te:TE}{f g:FE}{tA:TA}{fs:FA}{pos:Pos}{i j:Nat}{π:FP}{st:Stmt}
theorem Du{is:List Nat}{n:Nat}(h:xH K te f)(hn:n=is.length):DS K (iC te (Lf K n (lQ is))) (iQ is f):=λB E σ H env r p=>by
 unfold iQ at p
 split at p
 ·rename_i ds q
  split at p
  ·rename_i hc
   refine h σ H (rE env) _ _ r.r q λv H' s ⟨N,o,fr⟩=>?_
   unfold Ow at o
   obtain⟨ad,xs,rfl,o1,o2⟩:=o
   refine⟨ad,xs,rfl,o1,by rw[(cT.rv _ _ _ o2).length,hn,hc.1],?_⟩
   exact xR (r.x s fr) o2 hc.1 (λi hi=>of_decide_eq_true (I0.mp hc.2 i hi)) λσ' r'=>p σ' H' r'
  ·exact p.elim
 ·exact p.elim
theorem Dv{is:List Nat}{n:Nat}{tg:Expr}(h:XN K X e te f)(hp:PE X e te→PS X (.Assign [tg] e pos) (iC te (Lf K n (lQ is))))(hn:n=is.length:=by rfl):YS K X (.Assign [tg] e pos) (iC te (Lf K n (lQ is))) (iQ is f):=⟨hp h.pe,Du h.ev hn⟩
def fV:EN→List Nat→Option (List D)
 | _,[]=>some []
 | env,i::is=>(match env[i]? with
  | some (.own d)=>(fV env is).map (d::·)
  | _=>none)
theorem rA:∀{is:List Nat} {env:EN} {i:Nat} {s:SD},i∉is→fV (env.set i s) is=fV env is
 | [],env,i,s,h=>by unfold fV;rfl
 | j::is,env,i,s,h=>by
  have hj:i≠j:=λz=>h (z▸C4)
  unfold fV
  rw[N7,if_neg hj,rA λz=>h (B9 _ z)]
theorem xT{H Z:Hp}:∀{is:List Nat} {ds:List D} {env:EN} {A:Fp} {σ:St},is.Nodup→fV env is=some ds→dW (dO K H Z) env A σ→∃xs A',(∀x,A' x→A x)∧cT K H ds A' xs∧xs.length=is.length∧∀(k i:Nat),is[k]?=some i→∃x,xs[k]?=some x∧σ[i]?=some (some x)
 | [],ds,env,A,σ,nd,q,h=>by
  unfold fV at q
  cases q
  exact⟨[],nil,λ_ z=>z.elim,by unfold cT;exact⟨λ_ z=>z,rfl⟩,rfl,λk i e=>by simp at e⟩
 | i::is,ds,env,A,σ,nd,q,h=>by
  unfold fV at q
  split at q
  ·rename_i d q1
   obtain⟨ds',q2,rfl⟩:=fP q
   obtain⟨n1,n2⟩:=K5.mp nd
   obtain⟨y,A1,C,h1,h2,h3,h4,k⟩:=h.focus q1
   obtain⟨v,rfl,o⟩:=h4
   have h':=k (dO K H Z) (λ_ _ _ _ qq=>qq) .no none nil (λ_ z=>z.elim) (λ_ z=>z)
   obtain⟨xs,A',a1,a2,a3,a4⟩:=xT (env:=env.set i .no) n2 (by rw[rA n1];exact q2) h'
   have hC:∀x,A' x→C x:=λx z=>(a1 x z).elim False.elim id
   refine⟨v::xs,gK A1 A',λx z=>(h3 x).mpr (z.imp id (hC x)),?_,by simp[a3],λk j e=>?_⟩
   ·unfold cT
    exact⟨v,xs,A1,A',rfl,λx z1 z2=>h2 x z1 (hC x z2),λ_=>Iff.rfl,o,a2⟩
   ·cases k with
    | zero=>simp at e;subst e;exact⟨v,rfl,h1⟩
    | succ k=>
     have e:is[k]?=some j:=by simpa using e
     obtain⟨x,b1,b2⟩:=a4 k j e
     refine⟨x,by simpa using b1,?_⟩
     have hj:i≠j:=λz=>n1 (z▸K2 e)
     rw[N7,if_neg hj]at b2
     exact b2
  ·cases q
def xU:List Nat→TA
 | []=>kZ
 | i::is=>cZ (mD i) (xU is)
theorem Bj{H:Hp}{σ:St}{Q:List V→Hp→Prop}:∀{is:List Nat} {xs:List V},xs.length=is.length→(∀(k i:Nat),is[k]?=some i→∃x,xs[k]?=some x∧σ[i]?=some (some x))→Q xs H→xU is σ H Q
 | [],xs,hl,_,q=>by
  cases xs with
  | nil=>exact q
  | cons x xs=>simp at hl
 | i::is,xs,hl,h,q=>by
  cases xs with
  | nil=>simp at hl
  | cons x xs=>
   obtain⟨x',b1,b2⟩:=h 0 i rfl
   cases b1
   exact⟨x,b2,Bj (by simpa using hl) (λk j e=>by
    obtain⟨y,c1,c2⟩:=h (k+1) j (by simpa using e)
    exact⟨y,by simpa using c1,c2⟩) q⟩
def rB(is:List Nat):GS:=λenv=>match fV env is with
 | some ds=>if decide is.Nodup=true∧is.length≤100 then .ret (.tup ds)else .bad
 | none=>.bad
theorem Nm{is:List Nat}:DS K (Ft (wY (xU is))) (rB is):=λB E σ H env r p=>by
 unfold rB at p
 split at p
 ·rename_i ds q
  split at p
  ·rename_i hc
   obtain⟨A,a,b⟩:=r
   obtain⟨xs,A',a1,a2,a3,a4⟩:=xT (of_decide_eq_true hc.1) q a
   refine Bj a3 a4 ⟨iV (by omega),λl hl=>?_⟩
   refine p _ _ A' (λx u ex=>?_) ?_
   ·obtain⟨e1,e2⟩:=bT.mp (b x u ex)
    refine bT.mpr ⟨λz=>e1 (a1 x z),?_⟩
    rw[aZ (cI e2 hl)]
    exact e2
   ·unfold Ow
    exact⟨l,xs,rfl,mH.of bB,a2.same (bR hl _)⟩
  ·exact p.elim
 ·exact p.elim
theorem Np{is:List Nat}(h:PE X e (wY (xU is))):YS K X (.Return (some e) pos) (Ft (wY (xU is))) (rB is):=⟨yW h,Nm⟩
inductive HH(K:aA)(H:Hp):V→Value→Prop where
 | bl (x:Bool):HH K H (.bl x) (.type "bool")
 | int (i:Int):HH K H (.int i) (.type "int")
 | lst {a:Addr} {xs:List V} (e:mG K H a xs):HH K H (.ref a) (.type "list")
 | tup {a:Addr} {xs:List V} (e:mH K H a xs):HH K H (.ref a) (.type "tuple")
structure Bk(mg:Str→Option Value)(x:Str)(i:Int):Prop where
 ex:∃t,mg x=some (.int i t)
structure QF(K:aA)(mg:Str→Option Value)(x:Str)(ns:List Int):Prop where
 ex:∃a,mg x=some (.ref a)∧∀H:Hp,mH K H a (ns.map V.int)
theorem Zy{x:Str}{i:Int}(G:Bk X.mg x i)(hg:Gl X x)(hd:(x==("__debug__" : Str))=false:=by decide) (hk:X.K=K:=by rfl):XN K X (.Name x pos) (tC (.int i)) (fC (.int i)):=by
 obtain⟨t,h⟩:=G.ex
 exact⟨hk,cW hg h ⟨t,rfl⟩ hd,Gv i⟩
end
def jO(n m:Nat)(g:GS):List D→Option D:=λds=>if ds.length=m then(match g (ds.map SD.fro++D3 (n-m) SD.no)with
  | .ret d=>some d
  | .next _=>some .non
  | _=>none)else none
theorem xV{K:aA}{H Z:Hp}{k:Nat}:∀{ds:List D} {vs:List V},bN K Z ds vs→dW (dO K H Z) (ds.map SD.fro++D3 k SD.no) nil (vs.map some++D3 k none)
 | [],vs,h=>by
  unfold bN at h
  subst h
  simp only[J6,List.nil_append]
  induction k with
  | zero=>exact⟨λ_ z=>z,rfl⟩
  | succ k ih=>
   rw[Q7,Q7]
   exact⟨none,_,nil,nil,rfl,λ_ z=>z.elim,λx=>⟨.inl,λz=>z.elim id id⟩,λ_ z=>z,ih⟩
 | d::ds,vs,h=>by
  unfold bN at h
  obtain⟨y,ys,rfl,h1,h2⟩:=h
  rw[D8,D8,M3,M3]
  exact⟨some y,_,nil,nil,rfl,λ_ z=>z.elim,λx=>⟨.inl,λz=>z.elim id id⟩,⟨λ_ z=>z,y,rfl,h1⟩,xV h2⟩
theorem oE{K:aA}{H:Hp}{k:Nat}{ds:List D}{vs:List V}(h:bN K H ds vs):Rel K H (ds.map SD.fro++D3 k SD.no) (vs.map some++D3 k none) H:=by
 have g:aD H (out H nil):=λx u e=>bT.mpr ⟨λz=>z,e⟩
 exact⟨nil,xV (g.Gs _ _ h),g⟩
theorem Raw.vK{P:Program}{w:World}{K:aA}{mg:Str→Option Value}{base:Heap}{x:Str}{st:Stmt}{N ps:List Str}{k:Nat}{g:GS}(R:Raw K mg x st)(S:bJ N ps (aH st))
  (hb:∀(kV doc pm:Value)(an:Option Addr)(cdv ct:Value)(us:List Value),us.length=ps.length→bindArgs (D4 x x (cH st) (bF st) (aH st) .none kV doc pm an cdv ct) ⟨us,[]⟩=pure (ps.zip us))
  (hbody:∀(f:Addr)(cdv:Value)(A:Around)(outer:List Env)(s:Shared)(H:Hp)(E:XK),eN k (A.deeper (envOfC x (aH st) s.heap.objs.size f cdv)) →
   ∃t,YB K (eX Fd P w K mg base N x (aH st) f cdv A outer s H E).Tn (bF st) t g):pH P w K mg base x (k+1) ps.length (pO K ps.length (jO N.length ps.length g)):=by
 refine R.cal S (λvs H Q E h=>?_) hb (λf cdv A outer s H vs Q E hr h=>?_)
 ·obtain⟨ds,d,h1,h2,_⟩:=h
  rw[h2.length];exact h1
 obtain⟨ds,d,h1,h2,h3,kk⟩:=h
 obtain⟨t,yb⟩:=hbody f cdv A outer s H E hr
 refine⟨t,yb.ps,yb.ev H _ _ H (ds.map SD.fro++D3 (N.length-ps.length) SD.no) ?_ ?_⟩
 ·have hl:vs.length=ps.length:=by rw[h2.length];exact h1
  have:=oE (k:=N.length-ps.length) h2
  unfold start
  rw[hl]
  exact this
 ·unfold jO at h3
  rw[if_pos h1]at h3
  cases q:g (ds.map SD.fro++D3 (N.length-ps.length) SD.no)with
  | ret d'=>
   rw[q]at h3
   cases h3
   refine λv H' A' s' o=>kk v H' (s'.trans (fQ _ _)) ⟨A',o,λa qa=>?_⟩
   cases e:H a with
   | none=>rfl
   | some u=>exact absurd qa (bT.mp (s' a u e)).1
  | next env'=>
   rw[q]at h3
   cases h3
   refine λσ' H' ⟨A',_,s'⟩=>kk .non H' (s'.trans (fQ _ _)) (.dD rfl (by unfold Rv;rfl))
  | brk env'=>rw[q]at h3;cases h3
  | cont env'=>rw[q]at h3;cases h3
  | bad=>rw[q]at h3;cases h3
  | rete d e=>rw[q]at h3;cases h3
end L2


namespace L2
open PySem PySem.Spec PyProof.Rows
section
variable{K:aA}{X:Cx}{e a b c:Expr}{es:List Expr}{t ta tb te:TE}{f g:FE}{tA:TA}{fs:FA}{pos:Pos}{i j:Nat}{π:FP}{st:Stmt}{gb:GS}{tc:TT}{fc:FT}
def Dw(f:FE):FE:=λe=>(f e).bind λd=>match d with | .int i=>some (.int (-i)) | _=>none
theorem Bl(ha:XR K X a ta f):XN K X (.UnaryOp .USub a pos) (JB (rU λi=>.int (-i)) ta) (Dw f):=Vk ha
def QG(K:aA)(wi:TI)(fi:FA):Prop:=∀(σ:St)(H:Hp)(e:DE)(ds:List D)(R:It→Hp→Prop),lM K H e σ→fi e=some ds →
 (∀J H' P vs,aD H H'→Zg J P vs→(∀H2,P H2)→(∀Z,bN K Z ds vs)→R J H')→wi σ H R
structure XJ(K:aA)(X:Cx)(tg iter:Expr)(wi:TI)(fi:FA):Prop where
 pi:PI X tg iter wi
 ev:QG K wi fi
theorem Dy{tg:Expr}{p:Pos}(hg:Gl X "range") (hm:X.mg "range" = none) (ha:XA K X [a] tA fs) (hs:starEach [a] X.env=[(false,eval a X.env)]:=by rfl):XJ K X tg (.Call (.Name "range" p) [a] [] pos) (Qw tA) (uC fs):=⟨Cv hg hm ha.pa hs,λσ H e ds R re q k=>by
 unfold uC at q
 obtain⟨es,q1,q2⟩:=aQ q
 split at q2
 ·rename_i n
  split at q2
  ·rename_i hl
   cases q2
   have hl:=Vo hl
   refine ha.ev σ H H e _ _ (Zn.self K H) re q1 λvs H1 Z1 s1 t1 z1 rs=>?_
   obtain⟨v,rfl,r⟩:=lO rs
   unfold Rv at r
   subst r
   exact⟨n,rfl,by omega,by omega,k _ H1 _ _ s1 Dm (λ_=>True.intro) λZ=>Dt 0 n.toNat⟩
  ·cases q2
 ·cases q2⟩
def oZ(i:Nat)(fi:FA)(g:GS):GS:=λenv=>match fi (rE env)with
 | some xs=>lC i g xs env
 | none=>.bad
theorem Nq{wi:TI}{fi:FA}{tb:TS}(hi:QG K wi fi)(h:DS K tb gb):DS K (Fx wi (bO i) tb) (oZ i fi gb):=λB E σ H env r p=>by
 unfold oZ at p
 split at p
 ·rename_i xs q
  refine hi σ H (rE env) xs _ r.r q λJ H1 P vs s hJ hP rvs=>?_
  have hl:=(rvs H).length
  refine Az hJ (λk σ2 H2=>∃lD,Rel K B lD σ2 H2∧sW K B E (lC i gb (xs.drop k) lD)) ⟨env,r.same s,by simpa using p⟩ (λk σ2 H2 _ _=>hP H2) ?_ ?_
  ·rintro k x σ2 H2 hx ⟨lD,r2,p2⟩
   have hk:k<xs.length:=by
    obtain⟨h1,_⟩:=B6.mp hx
    omega
   rw[K6 hk]at p2
   unfold lC at p2
   split at p2
   ·rename_i hlen
    obtain⟨A2,a2,b2⟩:=r2
    obtain⟨x',hx',rx⟩:=(rvs (out H2 A2)).get (B3 hk)
    rw[hx]at hx'
    cases hx'
    have r3:Rel K B (lD.set i (.fro xs[k])) (σ2.set i (some x)) H2:=vI a2 b2 hlen (aD.refl _) (aD.refl _) (vH a2) rx
    refine h B _ _ H2 _ r3 ?_
    split at p2
    ·rename_i env' q2;rw[q2];exact λσ' H' r'=>⟨env',r',p2⟩
    ·rename_i env' q2;rw[q2];exact λσ' H' r'=>⟨env',r',p2⟩
    ·rename_i env' q2;rw[q2];exact p2
    ·rename_i n1 n2 n3
     cases q2:gb (lD.set i (.fro xs[k]))with
     | next e=>exact absurd q2 (n1 e)
     | cont e=>exact absurd q2 (n2 e)
     | brk e=>exact absurd q2 (n3 e)
     | ret d=>rw[q2]at p2;exact p2
     | bad=>rw[q2]at p2;exact p2
     | rete d e=>rw[q2]at p2;exact p2
   ·exact p2.elim
  ·rintro σ2 H2 ⟨lD,r2,p2⟩
   rw[hl,S2]at p2
   exact p2 σ2 H2 r2
 ·exact p.elim
theorem Nr{tg iter:Expr}{body:List Stmt}{wi:TI}{fi:FA}{tb:TS}(hp:PassesOwn (model X.prog X.w) X.A X.env X.xe)(Nk:X.calm=true)(hi:XJ K X tg iter wi fi)(hg:PG X tg (bO i))(hb:YB K X body tb gb)
  (hs:∀x,foldedSetIterable iter X.env x=pure x:=by intro _;rfl):YS K X (.For tg iter body [] pos) (Fx wi (bO i) tb) (oZ i fi gb):=⟨Fy hp Nk hi.pi hg hb.ps hs,Nq hi.ev hb.ev⟩
end
theorem zV{K:aA}{st:Stmt}{f:Addr}{fd:FuncData}(F:Ks K "law" "law" st f fd) (hb:∀(kV doc pm:Value)(an:Option Addr)(cdv ct:Value)(u:Value),bindArgs (D4 "law" "law" (cH st) (bF st) (aH st) .none kV doc pm an cdv ct) ⟨[u],[]⟩=pure [(("script" : Str),u)]):∀(s:Shared)(u:Value),BindsTo s fd ⟨[u],[]⟩ [("script", u)]:=by
 obtain⟨oc,od,kV,doc,pm,an,cdv,ct,osl,rfl,lk,hcd⟩:=F.ex
 exact λs u=>.of_eq (hb kV doc pm an cdv ct u)
theorem Ho{K:aA}{h:Heap}{mg:Str→Option Value}{x:Str}{i:Int}{t:Tok}(X:K.In h)(G:h.Ns mainGlobals mg)(a:D7 K mainGlobals x=some (some (.int i t))):Bk mg x i:=⟨t,D5 X G a⟩
end L2


namespace L2
open PySem PySem.Spec PyProof.Rows
section
variable{K:aA}{X:Cx}{e a b c:Expr}{es:List Expr}{t ta tb te:TE}{f g:FE}{tA:TA}{fs:FA}{pos:Pos}{i j:Nat}{π:FP}{st:Stmt}
variable{lo hi:Option Expr}{tl th:TO}{fl fh:FO}{p2:Pos}
end
end L2


namespace L2
open PySem PySem.Spec PyProof.Rows
def Led(b:Bool)(t:SetTable):Prop:=t.led=b∧(t.plain=true→t.place.toList.Pairwise (·<·)∧t.dummies=#[])
end L2


namespace L2
open PySem PySem.Spec PyProof.Rows
section
variable{prog:Program}{w:World}{A:Around}{E:Value→Shared→Prop}{s:Shared}{b:Bool}
def SJ(prog:Program)(w:World)(b:Bool)(h:Heap)(a:Addr)(S:Int→Bool)(n:Nat):Prop:=
 ∃o es ep t,h.get? a=some o∧o.ExactSet∧o.data=.set es ep t∧ElemsOf (intKind prog w) es.toList∧(∀k,S k=true↔∃e∈es.toList,(intKind prog w).is k e.2=true)∧es.size<scanBound∧t.fits es.size=true∧es.size=n∧Led b t
end
section
variable{prog:Program}{w:World}{A:Around}{R:Result→Shared→Prop}{I:Addr}{fp wr:List Addr}{G:Array GenState→Array GenState→Prop}{n:Nat}{P:Nat→Value→Prop}{St:Nat→Shared→Prop}{b:Bool}
end
end L2


namespace L2
open PySem PySem.Spec PyProof.Rows
section
variable{prog:Program}{w:World}{A:Around}{E:Value→Shared→Prop}{s:Shared}
end
end L2


namespace L2
open PySem PySem.Spec PyProof.Rows
def VN(h:Heap)(I:Addr)(f:Value)(i:Nat)(a:Addr)(n ep:Nat):Prop:=∃o,h.get? I=some o∧o.cls=.type "set_iterator" ∧ o.data=.fields #[f,.int (i:Int) 0,.ref a,.int (n:Int) 0,.int (ep:Int) 0]
def VP(h:Heap)(a:Addr)(es:Array (Int×Value))(ep:Nat)(t:SetTable):Prop:=∃o,h.get? a=some o∧o.cls=.type "set" ∧ o.data=.set es ep t∧t.fits es.size=true
section
variable{prog:Program}{w:World}{A:Around}{E:Value→Shared→Prop}{s:Shared}{I a T:Addr}{f:Value}{i n ep:Nat}{es:Array (Int×Value)}{t:SetTable}
end
end L2


namespace L2
open PySem PySem.Spec PyProof.Rows
section
variable{prog:Program}{w:World}{A:Around}{E:Value→Shared→Prop}{s:Shared}{I a T:Addr}{f:Value}{i n ep:Nat}{es:Array (Int×Value)}{t:SetTable}
end
end L2


namespace L2
open PySem PySem.Spec PySem.Calls PyProof.Rows PyProof.V
section
variable{prog:Program}{w:World}{A:Around}{E:Value→Shared→Prop}{s:Shared}{I a T:Addr}{n:Nat}{S:Int→Bool}
end
end L2


namespace L2
open PySem PySem.Spec PySem.Calls PyProof.Rows PyProof.V
section
variable{X:Cx}{e:Expr}{t:TE}{x y:Str}{p p2 pos pos2:Pos}
end
end L2


namespace L2
open PySem PySem.Spec PySem.Calls PyProof.Rows PyProof.V
section
variable{prog:Program}{w:World}{A:Around}{E:Value→Shared→Prop}{s:Shared}{I l:Addr}
end
section
variable{K:aA}{X:Cx}{e:Expr}{t:TE}{f:FE}{x y:Str}{p p2 pos pos2:Pos}
end
end L2


namespace L2
open PySem PySem.Spec PySem.Calls PyProof.Rows PyProof.V PySem.W Att
abbrev Small(k:Int):Prop:=Builtin.Int.intBits k≤1048576
theorem Hq{ns:List Int}(h:WData.layableAll [WData.list (ns.map WData.int)]=true):∀k∈ns,Small k:=λk hk=>by
 have h1:(WData.list (ns.map WData.int)).layable=true:=by simpa[WData.layableAll]using h
 obtain⟨c,_,w⟩:=layableW_iff.mp h1
 have c':WData.canLayAll (ns.map WData.int)=true:=by simpa[WData.canLay]using c
 have w':WData.weightAll (ns.map WData.int)≤2 ^ 20:=by simpa[WData.weight]using w
 have:=(items_part (List.mem_map.mpr ⟨k,hk,rfl⟩) c').2.2
 have e:(WData.int k).weight=Builtin.Int.intBits k:=by simp only[WData.weight,Builtin.Int.intBits]
 rw[e]at this
 exact F4 this w'
theorem xW{l:OpenLaw}{n:Nat}{q:Program}{loose:List Str}{XP:(Str→Option Value)→Heap→Prop}{YP:World→Heap→Prop}{d:DefRec}(hn:l.most=some n)(hdf:d.params.defaults=[])
  (call:∀(w:World)(s₀ s₁:Shared)(mg mb:Str→Option Value)(fa:Addr)(o:Obj)(pm cd doc:Value)(a:Addr)(vs:List Value)(ns:List Int),Ground q loose [] XP w s₀ mg mb s₁.heap→YP w s₁.heap →
   s₁.heap.get? fa=some o→o.data=.func (docDef d.name d.params d.body d.scope pm cd doc)→s₁.heap.CodeRec cd d.name→mg d.name=some (.ref fa) →
   s₁.heap.get? a=some {cls:=.type "list", data:=.seq vs.toArray}→IntsAre vs ns→ns.length≤n→(∀k∈ns,Small k)→s₁.gens=#[] →
   codeAny (model l.prog w) callerA (.call (.ref fa) ⟨[.ref a],[]⟩) (λr s'=>r=.ok (.ret (.bool true))∧OldK s₁.heap s'.heap∧s'.os=s₁.os∧AllBare s'.gens) s₁) :
  WalkO q loose XP YP l.row.toRowW d [] (λf vs=>S8 f vs):=by
 intro w s₀ s₁ mg mb G Y fa o pm cd doc dV kV ho hd hcd hD hmg hg args vals as hpre hlay hrd hwl hlo
 obtain rfl:dV=.none:=Dflts.none hD hdf
 obtain rfl:kV=.none:=Dflts.noKw hD
 obtain⟨a,vs,ns,rfl,rfl,hobj,hints,hlen⟩:=Dk hn hpre hwl
 refine enter_call (codeAny_mono (call w s₀ s₁ mg mb fa o pm cd doc a vs ns G Y ho (fd_plain hd) hcd hmg hobj hints hlen (Hq hlay) hg) λr s' hq=>?_)
 obtain⟨rfl,h2,h3,h4⟩:=hq
 exact⟨.inl ⟨.bool true,.bool true,[],rfl,λ_=>rfl,.bool true,Dl l _,λ_=>⟨List.Pairwise.nil,λ_ hm=>(nomatch hm)⟩⟩,h2,h3,h4⟩
theorem Dz{l:S9}{n k:Nat}{q:Program}{loose:List Str}{XP:(Str→Option Value)→Heap→Prop}{YP:World→Heap→Prop}{d:DefRec}{K:Params→aA}{CX:World→zF}{sp:World→Sp}{x:Str}(hn:l.most=some n)(hn2:n≤sizeLine)(hdf:d.params.defaults=[])(hr:eN k callerA)
  (hY:∀(w:World)(h:Heap),YP w h→(K w.params).In h)
  (F:∀(w:World)(mg:Str→Option Value)(fa:Addr)(h:Heap),(K w.params).In h→h.Ns mainGlobals mg→mg d.name=some (.ref fa)→∃fd:FuncData,(∀(s:Shared)(u:Value),BindsTo s fd ⟨[u],[]⟩ [(x,u)])∧∀base:Heap,(K w.params).In base→base.Ns mainGlobals mg→mL l.prog w (K w.params) mg base (CX w) k fa fd [x] (sp w))
  (hsp:∀(w:World)(H:Hp)(a:Addr)(ns:List Int),ns.length≤n→(∀k∈ns,Small k)→Only H→mG (K w.params) H a (ns.map V.int)→sp w [.ref a] H (λv _=>v=.bl true) λ_ _ _=>False)
  (JM:∀(w:World)(H:Hp)(s:Shared)(e:Value)(s':Shared),CX w [] H s (λ_ _ _=>False) e s'→False) :
  T5 q loose XP YP l.row.toRowW d [] (λf vs=>S8 f vs):=by
 refine xW hn hdf λw s₀ s₁ mg mb fa o pm cd doc a vs ns G Y ho hd hcd hmg hobj hints hlen hsm hg=>?_
 have KX:=hY w _ Y
 obtain⟨fd,hb,hF⟩:=F w mg fa _ KX G.T.g hmg
 exact Gi KX G.T.g G.T.b G.T.builtins G.T.nolimit hg hobj hints (F4 hlen hn2) hr hF hb (λH hO hS=>hsp w H a ns hlen hsm hO hS) λH e s'=>JM w H s₁ e s'
def JT(K:aA):Sp:=λvs H Q _=>∃(a:Addr)(ns:List Int),vs=[.ref a]∧mG K H a (ns.map V.int)∧ns.length≤63∧(∀k∈ns,Small k)∧∀H',Q (.bl true) H'
theorem Ks.SM{P:Program}{w:World}{K:aA}{mg:Str→Option Value}{base:Heap}{x:Str}{st:Stmt}{N:List Str}{k:Nat}{g:GS}{f:Addr}{fd:FuncData}(F:Ks K x x st f fd)(S:bJ N ["script"] (aH st))
  (hbody:∀(cdv:Value)(A:Around)(outer:List Env)(s:Shared)(H:Hp)(E:XK),eN k (A.deeper (envOfC x (aH st) s.heap.objs.size f cdv))→∃t,YB K (eX Fd P w K mg base N x (aH st) f cdv A outer s H E).Tn (bF st) t g)
  (Vu:∀ns:List Int,ns.length≤63→(∀k∈ns,Small k)→jO N.length 1 g [.lst (ns.map D.int)]=some (.bl true)):mL P w K mg base Fd (k+1) f fd ["script"] (JT K):=by
 refine F.ok S (λvs H Q E h=>?_) (λcdv A outer s H vs Q E hr h=>?_)
 ·obtain⟨a,ns,rfl,_⟩:=h
  rfl
 obtain⟨a,ns,rfl,hS,hl,hb,q⟩:=h
 obtain⟨t,yb⟩:=hbody cdv A outer s H E hr
 have h3:=Vu ns hl hb
 have rv:bN K H [.lst (ns.map D.int)] [.ref a]:=by
  unfold bN
  exact⟨_,_,rfl,by unfold Rv;exact⟨a,_,rfl,hS,qZ.mpr rfl⟩,by unfold bN;rfl⟩
 refine⟨t,yb.ps,yb.ev H _ _ H ([D.lst (ns.map D.int)].map SD.fro++D3 (N.length-1) SD.no) (oE rv) ?_⟩
 unfold jO at h3
 rw[if_pos (show [D.lst (ns.map D.int)].length=1 from rfl)]at h3
 cases qq:g ([D.lst (ns.map D.int)].map SD.fro++D3 (N.length-1) SD.no)with
 | ret d'=>
  rw[qq]at h3
  cases h3
  refine λv H' A' s' o=>?_
  have:=Ow.rv _ _ _ o
  unfold Rv at this
  subst this
  exact q _
 | _=>
  rw[qq]at h3
  cases h3
section
variable{K:aA}{X:Cx}{e a b c:Expr}{es:List Expr}{t ta tb te:TE}{f g:FE}{pos:Pos}
def Rp(i j:Int):Prop:=Builtin.Int.intBits i≤4000000∧Builtin.Int.intBits j≤4000000
instance (i j:Int):Decidable (Rp i j):=by unfold Rp;exact inferInstance
variable{lo hi:Option Expr}{tl th:TO}{fl fh:FO}{p2:Pos}
end
end L2


namespace L2
open PySem PySem.Spec PySem.Calls PyProof.Rows PyProof.V
section
variable{K:aA}{X:Cx}
end
end L2


namespace L2
open PySem PySem.Spec PySem.Calls PyProof.Rows PyProof.V
section
variable{X:Cx}{pins:List (Addr×Obj)}{σ:St}{H:Hp}{s:Shared}{h':Heap}
end
section
variable{K:aA}{X:Cx}{e a b c:Expr}{es:List Expr}{t ta tb te:TE}{f g fe:FE}{tc:TT}{fc:FT}{pos p p2:Pos}{x:Str}
end
end L2


namespace L2
open PySem PySem.Spec PySem.Calls PyProof.Rows PyProof.V
section
variable{K:aA}{B H:Hp}{env:EN}{σ:St}{i:Nat}{v:V}{d:D}
end
section
variable{K:aA}{X:Cx}{st:Stmt}{sts:List Stmt}{t u tb:TS}{g g1 g2:GS}{e a b c:Expr}{es:List Expr}{te ta t0:TE}{f f0 fa fb:FE}{gk:FE}{tA:TA}{fs:FA}{tc:TT}{fc:FT}{pos:Pos}{i:Nat}{π:FP}
end
end L2


namespace L2
open PySem PySem.Spec PySem.Calls PyProof.Rows PyProof.V
section
variable{α β:Type}{R:α→Fp→β→Prop}
end
section
variable{K:aA}{B H H':Hp}{env:EN}{σ:St}{i:Nat}{v:V}{d:D}
end
def Zz:GS:=λ_=>.bad
theorem Vv{K:aA}{X:Cx}{st:Stmt}:YS K X st qH Zz:=⟨Fv,λ_ _ _ _ _ _ p=>p.elim⟩
section
variable{K:aA}{X:Cx}{st:Stmt}{sts:List Stmt}{t u tb:TS}{g g1 g2:GS}{e a b c o:Expr}{es:List Expr}{te ta t0 tv:TE}{f f0 fa fb:FE}{gk:FE}{tA:TA}{fs:FA}{tc:TT}{fc:FT}{pos apos:Pos}{i:Nat}{π:FP}
structure SN(K:aA)(C:Addr)(nm:List Str):Prop where
 cl:GR K C
 no:∀f∈nm,Ud K C f
end
section
variable{K:aA}{B H:Hp}{env:EN}{σ:St}
end
section
variable{K:aA}{X:Cx}{st:Stmt}{sts:List Stmt}{t u tb:TS}{g g1 g2:GS}{e a b c o:Expr}{es:List Expr}{te ta t0 tv:TE}{f f0 fa fb:FE}{gk:FE}{tA:TA}{fs:FA}{tc:TT}{fc:FT}{pos apos:Pos}{i:Nat}{π:FP}
end
end L2


namespace L2
open PySem PySem.Spec PySem.Calls PyProof.Rows PyProof.V
section
variable{K:aA}{B H H':Hp}{env:EN}{σ:St}{i:Nat}{p:List Step}{d0 d:D}
end
abbrev GM:=EN→Option (D×EN)
def SQ(K:aA)(t:TE)(g:GM):Prop:=∀(B:Hp)(σ:St)(H:Hp)(env:EN)(d:D)(env':EN)(Q:VK),Rel K B env σ H→g env=some (d,env')→(∀v H',Rel K B (env'++[.own d]) (σ++[some v]) H'→Q v H')→t σ H Q
structure XM(K:aA)(X:Cx)(e:Expr)(t:TE)(g:GM):Prop where
 hk:X.K=K
 pe:PE X e t
 ev:SQ K t g
abbrev GB:=EN→Option (Bool×EN)
def BJ(K:aA)(t:TT)(g:GB):Prop:=∀(B:Hp)(σ:St)(H:Hp)(env:EN)(b:Bool)(env':EN)(Q:Bool→Hp→Prop),Rel K B env σ H→g env=some (b,env')→(∀H',Rel K B env' σ H'→Q b H')→t σ H Q
structure VR(K:aA)(X:Cx)(e:Expr)(t:TT)(g:GB):Prop where
 hk:X.K=K
 pt:PT X e t
 ev:BJ K t g
structure WD(K:aA)(X:Cx)(e:Expr)(t:TT)(g:GB):Prop where
 hk:X.K=K
 pw:PW X e t
 ev:BJ K t g
abbrev FA2:=DE→DE→Option (List D)
def JV(K:aA)(t:TA)(fs:FA2):Prop:=∀(A1:Fp)(σ:St)(H:Hp)(eF eZ:DE)(ds:List D)(Q:List V→Hp→Prop),(∀x,A1 x→nT H x)→lM K H eF σ→lM K (out H A1) eZ σ→fs eF eZ=some ds →
 (∀vs H',aD H H'→bN K (out H' A1) ds vs→Q vs H')→t σ H Q
structure WK(K:aA)(X:Cx)(es:List Expr)(t:TA)(fs:FA2):Prop where
 hk:X.K=K
 pa:PA X es t
 ev:JV K t fs
section
variable{K:aA}{X:Cx}{st:Stmt}{sts:List Stmt}{t u tb:TS}{g:GM}{g1 g2:GS}{e a b c o:Expr}{es rest:List Expr}{te ta t0 tv:TE}{f f0 fa fb:FE}{tA:TA}{fs:FA2}{tc td:TT}{fc:FT}{gb gc:GB}{pos apos:Pos}{i:Nat}{π:FP}
structure SX(P:Program)(w:World)(K:aA)(mg:Str→Option Value)(base:Heap)(C:Addr)(m:Str)(k n:Nat)(df:Bool)(sp:Sp):Prop where
 ex:∃f fd ps,ps.length=n∧mL P w K mg base Fd k f fd ps sp∧Binds K fd ps []∧(df=true→Binds K fd ps [Value.none])∧Meth K C m f
structure TF(P:Program)(w:World)(K:aA)(mg:Str→Option Value)(base:Heap)(x:Str)(C:Addr)(k n:Nat)(sp:Sp):Prop where
 ex:∃f fd ps,ps.length=n∧mL P w K mg base Fd k f fd ps sp∧Binds K fd ps []∧Mk K C f∧mg x=some (.ref C)
end
end L2


namespace L2
open PySem PySem.Spec PySem.Calls PyProof.Rows PyProof.V
def JW(K:aA)(dN:Bool)(dV:Value):Prop:=match dN with
 | false=>dV=.none
 | true=>∃T o n,dV=.ref T∧K.lookup T=some o∧o.data=.seq #[.none] n
structure BK(K:aA)(f:Addr)(m q:Str)(st:Stmt)(dN:Bool):Prop where
 ex:∃(oc:Value)(od:Option Addr)(dV kV doc pm:Value)(an:Option Addr)(cdv ct:Value)(osl:Array (Option Value)),
  K.lookup f=some ⟨oc,od,.func (D4 m q (cH st) (bF st) (aH st) dV kV doc pm an cdv ct),osl⟩∧K0 K cdv q=true∧JW K dN dV
structure TJ(K:aA)(C:Addr)(m q:Str)(st:Stmt)(dN:Bool):Prop where
 ex:∃f,BK K f m q st dN∧Meth K C m f
structure TQ(K:aA)(mg:Str→Option Value)(x:Str)(C:Addr)(q:Str)(st:Stmt):Prop where
 ex:∃f,BK K f "__init__" q st false∧Mk K C f∧mg x=some (.ref C)
def HB(x q:Str)(st:Stmt)(ps:List Str):Prop:=∀(kV doc pm:Value)(an:Option Addr)(cdv ct:Value)(us:List Value),us.length=ps.length→bindArgs (D4 x q (cH st) (bF st) (aH st) .none kV doc pm an cdv ct) ⟨us,[]⟩=pure (ps.zip us)
def TV(x q:Str)(st:Stmt)(ps:List Str):Prop:=∀(T:Addr)(kV doc pm:Value)(an:Option Addr)(cdv ct:Value)(us:List Value),(us.length=ps.length→∃k,bindArgs (D4 x q (cH st) (bF st) (aH st) (.ref T) kV doc pm an cdv ct) ⟨us,[]⟩=seqItems? (Value.ref T) >>= k∧k (some #[Value.none])=pure (ps.zip us)) ∧
 (us.length+1=ps.length→∃k,bindArgs (D4 x q (cH st) (bF st) (aH st) (.ref T) kV doc pm an cdv ct) ⟨us,[]⟩=seqItems? (Value.ref T) >>= k∧k (some #[Value.none])=pure (ps.zip (us++[Value.none])))
def WL(dN:Bool)(x q:Str)(st:Stmt)(ps:List Str):Prop:=match dN with
 | false=>HB x q st ps
 | true=>TV x q st ps
section
variable{P:Program}{w:World}{K:aA}{mg:Str→Option Value}{base:Heap}
end
section
variable{K:aA}{X:Cx}{st:Stmt}{g g1 g2 gb:GS}{e a b c o:Expr}{es rest:List Expr}{te ta tb tc t0 tv:TE}{f f0 fa fb fc:FE}{tA:TA}{fs:FA}{pos apos:Pos}{i j:Nat}{π:FP}{QH:TS}
def Hr(φ φ':D→D→Option D)(f g h:FE):FT:=λe=>(f e).bind λa=>(g e).bind λb=>(φ a b).bind λr=>match r with
  | .bl true=>(h e).bind λc=>(φ' b c).bind λr2=>match r2 with | .bl k=>some k | _=>none
  | .bl false=>some false
  | _=>none
theorem Hs{op op':CmpOp}{r r':R2}{φ φ':D→D→Option D}(ho:iB X (compareOp op) r)(ho':iB X (compareOp op') r')(hd:yS K r φ)(hd':yS K r' φ')(ha:XR K X a ta fa)(hb:XR K X b tb fb)(hc:XR K X c tc fc)(hm:lastMarks [op,op'] [b,c]=false:=by with_unfolding_all rfl):XT K X (.Compare a [op,op'] [b,c] pos) (wX (Ga r r' ta tb tc)) (Hr φ φ' fa fb fc):=⟨ha.hk,Gb ho ho' ha.pe hb.pe hc.pe hm,λσ H e k Q re q kk=>by
 obtain⟨d1,q1,q⟩:=aQ q
 obtain⟨d2,q2,q⟩:=aQ q
 obtain⟨d3,q3,q⟩:=aQ q
 refine ha.ev σ H H e d1 _ (Zn.self K H) re q1 λx H1 Z1 s1 t1 z1 rx=>hb.ev σ H1 H1 e d2 _ (Zn.self K H1) (re.same s1) q2 λy H2 Z2 s2 t2 z2 ry=>?_
 refine hd x y H2 d1 d2 d3 _ (s2.rv _ _ (z1.sm.rv _ _ rx)) (z2.sm.rv _ _ ry) q3 λz H3 s3 n=>?_
 have rz:=n.rv
 split at q
 ·obtain⟨d4,q4,q⟩:=aQ q
  obtain⟨d5,q5,q⟩:=aQ q
  unfold Rv at rz
  refine⟨true,rz,?_⟩
  rw[if_pos rfl]
  refine hc.ev σ H3 H3 e d4 _ (Zn.self K H3) (re.same (s1.trans (s2.trans s3))) q4 λw H4 Z4 s4 t4 z4 Yx=>?_
  refine hd' y w H4 d2 d4 d5 _ ((s3.trans s4).rv _ _ (z2.sm.rv _ _ ry)) (z4.sm.rv _ _ Yx) q5 λv H5 s5 n5=>?_
  have r5:=n5.rv
  split at q
  ·cases q
   unfold Rv at r5
   exact⟨_,r5,kk H5 (s1.trans (s2.trans (s3.trans (s4.trans s5))))⟩
  ·cases q
 ·cases q
  unfold Rv at rz
  refine⟨false,rz,?_⟩
  rw[if_neg (by decide)]
  exact⟨_,rfl,kk H3 (s1.trans (s2.trans s3))⟩
 ·cases q⟩
end
end L2


namespace L2
open PySem PySem.Spec PySem.Calls PyProof.Rows PyProof.V
section
variable{K:aA}{B H:Hp}{env:EN}{σ:St}
end
abbrev FK:=DE→Option (List Key)
def TX(K:aA)(t:TE)(fk:FK):Prop:=∀(σ:St)(H:Hp)(e:DE)(k:List Key)(Q:VK),lM K H e σ→fk e=some k→(∀b H',aD H H'→H' b=some (.tup (k.map kV))→Q (.ref b) H')→t σ H Q
structure WM(K:aA)(X:Cx)(e:Expr)(t:TE)(fk:FK):Prop where
 hk:X.K=K
 pe:PE X e t
 ev:TX K t fk
section
variable{K:aA}{X:Cx}{st:Stmt}{e a b c o:Expr}{es rest:List Expr}{te ta tb tc t0 tv:TE}{f fa fb:FE}{g:FK}{gd:FE}{tA:TA}{fs:FA}{pos apos:Pos}{i j:Nat}{π:FP}{QH:TS}
def JX(K:aA)(t:TA)(fs:FA)(i:Nat):Prop:=∀(σ:St)(H:Hp)(e:DE)(ds:List D)(v:V)(Q:List V→Hp→Prop),lM K H e σ→fs e=some ds→σ[i]?=some (some v)→(∀vs H',aD H H'→sV K H H' ds vs→Q (vs++[v]) H')→t σ H Q
structure WN(K:aA)(X:Cx)(es:List Expr)(t:TA)(fs:FA)(i:Nat):Prop where
 hk:X.K=K
 pa:PA X es t
 ev:JX K t fs i
end
end L2


namespace L2
open PySem PySem.Spec PySem.Calls PyProof.Rows PyProof.V
section
variable{K:aA}{X:Cx}{st:Stmt}{e a b c o:Expr}{es rest:List Expr}{te ta tb tc t0 tv:TE}{f fa fb g:FE}{gk:FK}{gd:FE}{tA:TA}{fs:FA}{pos apos:Pos}{i j:Nat}{π:FP}{QH:TS}{gm:GM}
end
end L2
namespace L2
open PySem PySem.Spec PySem.Calls PyProof.Rows PyProof.V
def D.Ht:D→Bool
 | .non=>true
 | _=>false
theorem Hu{K:aA}{H:Hp}{d:D}{v:V}(r:Rv K H d v):decide (v=.non)=d.Ht:=by
 cases d with
 | non=>unfold Rv at r;subst r;rfl
 | bl b=>unfold Rv at r;subst r;rfl
 | int b=>unfold Rv at r;subst r;rfl
 | str b=>unfold Rv at r;subst r;rfl
 | lst ds=>unfold Rv at r;obtain⟨a,xs,rfl,_⟩:=r;rfl
 | tup ds=>unfold Rv at r;obtain⟨a,xs,rfl,_⟩:=r;rfl
 | dk ks ds=>unfold Rv at r;obtain⟨a,xs,rfl,_⟩:=r;rfl
 | dt ks ds=>unfold Rv at r;obtain⟨a,xs,rfl,_⟩:=r;rfl
 | ins C nm ds=>unfold Rv at r;obtain⟨a,dx,xs,rfl,_⟩:=r;rfl
def Vw(neg:Bool)(a b:D):Option D:=match b with
 | .non=>some (.bl (if neg then !a.Ht else a.Ht))
 | _=>none
theorem Vx{K:aA}:yS K (λx y H Q=>y=.non∧Q (.bl (decide (x=.non))) H) (Vw false):=λx y H a b d Q ra rb q k=>by
 unfold Vw at q
 split at q
 ·cases q
  unfold Rv at rb
  refine⟨rb,?_⟩
  rw[Hu ra]
  exact k _ H (aD.refl _) (.dD rfl (by unfold Rv;rfl))
 ·cases q
end L2


namespace L2
open PySem PySem.Spec PySem.Calls PyProof.Rows PyProof.V
section
variable{K:aA}{X:Cx}{e stx:Expr}{te ts:TE}{f g:FE}{pos p2:Pos}
end
end L2


namespace L2
open PySem PySem.Spec PySem.Calls PyProof.Rows PyProof.V
abbrev FE2:=DE→DE→Option D
def TY(K:aA)(t:TE)(f:FE2):Prop:=∀{N:Fp}(σ:St)(H Z:Hp)(eF eZ:DE)(d:D)(Q:VK),Zn K N Z H→lM K H eF σ→lM K Z eZ σ→f eF eZ=some d →
 (∀v H' Z',aD H H'→aD Z Z'→Zn K N Z' H'→Rv K Z' d v→Q v H')→t σ H Q
def JZ(K:aA)(t:TA)(f:FA2):Prop:=∀{N:Fp}(σ:St)(H Z:Hp)(eF eZ:DE)(ds:List D)(Q:List V→Hp→Prop),Zn K N Z H→lM K H eF σ→lM K Z eZ σ→f eF eZ=some ds →
 (∀vs H' Z',aD H H'→aD Z Z'→Zn K N Z' H'→bN K Z' ds vs→Q vs H')→t σ H Q
structure XZ(K:aA)(X:Cx)(e:Expr)(t:TE)(f:FE2):Prop where
 hk:X.K=K
 pe:PE X e t
 ev:TY K t f
structure WQ(K:aA)(X:Cx)(es:List Expr)(t:TA)(f:FA2):Prop where
 hk:X.K=K
 pa:PA X es t
 ev:JZ K t f
section
variable{K:aA}{X:Cx}{e a b:Expr}{es:List Expr}{te ta tb:TE}{f:FE}{g h:FE2}{tA:TA}{fs:FA2}{pos:Pos}{i:Nat}
end
end L2


namespace L2
open PySem PySem.Spec PySem.Calls PyProof.Rows PyProof.V
inductive Ar where
  | ch (i:Nat) | rd (f:FE) | nw (f:FE)
def HJ:List Ar→List Nat
 | []=>[]
 | .ch i::as=>i::HJ as
 | .rd _::as=>HJ as
 | .nw _::as=>HJ as
def HN:List Ar→DE→DE→Option (List D)
 | [],_,_=>some []
 | .ch _::as,eF,eZ=>HN as eF eZ
 | .rd f::as,eF,eZ=>(f eZ).bind λd=>(HN as eF eZ).map λr=>d::r
 | .nw f::as,eF,eZ=>(f eF).bind λd=>(HN as eF eZ).map λr=>d::r
def Bm(K:aA)(Z:Hp)(σ:St):List Ar→List D→List V→Prop
 | [],ds,vs=>ds=[]∧vs=[]
 | .ch i::as,ds,vs=>∃v r,vs=v::r∧σ[i]?=some (some v)∧Bm K Z σ as ds r
 | .rd _::as,ds,vs=>∃d dr v r,ds=d::dr∧vs=v::r∧Rv K Z d v∧Bm K Z σ as dr r
 | .nw _::as,ds,vs=>∃d dr v r,ds=d::dr∧vs=v::r∧Rv K Z d v∧Bm K Z σ as dr r
def QJ(σ:St):List Nat→List V→Prop
 | [],vs=>vs=[]
 | j::js,vs=>∃v r,vs=v::r∧σ[j]?=some (some v)∧QJ σ js r
section
variable{K:aA}{X:Cx}{e:Expr}{es:List Expr}{te:TE}{f:FE}{tA:TA}{as:List Ar}{pos:Pos}{i:Nat}
def KC(K:aA)(t:TA)(as:List Ar):Prop:=∀(A1:Fp)(σ:St)(H:Hp)(eF eZ:DE)(ds:List D)(cv:List V)(Q:List V→Hp→Prop),(∀x,A1 x→nT H x)→lM K H eF σ→lM K (out H A1) eZ σ→QJ σ (HJ as) cv→HN as eF eZ=some ds →
 (∀vs H',aD H H'→Bm K (out H' A1) σ as ds vs→Q vs H')→t σ H Q
structure WR(K:aA)(X:Cx)(es:List Expr)(t:TA)(as:List Ar):Prop where
 hk:X.K=K
 pa:PA X es t
 ev:KC K t as
end
section
variable{K:aA}{H H' Z Z' B:Hp}{σ:St}
end
section
variable{K:aA}{X:Cx}{e:Expr}{es:List Expr}{tA:TA}{as:List Ar}{pos pf:Pos}
end
section
variable{P:Program}{w:World}{K:aA}{mg:Str→Option Value}{base:Heap}
end
section
variable{K:aA}{X:Cx}{a b:Expr}{rest:List Expr}{ta tb:TE}{g h:GM}{f:FE}{pos:Pos}
end
end L2


namespace L2
open PySem PySem.Spec PySem.Calls PyProof.Rows PyProof.V
section
variable{prog:Program}{w:World}{A:Around}{R:Result→Shared→Prop}{I:Addr}{fp wr:List Addr}{n:Nat}{P:Nat→Value→Prop}{St:Nat→Heap→Prop}{kw:List (Str×Value)}
end
section
variable{prog:Program}{w:World}{A:Around}{E:Value→Shared→Prop}{s:Shared}
end
section
variable{K:aA}{X:Cx}{e e2:Expr}{te t2:TE}{f g:FE}{x:Str}{p pos kp:Pos}
end
end L2


namespace L2
open PySem PySem.Spec PySem.Calls PyProof.Rows PyProof.V
section
variable{X:Cx}
end
section
variable{K:aA}{X:Cx}{a b e:Expr}{ta tb te:TE}{f g:FE}{i:Nat}{π:FP}{pos apos cpos:Pos}{m:Str}
end
end L2


namespace L2
open PySem PySem.Spec PySem.Calls PyProof.Rows PyProof.V
def Vy(ks:List Key)(vs:List V):List (V×V):=(ks.zip vs).map λkv=>(kV kv.1,kv.2)
def KD(K:aA)(t:List (TE×TE))(ks:List Key)(is:List Nat)(fs:FA):Prop:=∀(σ:St)(H:Hp)(e:DE)(ds:List D)(xs:List V)(Q:List (V×V)→Hp→Prop),lM K H e σ→fs e=some ds→xs.length=is.length →
 (∀(k i:Nat),is[k]?=some i→∃x,xs[k]?=some x∧σ[i]?=some (some x))→(∀vs H',aD H H'→sV K H H' ds vs→Q (Vy ks (xs++vs)) H')→uU t σ H Q
structure WT(K:aA)(X:Cx)(p:Pos)(keys:List (Option Expr))(vals:List Expr)(t:List (TE×TE))(ks:List Key)(is:List Nat)(fs:FA):Prop where
 hk:X.K=K
 WW:Xu X p keys vals t
 ev:KD K t ks is fs
section
variable{K:aA}{X:Cx}{st:Stmt}{e:Expr}{vals:List Expr}{keys:List (Option Expr)}{te:TE}{f:FE}{fs:FA}{pos p p1:Pos}{i j:Nat}{t:List (TE×TE)}{ks:List Key}{is:List Nat}{x:Str}
end
section
variable{X:Cx}{K:aA}{x y:Str}{p p2 pos pos2:Pos}{a b:Expr}{t:TA}{fs:FA}
end
end L2


namespace L2
open PySem PySem.Spec PySem.Calls PyProof.Rows PyProof.V
section
variable{K:aA}{X:Cx}{a e:Expr}{ta te:TE}{f:FE}{π:FP}{i:Nat}{m:Str}{apos cpos pos:Pos}
end
end L2


namespace L2
open PySem PySem.Spec PySem.Calls PyProof.Rows PyProof.V
section
variable{K:aA}{X:Cx}{a b e:Expr}{es:List Expr}{ta tb te t:TE}{f g:FE}{tA:TA}{fs:FA}{pos apos cpos p2:Pos}{m:Str}
def iY(a b:D):Option D:=match a,b with
 | .str x,.str y=>if x.length+y.length≤100000 then some (.str (x++y))else none
 | _,_=>none
theorem Nt:yS K (λx y H Q=>∃i j,x=.str i∧y=.str j∧i.length+j.length≤sizeLine∧Q (.str (i++j)) H) iY:=λx y H a b d Q ra rb q k=>by
 unfold iY at q
 split at q
 ·split at q
  ·rename_i c
   cases q
   unfold Rv at ra rb
   exact⟨_,_,ra,rb,iV c,k _ H (aD.refl _) (.dD rfl (by unfold Rv;rfl))⟩
  ·cases q
 ·cases q
theorem kI(ha:XR K X a ta f)(hb:XR K X b tb g):XN K X (.BinOp a .Add b pos) (wL (λx y H Q=>∃i j,x=.str i∧y=.str j∧i.length+j.length≤sizeLine∧Q (.str (i++j)) H) ta tb) (f2 iY f g):=uA zA Nt ha hb
def Ea(x y:Str):Bool:=!(Builtin.Str.occurrences x y 0 x.length 1).isEmpty
def Hv(a b:D):Option D:=match a,b with
 | .str y,.str x=>some (.bl (Ea x y))
 | _,_=>none
def BL:R2:=λx y H Q=>∃i j,x=.str i∧y=.str j∧Q (.bl (!(Builtin.Str.occurrences j i 0 j.length 1).isEmpty)) H
theorem Vz:yS K BL Hv:=λx y H a b d Q ra rb q k=>by
 unfold Hv at q
 split at q
 ·cases q
  unfold Rv at ra rb
  exact⟨_,_,ra,rb,k _ H (aD.refl _) (.dD rfl (by unfold Rv Ea;rfl))⟩
 ·cases q
theorem Wa:iB X (compareOp .In) BL:=Dc
def vL(a b:D):Option D:=match a,b with
 | .str x,.int i=>if x.length≤100000 then(Fb x.cps.toList i).map λc=>.str ⟨#[c]⟩else none
 | _,_=>none
theorem zW(ha:XR K X a ta f)(hb:XR K X b tb g)(hs:uR b):XN K X (.Subscript a b pos) (wL Uh ta tb) (f2 vL f g):=
 ⟨ha.hk,Rb Gf ha.pe hb.pe hs,Be (λx y H a b d Q ra rb q k=>by
  unfold vL at q
  split at q
  ·split at q
   ·rename_i c
    obtain⟨u,q1,rfl⟩:=fP q
    unfold Rv at ra rb
    exact⟨_,_,u,ra,rb,iV c,q1,k _ H (aD.refl _) (.dD rfl (by unfold Rv;rfl))⟩
   ·cases q
  ·cases q) ha.ev hb.ev⟩
def jP:List D→Option D
 | [.str x]=>if x.length≤100000 then some (.int x.length)else none
 | _=>none
theorem pP:mX K (λxs H Q=>∃z,xs=[.str z]∧z.length≤sizeLine∧Q (.int z.length) H) jP:=λvs H ds d Q rs q k=>by
 unfold jP at q
 split at q
 ·split at q
  ·rename_i c
   cases q
   obtain⟨v,rfl,r⟩:=lO rs
   unfold Rv at r
   subst r
   exact⟨_,rfl,iV c,k _ H (aD.refl _) (.dD rfl (by unfold Rv;rfl))⟩
  ·cases q
 ·cases q
def xX(i:Int):Str:=K8 (toString i)
def xY:List D→Option D
 | [.int i]=>if i.natAbs.log2<1920 then some (.str (xX i))else none
 | _=>none
theorem Nu:mX K (λxs H Q=>∃i,xs=[.int i]∧i.natAbs.log2<1920∧Q (.str (toString i)) H) xY:=λvs H ds d Q rs q k=>by
 unfold xY at q
 split at q
 ·split at q
  ·rename_i c
   cases q
   obtain⟨v,rfl,r⟩:=lO rs
   unfold Rv at r
   subst r
   exact⟨_,rfl,c,k _ H (aD.refl _) (.dD rfl (by unfold Rv xX;rfl))⟩
  ·cases q
 ·cases q
noncomputable def Hw:List D→Option D
 | [.str x]=>if x.length≤640 then(M8 x).map .int else none
 | _=>none
def Rq:List V→Hp→VK→Prop:=λxs H Q=>∃x n,xs=[.str x]∧M8 x=some n∧x.length≤640∧Q (.int n) H
theorem Nv:dB X (.type "int") Rq:=by
 intro pins s σ H xs us Q I r h
 obtain⟨x,n,rfl,hn,hl,q⟩:=h
 obtain⟨u,rfl,t,rfl⟩:=vals1 r
 exact PySem.W.KIN.call_text hn hl ⟨.int n,H,I.tok _,⟨_,rfl⟩,q⟩
theorem Nx:mX K Rq Hw:=λvs H ds d Q rs q k=>by
 unfold Hw at q
 split at q
 ·split at q
  ·rename_i c
   obtain⟨n,q1,rfl⟩:=fP q
   obtain⟨v,rfl,r⟩:=lO rs
   unfold Rv at r
   subst r
   exact⟨_,n,rfl,q1,c,k _ H (aD.refl _) (.dD rfl (by unfold Rv;rfl))⟩
  ·cases q
 ·cases q
structure pA(mg:Str→Option Value)(x:Str)(i:Str):Prop where
 ex:∃t,mg x=some (.str i t)
theorem rC{K:aA}{h:Heap}{mg:Str→Option Value}{x:Str}{i:Str}{t:Tok}(X:K.In h)(G:h.Ns mainGlobals mg)(a:D7 K mainGlobals x=some (some (.str i t))):pA mg x i:=⟨t,D5 X G a⟩
theorem Bo{x:Str}{i:Str}(G:pA X.mg x i)(hg:Gl X x)(hd:(x==("__debug__" : Str))=false:=by decide) (hk:X.K=K:=by rfl):XN K X (.Name x pos) (tC (.str i)) (fC (.str i)):=by
 obtain⟨t,h⟩:=G.ex
 exact⟨hk,cW hg h ⟨t,rfl⟩ hd,Gw i⟩
def zY:V→List V→Hp→VK→Prop:=λx vs H Q=>∃z y,x=.str z∧vs=[.str y]∧Q (.bl (Txt.startswith z y)) H
theorem Hx:JG X "str.startswith" zY:=by
 intro pins s σ H x vs v us Q I rx rv h
 obtain⟨z,y,rfl,rfl,q⟩:=h
 obtain⟨t,rfl⟩:=rx
 obtain⟨u,rfl,ru⟩:=rv.one
 obtain⟨t',rfl⟩:=ru
 exact PySem.SC.startswith ⟨.bl _,H,I,rfl,q⟩
def vM(a b:D):Option D:=match a,b with
 | .str x,.str y=>some (.bl (Txt.startswith x y))
 | _,_=>none
theorem Hy(ha:XR K X a ta f)(hb:XR K X b tb g)(hp:PE X a ta→PE X b tb→PE X (.Call (.Attribute a m apos) [b] [] cpos) (Yy X.K "str" zY ta (cZ tb kZ))):XN K X (.Call (.Attribute a m apos) [b] [] cpos) (Yy X.K "str" zY ta (cZ tb kZ)) (f2 vM f g):=
 ⟨ha.hk,hp ha.pe hb.pe,λσ H e d Q re q k=>by
  obtain⟨x,y,q1,q2,q3⟩:=mU q
  unfold vM at q3
  split at q3
  ·cases q3
   refine ha.ev σ H H e _ _ (Zn.self K H) re q1 λv H1 Z1 s1 t1 z1 rx=>?_
   unfold Rv at rx
   subst rx
   refine⟨rfl,hb.ev σ H1 H1 e _ _ (Zn.self K H1) (re.same s1) q2 λv' H2 Z2 s2 t2 z2 ry=>?_⟩
   unfold Rv at ry
   subst ry
   exact⟨_,_,rfl,rfl,k _ H2 (s1.trans s2) (.dD rfl (by unfold Rv;rfl))⟩
  ·cases q3⟩
def Rr(i j:Int):Prop:=0<j∧j.natAbs.log2<9000
instance:∀i j,Decidable (Rr i j):=λi j=>by unfold Rr;exact inferInstance
end
def KH(x:Str):It:=⟨λi _=>i<x.cps.size,λi H v H'=>H'=H∧∃c,x.cps[i]?=some c∧v=.str ⟨#[c]⟩,λi _=>x.cps.size≤i⟩
section
variable{P:Program}{w:World}{K:aA}{tg:Expr}
theorem xZ{it:Addr}{ty:String}{x:Str}{t:Tok}(W:∀A:Around,A.handled=none→Walks P w A it [it] [it] x.cps.size (SignAt x) (λi h=>h.IsStrIter it ty x t i))
  (hn:["enumerate", "zip", "dict_itemiterator", "dict_reverseitemiterator", "odict_iterator", "itertools.zip_longest", "itertools.pairwise"].contains ty=false)
  (hd:∀(A:Around)(s:Shared)(i:Nat)(Q:Option Value→Shared→Prop)(E:Value→Shared→Prop),A.handled=none→s.heap.IsStrIter it ty x t i→x.cps[i]?=none→(∀h',Heap.ExtBut it s.heap h'→Q none {s with heap:=h'})→wpAny (model P w) A (pyNext (.ref it)) Q E s)
  (hs:∀(A:Around)(i:Nat)(s:Shared)(Q:Value→Shared→Prop)(E:Value→Shared→Prop),s.heap.IsStrIter it ty x t i→Q (.ref it) s→wpAny (model P w) A (pyIter (.ref it)) Q E s):Turn P w K tg (KH x) [it] it (λi h=>h.IsStrIter it ty x t i) where
 mem:=by simp
 obj:=λi h st b hb=>by
  have e:b=it:=by simpa using hb
  subst e
  obtain⟨o,e,c,d⟩:=st
  exact⟨o,e,λv z=>by rw[d]at z;cases z⟩
 keep:=λi h h' st k=>let ⟨o,ho,r⟩:=st;⟨o,k it (by simp) o ho,r⟩
 item:=by
  intro X hP hw hK hc i pins s σ H E I hf st hg
  subst hP hw hK
  obtain⟨f0,f1,f2,f3,f4,f5⟩:=hf it (by simp)
  refine(W X.A (I.ok.hd hc)).item i s _ _ hg st λv h' tk hv st' kk=>?_
  obtain⟨c,u,hx,rfl⟩:=hv
  have I1:Inv X pins σ H {s with heap:=h',toks:=tk}:=I.turned (λb o hb e=>kk b o (by simpa using hb) e) f0 f1 f3 f4 f5
  obtain⟨o,e,c',d⟩:=id st'
  exact⟨_,rfl,Qv (s:={s with heap:=h',toks:=tk}) e c' d hn ⟨.str ⟨#[c]⟩,H,I1,⟨u,rfl⟩,⟨rfl,c,hx,rfl⟩,st',λb hb=>(hf b hb).1⟩⟩
 done:=by
  intro X hP hw hK hc i pins s σ H E I hf st hg
  subst hP hw hK
  obtain⟨f0,f1,f2,f3,f4,f5⟩:=hf it (by simp)
  have hg:x.cps.size≤i:=hg
  exact hd X.A s i _ _ (I.ok.hd hc) st (by simp;omega) λh' eb=>⟨rfl,I.turned (t':=s.toks) (λb o hb e=>eb b o hb e) f0 f1 f3 f4 f5⟩
 self:=λA i s Q E st h=>hs A i s Q E st h
end
section
variable{K:aA}{X:Cx}{tg e l:Expr}{t tl:TE}{f:FE}
def BP(tl:TE):TI:=λσ H R=>tl σ H λx H1=>∃z,x=.str z∧R (KH z) H1
theorem Wb(hl:PE X l tl):PI X tg l (BP tl):=by
 intro pins s σ H R I h
 refine cV (hl pins s σ H _ I h) λv s1 ⟨x,H1,I1,r1,q1⟩=>?_
 obtain⟨z,e,q⟩:=q1
 subst e
 obtain⟨t,rfl⟩:=r1
 have fin:∀b,b∈[s1.heap.objs.size]→sJ X pins H1 b:=λb hb=>by
  have e:b=s1.heap.objs.size:=by simpa using hb
  subst e
  exact I1.Yo (C0 _) (I1.hok.fresh (C0 _))
 cases ha:z.cps.all (·<128)
 ·exact wpAny_pyIter_wide ha ⟨s1.heap.objs.size,[s1.heap.objs.size],_,_,H1,rfl,I1.kept (t':=s1.toks) λb o e=>Heap.get?_push_of_some _ e,xZ (t:=t) (λA hA=>Walks.strWide hA _ z t) (by decide) (λA s i Q E hh st hx hQ=>wpAny_pyNext_wide_end hh st hx hQ) (λA i s Q E st h=>wpAny_pyIter_striter_wide st h),⟨_,Heap.get?_push_size _ rfl,rfl,rfl⟩,fin,q⟩
 ·exact wpAny_pyIter_ascii ha ⟨s1.heap.objs.size,[s1.heap.objs.size],_,_,H1,rfl,I1.kept (t':=s1.toks) λb o e=>Heap.get?_push_of_some _ e,xZ (t:=t) (λA hA=>Walks.strAscii hA _ z t) (by decide) (λA s i Q E hh st hx hQ=>wpAny_pyNext_ascii_end hh st hx hQ) (λA i s Q E st h=>wpAny_pyIter_striter_ascii st h),⟨_,Heap.get?_push_size _ rfl,rfl,rfl⟩,fin,q⟩
def Wc(x:Str):List V:=x.cps.toList.map λc=>V.str ⟨#[c]⟩
def KJ(x:Str):List D:=x.cps.toList.map λc=>D.str ⟨#[c]⟩
theorem Ny{x:Str}:Zg (KH x) (λ_=>True) (Wc x):=λi H _=>by
 have hl:(Wc x).length=x.cps.size:=by unfold Wc;rw[D1,J7]
 refine⟨λh=>show i<x.cps.size by omega,λv H' ⟨e,c,hc,hv⟩=>⟨e,λh=>?_⟩,λh=>show x.cps.size≤i by omega⟩
 subst hv
 unfold Wc
 rw[C8,Array.getElem?_toList,hc]
 rfl
theorem Wd{H:Hp}(x:Str):bN K H (KJ x) (Wc x):=by
 unfold KJ Wc
 refine bN.of (by simp) λi d v h1 h2=>?_
 rw[C8]at h1 h2
 cases q:x.cps.toList[i]? with
 | none=>rw[q]at h1;cases h1
 | some j=>rw[q]at h1 h2;cases h1;cases h2;unfold Rv;rfl
def zZ(f:FE):FA:=λe=>(f e).bind λd=>match d with | .str z=>some (KJ z) | _=>none
theorem Hz(h:XR K X e t f):XI K X tg e (BP t) (zZ f):=⟨h.hk,Wb h.pe,λσ H Z e ds R z re q k=>by
 unfold zZ at q
 obtain⟨d,q1,q2⟩:=aQ q
 split at q2
 ·rename_i x
  cases q2
  refine h.ev σ H Z e _ _ z re q1 λv H1 Z1 s1 t1 z1 rv=>?_
  unfold Rv at rv
  subst rv
  exact⟨x,rfl,k _ H1 Z1 _ (Wc x) s1 t1 z1 Ny (λ_ _=>trivial) (Wd x)⟩
 ·cases q2⟩
end
end L2


namespace L2
open PySem PySem.Spec PySem.Calls PyProof.Rows PyProof.V
section
variable{K:aA}{X:Cx}{a b c e:Expr}{ta tb tc te t:TE}{f g fa fb fc:FE}{pos apos cpos:Pos}{m:Str}
end
end L2


namespace L2
open PySem PySem.Spec PySem.Calls PyProof.Rows PyProof.V
section
variable{K:aA}{B H H':Hp}{env:EN}{σ:St}{i j:Nat}{v:V}{d:D}
end
end L2


namespace L2
open PySem PySem.Spec PySem.Calls PyProof.Rows PyProof.V
abbrev sX(h:Heap)(l:List Env):Heap:=S5 h (frs l)
structure Fl(l:List Env)(s1:Shared)(e:Addr)(cls:Value)(s':Shared):Prop where
 vN:∃a0,Heap.FlyingW (sX s1.heap l) l e cls a0 s'.heap
 up:s1.heap.UpToSlots s'.heap
 os:s'.os=s1.os
 bare:AllBare s'.gens
def sY(P:Program)(w:World):zF:=λouter H s E ev s'=>∃e cls H' s1,ev=.ref e∧s1.os=s.os∧AllBare s1.gens∧Un (frs outer) [] H H' s.heap s1.heap∧jY P w H' s1.heap∧Fl outer s1 e cls s'∧E cls none H'
theorem oF{h:Heap}{l:List Env}{b:Addr}{o:Obj}(e:h.get? b=some o)(hb:b∉frs l):(sX h l).get? b=some o:=Q6 _ e hb
theorem oG{h:Heap}{l:List Env}{b:Addr}(hb:b∈frs l):(sX h l).get? b=none:=Q4 _ hb
theorem vO{h:Heap}{l:List Env}{b:Addr}{o:Obj}(e:(sX h l).get? b=some o):h.get? b=some o∧b∉frs l:=by
 refine⟨Q8 _ e,λhb=>?_⟩
 rw[oG hb]at e
 cases e
theorem uD{h:Heap}{l:List Env}{b:Addr}(e:(sX h l).get? b=none)(hb:b∉frs l):h.get? b=none:=by
 cases q:h.get? b with
 | none=>rfl
 | some o=>rw[oF q hb]at e;cases e
theorem nA{h base:Heap}:∀{l:List Env},h.FunFrames base l→∀b∈frs l,∃o,h.get? b=some o∧∀vs,o.data≠.fields vs
 | [],_,b,hb=>by cases hb
 | env::l,⟨_,⟨L,o,hf,_,ho,hd⟩,r⟩,b,hb=>by
  unfold frs at hb
  rw[G2,hf]at hb
  rcases G0.mp hb with z | z
  ·rw[z];exact⟨o,ho,hd⟩
  ·exact nA r b z
theorem rD{h base base':Heap}:∀{l:List Env},h.FunFrames base l→(∀b∈frs l,base'.get? b=none)→h.FunFrames base' l
 | [],_,_=>trivial
 | env::l,⟨h1,⟨L,o,hf,_,ho,hd⟩,r⟩,k=>by
  have e:frs (env::l)=L::frs l:=by unfold frs;rw[G2,hf]
  exact⟨h1,⟨L,o,hf,k L (by rw[e];exact C4),ho,hd⟩,rD r λb hb=>k b (by rw[e];exact B9 _ hb)⟩
section
variable{P:Program}{w:World}{l:List Env}{s1 s':Shared}{e:Addr}{cls:Value}{H:Hp}{base:Heap}
theorem Fl.keep(f:Fl l s1 e cls s'){b:Addr}{o:Obj}(q:s1.heap.get? b=some o)(hb:b∉frs l):s'.heap.get? b=some o:=by
 obtain⟨a0,x⟩:=f.vN
 exact x.1 b o (oF q hb)
theorem Fl.slot(f:Fl l s1 e cls s')(ff:s1.heap.FunFrames base l){b:Addr}{o:Obj}(q:s1.heap.get? b=some o)(hb:b∈frs l):∃sl,s'.heap.get? b=some {o with slots:=sl}:=by
 obtain⟨o',q',hd⟩:=nA ff b hb
 rw[q]at q'
 cases q'
 exact f.up b o q hd
theorem Fl.un(f:Fl l s1 e cls s')(ff:s1.heap.FunFrames base l):Un (frs l) [] H H s1.heap s'.heap where
 keep:=λb o q _ hb _=>f.keep q hb
 slot:=λb o q _ hb _=>f.slot ff q hb
 free:=λ_ _ _ n _=>n
 there:=λb o q _=>by
  by_cases hb:b∈frs l
  ·obtain⟨sl,z⟩:=f.slot ff q hb
   exact⟨_,z⟩
  ·exact⟨o,f.keep q hb⟩
 tups:=λ_ _ q=>q
 pC:=λ_ _ _ q=>q
 qC:=λb ps q=>⟨#[],by rw[q];simp⟩
theorem Fl.hok(f:Fl l s1 e cls s')(hok:jY P w H s1.heap)(hf:∀b∈frs l,H b=none):jY P w H s'.heap:=λb u eb=>
 (hok b u eb).stay (λc v hc q=>f.keep q λz=>by
  have hz:=hf c z
  rcases hc with hc | hc
  ·rw[hc,eb]at hz;cases hz
  ·rw[hc]at hz;cases hz) (λ_ q=>q) λ_ _ q=>q
end
section
variable{X:Cx}{pins:List (Addr×Obj)}{σ:St}{H:Hp}{s s1 s':Shared}{e:Addr}{cls ev:Value}{E:XK}
theorem Inv.landed(I:Inv X pins σ H s1)(f:Fl X.stack s1 e cls s'):Inv X pins σ H s':=
 I.call' (ch:=[]) f.os (f.un I.stack) (f.hok I.hok I.uM) f.bare λb z=>absurd z (by simp)
theorem Inv.ghost(I:Inv X pins σ H s)(c:sY X.prog X.w X.stack H s E ev s'):∃e cls H' s1,ev=.ref e∧Inv X pins σ H' s1∧Fl X.stack s1 e cls s'∧E cls none H':=by
 obtain⟨e,cls,H',s1,h1,h2,h3,h4,h5,h6,h7⟩:=c
 exact⟨e,cls,H',s1,h1,I.call' (ch:=[]) h2 h4 h5 h3 λb z=>absurd z (by simp),h6,h7⟩
end
section
variable{P:Program}{w:World}{env:Env}{outer:List Env}{L e:Addr}{cls a0:Value}{s0 s1:Shared}{H0 H:Hp}{E:XK}{base h':Heap}{s2:Shared}
theorem Nz(hf:env.frame=some L)(ff:s1.heap.FunFrames base (env::outer))(hL0:s0.heap.get? L=none)(hLH:H L=none)(WX:L∉frs outer)(un:Un (frs outer) [] H0 H s0.heap s1.heap)(hok:jY P w H s1.heap)(hos:s1.os=s0.os)(hg:AllBare s1.gens)
  (fl:Heap.FlyingW (sX s1.heap (env::outer)) outer e cls a0 h') (up:s1.heap.UpToSlots h') (os2:s2.os=s1.os) (BR:AllBare s2.gens) (hs2:s2.heap=h') (q:E cls none H):sY P w outer H0 s0 E (.ref e) s2:=by
 have ef:frs (env::outer)=L::frs outer:=by unfold frs;rw[G2,hf]
 obtain⟨oL,hoL,hdL⟩:=nA ff L (by rw[ef];exact C4)
 obtain⟨sl,hL'⟩:=up L oL hoL hdL
 obtain⟨k1,k2,k3,oe,vs,T,oT,ts,he,hc,hd,h1,hnT,hTe,hT,hdT,h3⟩:=fl
 have GD:∀{b:Addr} {o:Obj} {vs:Array Value},h'.get? b=some o→o.data=.fields vs→b≠L∧b∉frs outer:=λ{b o vs} q1 q2=>by
  refine⟨λz=>?_,λz=>?_⟩
  ·rw[z,hL']at q1
   cases q1
   exact hdL vs q2
  ·obtain⟨o',z1,z2⟩:=nA k3 b z
   rw[q1]at z1
   cases z1
   exact z2 vs q2
 have hself:(s1.heap.update L (λo=>{o with slots:=sl})).get? L=some {oL with slots:=sl}:=Heap.get?_update_self _ hoL ((PySem.W.kts_isFreed oL sl).trans (Heap.get?_some_iff.mp hoL).2)
 have hoth:∀b,b≠L→(s1.heap.update L (λo=>{o with slots:=sl})).get? b=s1.heap.get? b:=λb hb=>Heap.get?_update_other _ _ (Ne.symm hb)
 have fresh:∀{b:Addr} {o:Obj} {vs:Array Value},h'.get? b=some o→o.data=.fields vs→(sX s1.heap (env::outer)).get? b=none→(sX (s1.heap.update L (λo=>{o with slots:=sl})) outer).get? b=none:=λ{b o vs} q1 q2 q3=>by
  obtain⟨n1,n2⟩:=GD q1 q2
  have:=uD q3 (by rw[ef];exact λz=>(G0.mp z).elim n1 n2)
  cases q:(sX (s1.heap.update L (λo=>{o with slots:=sl})) outer).get? b with
  | none=>rfl
  | some o'=>
   have:=(vO q).1
   rw[hoth b n1]at this
   simp_all
 refine⟨e,cls,H,{s1 with heap:=s1.heap.update L (λo=>{o with slots:=sl})},rfl,hos,hg,?_,?_,⟨⟨a0,?_⟩,?_,os2,BR⟩,q⟩
 ·have old:∀{b:Addr} {o:Obj},s0.heap.get? b=some o→b≠L:=λ{b o} q z=>by rw[z,hL0]at q;cases q
  refine⟨λb o q n hb hx=>?_,λb o q n hb hx=>?_,un.free,λb o q hx=>?_,un.tups,un.pC,un.qC⟩
  ·show (s1.heap.update L _).get? b=_
   rw[hoth b (old q)];exact un.keep b o q n hb hx
  ·show ∃sl',(s1.heap.update L _).get? b=_
   rw[hoth b (old q)];exact un.slot b o q n hb hx
  ·show ∃o',(s1.heap.update L _).get? b=_
   rw[hoth b (old q)];exact un.there b o q hx
 ·intro b u eb
  refine(hok b u eb).stay (λc v hc q=>?_) (λ_ q=>q) λ_ _ q=>q
  have:c≠L:=λz=>by
   rcases hc with hc | hc
   ·rw[←hc,z,hLH]at eb;cases eb
   ·rw[z,hLH]at hc;cases hc
  show (s1.heap.update L _).get? c=_
  rw[hoth c this];exact q
 ·rw[hs2]
  refine⟨λb o q=>?_,fresh he hd k2,rD k3 λb hb=>oG hb,oe,vs,T,oT,ts,he,hc,hd,h1,fresh hT hdT hnT,hTe,hT,hdT,h3⟩
  obtain⟨q1,q2⟩:=vO q
  by_cases z:b=L
  ·subst z
   rw[hself]at q1
   cases q1
   exact hL'
  ·rw[hoth b z]at q1
   exact k1 b o (oF q1 (by rw[ef];exact λy=>(G0.mp y).elim z q2))
 ·rw[hs2]
  intro b o q hn
  by_cases z:b=L
  ·subst z
   have q:(s1.heap.update b _).get? b=some o:=q
   rw[hself]at q
   cases q
   exact⟨sl,hL'⟩
  ·have q:(s1.heap.update L _).get? b=some o:=q
   rw[hoth b z]at q
   exact up b o q hn
end
section
variable{P:Program}{w:World}{K:aA}{mg:Str→Option Value}{base:Heap}{N:List Str}{qual:Str}{scope:Scope}{f:Addr}{cd:Value}{A:Around}{outer:List Env}{s0:Shared}{H0:Hp}{E:XK}
theorem Ib{pins:List (Addr×Obj)}{σ:St}{H:Hp}{s:Shared}{CX:zF}(I:Inv (eX CX P w K mg base N qual scope f cd A outer s0 H0 E) pins σ H s) :
  s0.heap.get? s0.heap.objs.size=none∧H s0.heap.objs.size=none∧s0.heap.objs.size∉frs outer∧Un (frs outer) [] H0 H s0.heap s.heap∧jY P w H s.heap∧s.os=s0.os∧AllBare s.gens∧s.heap.FunFrames base (envOfC qual scope s0.heap.objs.size f cd::outer):=by
 refine⟨Heap.get?_none_of_le (C0 _),I.free,λz=>?_,I.base,I.hok,I.os,I.bare,I.stack⟩
 obtain⟨_,o,ho,_⟩:=I.ok.kY.mem z
 have:=Heap.lt_size ho
 exact absurd this (G4 _)
end
end L2


namespace L2
open PySem PySem.Spec PySem.Calls PyProof.Rows PyProof.V
abbrev GZ:=EN→Option Nat
def DZ(K:aA)(κ:Nat→Addr)(E:XK)(t:TS)(z:GZ):Prop:=∀(B:Hp)(D:Ends)(σ:St)(H:Hp)(env:EN)(i:Nat),Rel K B env σ H→z env=some i→(∀H',aD B H'→E (.ref (κ i)) none H')→t D σ H
structure YZ(K:aA)(κ:Nat→Addr)(X:Cx)(E:XK)(st:Stmt)(t:TS)(z:GZ):Prop where
 ps:PS X st t
 ev:DZ K κ E t z
structure Xy(K:aA)(κ:Nat→Addr)(X:Cx)(E:XK)(st:List Stmt)(t:TS)(z:GZ):Prop where
 ps:wU X st t
 ev:DZ K κ E t z
def Xz(K:aA)(κ:Nat→Addr)(n:Nat)(r:List D→Option Nat):Sp:=λvs H _ E=>∃ds i,ds.length=n∧bN K H ds vs∧r ds=some i∧∀H',aD H H'→E (.ref (κ i)) none H'
structure Oa(P:Program)(w:World)(K:aA)(mg:Str→Option Value)(base:Heap)(x:Str)(k:Nat)(n:Nat)(sp:Sp):Prop where
 ex:∃f fd ps,ps.length=n∧mL P w K mg base (sY P w) k f fd ps sp∧Binds K fd ps []∧G1 K (.ref f)=true∧mg x=some (.ref f)
structure QK(P:Program)(w:World)(K:aA)(mg:Str→Option Value)(base:Heap)(C:Addr)(m:Str)(k n:Nat)(df:Bool)(sp:Sp):Prop where
 ex:∃f fd ps,ps.length=n∧mL P w K mg base (sY P w) k f fd ps sp∧Binds K fd ps []∧(df=true→Binds K fd ps [Value.none])∧Meth K C m f
theorem Rel.sub{K:aA}{B H:Hp}{env:EN}{σ:St}(r:Rel K B env σ H):aD B H:=let ⟨_,_,b⟩:=r;b.trans (fQ _ _)
section
variable{K:aA}{κ:Nat→Addr}{X:Cx}{E:XK}{st:Stmt}{sts rest:List Stmt}{t u:TS}{z z1 z2:GZ}{g:GS}{c e o:Expr}{es:List Expr}{te ta:TE}{tA:TA}{tc:TT}{fc:FT}{f:FE}{fs:FA}{pos apos:Pos}{m:Str}
def QL:GZ:=λ_=>none
theorem We:Xy K κ X E sts qH QL:=⟨tG,λB D σ H env i r q k=>by cases q⟩
theorem uE(h:YZ K κ X E st t z):Xy K κ X E (st::rest) (Fq t qH) z:=⟨qG h.ps tG,λB D σ H env i r q k=>h.ev B _ σ H env i r q k⟩
def BV(f:FT)(z1 z2:GZ):GZ:=λenv=>match f (rE env)with
 | some true=>z1 env
 | some false=>z2 env
 | none=>none
theorem BW{s1 s2:List Stmt}(hc:XT K X c tc fc)(h1:Xy K κ X E s1 t z1)(h2:Xy K κ X E s2 u z2):YZ K κ X E (.If c s1 s2 pos) (Tp tc t u) (BV fc z1 z2):=⟨Qq hc.pt h1.ps h2.ps,λB D σ H env i r q k=>by
 unfold BV at q
 split at q
 ·rename_i q1
  refine hc.ev σ H (rE env) true _ r.r q1 λH' s=>?_
  rw[if_pos rfl]
  exact h1.ev B D σ H' env i (r.same s) q k
 ·rename_i q1
  refine hc.ev σ H (rE env) false _ r.r q1 λH' s=>?_
  rw[if_neg (by decide)]
  exact h2.ev B D σ H' env i (r.same s) q k
 ·cases q⟩
def Ie(r:List D→Option Nat)(fs:FA):DE→Option Nat:=λe=>(fs e).bind r
def QM(X:Cx)(pins:List (Addr×Obj))(σ:St)(e:Expr)(t:TE):Prop:=∀(s:Shared)(H:Hp)(Q:VK),Inv X pins σ H s→t σ H Q→wpAny (model X.prog X.w) X.A (eval e X.env) (EP X pins σ Q) X.xe s
def QQ(X:Cx)(pins:List (Addr×Obj))(σ:St)(st:Stmt)(t:TS):Prop:=∀(s:Shared)(H:Hp)(D:Ends),Inv X pins σ H s→t D σ H→wpAny (model X.prog X.w) X.A (exec st X.env) (SP X pins D) X.xe s
def Ih(CX:zF)(X:Cx)(pins:List (Addr×Obj))(σ:St)(E:XK):Prop:=∀(H:Hp)(s:Shared)(e:Value)(s':Shared),Inv X pins σ H s→CX X.stack H s E e s'→X.xe e s'
theorem Ob{CX:zF}{k:Nat}{f:Addr}{fd:FuncData}{ps:List Str}{sp:Sp}{Dg:List V}{ds:List Value}{pins:List (Addr×Obj)}{σ:St}{H:Hp}{s:Shared}{Q:VK}{us:List Value}{vs:List V}(F:mL X.prog X.w X.K X.mg X.base CX k f fd ps sp)(hr:eN k X.A)(hb:Binds X.K fd ps ds)(hd:Vals Dg ds)(hx:Ih CX X pins σ E)
  (I:Inv X pins σ H s) (r:Vals vs us) (h:sp (vs++Dg) H Q E):wpAny (model X.prog X.w) X.A (call (.ref f) us) (EP X pins σ Q) X.xe s:=by
 have r2:Vals (vs++Dg) (us++ds):=r.append hd
 have hl:(us++ds).length=ps.length:=by rw[←r2.length];exact F.len _ _ _ _ h
 refine wpAny_call (codeAny_mono (F.run X.A X.stack s H ⟨us,[]⟩ (us++ds) (vs++Dg) Q E hr I.env0 (hb s us I.lZ hl) r2 h) λr s' hq=>?_)
 cases r with
 | error e=>exact hx H s e s' I hq
 | ok fl=>
  cases fl with
  | ret u=>exact I.after hq
  | next=>exact False.elim hq
  | brk=>exact False.elim hq
  | cont=>exact False.elim hq
structure QR(K:aA)(κ:Nat→Addr)(X:Cx)(E:XK)(e:Expr)(t:TE)(z:DE→Option Nat):Prop where
 pe:∀(pins:List (Addr×Obj))(σ:St),Ih (sY X.prog X.w) X pins σ E→QM X pins σ e t
 ev:∀(σ:St)(H:Hp)(de:DE)(i:Nat)(Q:VK),lM K H de σ→z de=some i→(∀H',aD H H'→E (.ref (κ i)) none H')→t σ H Q
theorem Oc{x:Str}{k n:Nat}{r:List D→Option Nat}{p:Pos}(C:Oa X.prog X.w X.K X.mg X.base x k n (Xz K κ n r))(hl:∀ds i,r ds=some i→ds.length=n)(hr:eN k X.A)(hg:Gl X x)(ha:XA K X (e::es) tA fs)(hdb:(x==("__debug__" : Str))=false:=by decide)
  (he:starEach (e::es) X.env=(false,eval e X.env)::starEach es X.env:=by rfl) (hpl:(backTo pos (starEach es X.env)).any (·.1)=false:=by rfl):QR K κ X E (.Call (.Name x p) (e::es) [] pos) (tK (Xz K κ n r) [] E tA) (Ie r fs):=by
 have hk:=ha.hk
 subst hk
 obtain⟨f,fd,ps,_,F,hb,hk,hm⟩:=C.ex
 refine⟨λpins σ hx s H Q I h=>?_,λσ H de i Q re q k=>?_⟩
 ·refine wpAny_Call_Name_kw (jZ I hg hm ?_ hdb)
  refine R3 (h₀:=X.base) I.ok.mod.Yg hk (cV (ha.pa pos pins s σ H _ I h) λus s1 ⟨vs,H1,I1,r,q⟩=>⟨I1.lZ,?_⟩) he hpl
  exact Ob F hr hb .nil hx I1 r q
 obtain⟨ds,q1,q2⟩:=aQ q
 refine call_of (ha.ev σ H H de ds _ (Zn.self _ H) re q1 λvs H1 Z1 s1 t1 z1 rs=>?_)
 exact⟨ds,i,hl ds i q2,z1.sm.Gs _ _ rs,q2,λH' s'=>k H' (s1.trans s')⟩
def zX(z:DE→Option Nat):GZ:=λenv=>z (rE env)
end
def Ru(n m:Nat)(z:GZ):List D→Option Nat:=λds=>if ds.length=m then z (ds.map SD.fro++D3 (n-m) SD.no)else none
theorem Od{n m:Nat}{z:GZ}(ds:List D)(i:Nat)(h:Ru n m z ds=some i):ds.length=m:=by
 unfold Ru at h
 split at h
 ·assumption
 ·cases h
section
variable{P:Program}{w:World}{K:aA}{mg:Str→Option Value}{base:Heap}{κ:Nat→Addr}
theorem BX{X:Cx}{N ps:List Str}{z:GZ}{body:List Stmt}{t:TS}{vs:List V}{H:Hp}{Q:VK}{E:XK}(yb:Xy K κ X E body t z)(h:Xz K κ ps.length (Ru N.length ps.length z) vs H Q E):t {nx:=λ_ H'=>Q .non H',rt:=Q} (start N vs) H:=by
 obtain⟨ds,i,h1,h2,h3,kk⟩:=h
 unfold Ru at h3
 rw[if_pos h1]at h3
 refine yb.ev H _ _ H _ i ?_ h3 kk
 have hl:vs.length=ps.length:=by rw[h2.length];exact h1
 have:=oE (k:=N.length-ps.length) h2
 unfold start
 rw[hl]
 exact this
end
section
variable{K:aA}{κ:Nat→Addr}{X:Cx}{E:XK}{z:GZ}{g:GS}{pos:Pos}
end
end L2


namespace L2
open PySem PySem.Spec PySem.Calls PyProof.Rows PyProof.V
abbrev gO:List Value:=[.type "ValueError", .type "Exception", .type "BaseException", .type "object"]
structure iZ(K:aA)(mg:Str→Option Value)(x:Str)(C:Addr):Prop where
 mg:mg x=some (.ref C)
 ok:D9 K C gO "ValueError.__new__" = true
theorem iZ.own{K:aA}{mg:Str→Option Value}{x:Str}{C:Addr}{h₀:Heap}(F:iZ K mg x C)(X:K.In h₀):OwnCls x C gO "ValueError.__new__" mg h₀:=by
 refine⟨F.mg,?_⟩
 have q:=F.ok
 unfold D9 at q
 split at q
 ·rename_i dd cd sl ho
  split at q
  ·rename_i C' bm k0 k1 k2 k3 n k5 hm hs
   simp only[C1,beq_iff_eq,J1]at q
   obtain⟨⟨⟨⟨⟨rfl,rfl⟩,hdel⟩,ht⟩,hok⟩,hni⟩:=q
   obtain⟨nm,bs,mro,ns,qn,hd,sn,sub,ab,col,del⟩:=cd
   dsimp only at hm hdel hok hni
   subst hm hdel
   have hsl:sl=#[k0,k1,k2,k3,some (.builtin "ValueError.__new__"),k5]:=by
    obtain⟨l⟩:=sl
    simp only at hs
    rw[hs]
   subst hsl
   exact⟨bm,ns,nm,qn,bs,hd,sn,sub,ab,col,dd,k0,k1,k2,k3,k5,_,X _ _ ho,.of_isNs (PySem.W.isNs_of_in X hok),PySem.W.nsMap_none_of_in X hok hni,PySem.W.tail_of_in X ht⟩
  ·cases q
 ·cases q
section
variable{P:Program}{w:World}{K:aA}{mg:Str→Option Value}{base:Heap}{N:List Str}{qual:Str}{scope:Scope}{f:Addr}{cd:Value}{A:Around}{outer:List Env}{s0:Shared}{H0:Hp}{E:XK}{κ:Nat→Addr}
 {x:Str} {C:Addr} {np cpos pos:Pos} {e:Expr} {es:List Expr} {tA:TA}
def QS(E:XK)(C:Addr)(t:TA):TS:=λ_ σ H=>t σ H λvs H1=>vs.length≤sizeLine∧E (.ref C) none H1
theorem Ii(F:iZ K mg x C)(hg:Gl (eX (sY P w) P w K mg base N qual scope f cd A outer s0 H0 E) x)(ha:PA (eX (sY P w) P w K mg base N qual scope f cd A outer s0 H0 E) (e::es) tA)(hd:(x==("__debug__" : Str))=false:=by decide)
  (he:starEach (e::es) (eX (sY P w) P w K mg base N qual scope f cd A outer s0 H0 E).env=(false,eval e (eX (sY P w) P w K mg base N qual scope f cd A outer s0 H0 E).env)::starEach es (eX (sY P w) P w K mg base N qual scope f cd A outer s0 H0 E).env:=by rfl)
  (hpl:(backTo cpos (starEach es (eX (sY P w) P w K mg base N qual scope f cd A outer s0 H0 E).env)).any (·.1)=false:=by rfl) :
  PS (eX (sY P w) P w K mg base N qual scope f cd A outer s0 H0 E) (.Raise (some (.Call (.Name x np) (e::es) [] cpos)) none pos) (QS E C tA):=by
 intro pins s σ H D I h
 obtain⟨tl,Nn,nm,q,bs,hdct,sn,sub,ab,col,dd,k0,k1,k2,k3,k5,mN,hC,hN,hni,T⟩:=(F.own I.mod.Yg).obj
 have hA:=ha cpos pins s σ H _ I h
 refine wpAny_Raise_call_subU (C:=C) (nm:=nm) (q:=q) (N:=Nn) (bs:=bs) (bm:=tl) (hdct:=hdct) (sn:=sn) (sub:=sub) (ab:=ab) (col:=col) (dd:=dd) (k0:=k0) (k1:=k1) (k2:=k2) (k3:=k3) (k5:=k5)
  K4 rfl K4 (mN:=mN) (T.hasType K4.hasBase) (I.ok.hd rfl) (by rw[he];show (false||(backTo cpos (starEach es _)).any (·.1))=false;rw[hpl];rfl) hni (jZ I hg F.mg ⟨rfl,?_⟩ hd)
 rw[he]at hA ⊢
 refine Calls.evalArgs_plain (cV hA λus s1 ⟨vs,H1,I1,r,hl,q⟩=>⟨rfl,by show us.length≤sizeLine;rw[←r.length];exact hl,I1.bk _ _ hC,hN.keeps I1.bk,T.keeps I1.bk,λh' ee hx=>?_⟩)
 obtain⟨a1,a2,a3,a4,a5,a6,a7,a8⟩:=Ib I1
 refine wpAny_leaves_madeW (base:=sX s1.heap (envOfC qual scope s0.heap.objs.size f cd::outer)) (h:=s1.heap) I1.ok.frames rfl (λb o q=>(vO q).1) (rD a8 λb hb=>oG hb) hx λh'' t fl _ _ up=>?_
 exact Nz rfl a8 a1 a2 a3 a4 a5 a6 a7 fl ((Heap.UpToSlots.of_keeps hx.keeps).trans up) rfl I1.bare rfl q
def QT(i:Nat)(fs:FA):GZ:=λenv=>(fs (rE env)).bind λds=>if ds.length≤100 then some i else none
theorem Ij{i:Nat}{fs:FA}(F:iZ K mg x (κ i))(hg:Gl (eX (sY P w) P w K mg base N qual scope f cd A outer s0 H0 E) x)(ha:XA K (eX (sY P w) P w K mg base N qual scope f cd A outer s0 H0 E) (e::es) tA fs)(hd:(x==("__debug__" : Str))=false:=by decide)
  (he:starEach (e::es) (eX (sY P w) P w K mg base N qual scope f cd A outer s0 H0 E).env=(false,eval e (eX (sY P w) P w K mg base N qual scope f cd A outer s0 H0 E).env)::starEach es (eX (sY P w) P w K mg base N qual scope f cd A outer s0 H0 E).env:=by rfl)
  (hpl:(backTo cpos (starEach es (eX (sY P w) P w K mg base N qual scope f cd A outer s0 H0 E).env)).any (·.1)=false:=by rfl) :
  YZ K κ (eX (sY P w) P w K mg base N qual scope f cd A outer s0 H0 E) E (.Raise (some (.Call (.Name x np) (e::es) [] cpos)) none pos) (QS E (κ i) tA) (QT i fs):=⟨Ii F hg ha.pa hd he hpl,λB D σ H env j r q k=>by
 obtain⟨ds,q1,q2⟩:=aQ q
 split at q2
 ·rename_i hl
  cases q2
  exact ha.ev σ H H (rE env) ds _ (Zn.self _ H) r.r q1 λvs H1 Z1 s1 t1 z1 rs=>⟨iV (by rw[rs.length];omega),k H1 (r.sub.trans s1)⟩
 ·cases q2⟩
end
abbrev Cx.tr(X:Cx)(pn:List (Addr×Obj))(Ex:Value→Shared→Prop):Cx:={X with pn:=pn,xe:=Ex}
abbrev Cx.hand(X:Cx)(pn:List (Addr×Obj))(e:Addr):Cx:={X with pn:=pn,A:=X.A.mark (some (.ref e)),calm:=false,xe:=λ_ _=>False}
section
variable{X:Cx}{pins qD pn:List (Addr×Obj)}{σ:St}{H:Hp}{s s':Shared}{Ex:Value→Shared→Prop}{e:Addr}{D:Ends}{fl:Flow}
theorem Inv.tr(I:Inv X pins σ H s)(Ex:Value→Shared→Prop):Inv (X.tr (X.pn++pins) Ex) [] σ H s:=
 ⟨⟨I.ok.mod,I.ok.kind,I.ok.glob,I.ok.blt,I.ok.above,I.ok.inj,I.ok.has,I.ok.cab,I.ok.hd,I.ok.frames,I.ok.Qm,I.ok.Xq,I.ok.bs,I.ok.Ez,I.ok.uK,I.ok.wR,I.ok.kY,I.ok.Kq⟩,I.os,I.bare,I.base,I.loc,I.cell,I.free,I.fH,λp hp=>I.pin p (by simpa using hp),I.hok,I.len⟩
theorem Inv.nC(I:Inv (X.tr (X.pn++pins) Ex) qD σ H s):Inv X pins σ H s:=
 ⟨⟨I.ok.mod,I.ok.kind,I.ok.glob,I.ok.blt,I.ok.above,I.ok.inj,I.ok.has,I.ok.cab,I.ok.hd,I.ok.frames,I.ok.Qm,I.ok.Xq,I.ok.bs,I.ok.Ez,I.ok.uK,I.ok.wR,I.ok.kY,I.ok.Kq⟩,I.os,I.bare,I.base,I.loc,I.cell,I.free,I.fH,λp hp=>I.pin p (F2 _ hp),I.hok,I.len⟩
theorem Inv.hand(I:Inv X pins σ H s)(e:Addr):Inv (X.hand (X.pn++pins) e) [] σ H s:=
 ⟨⟨I.ok.mod,I.ok.kind,I.ok.glob,I.ok.blt,I.ok.above,I.ok.inj,I.ok.has,I.ok.cab,λz=>(by cases z),I.ok.frames,I.ok.Qm,I.ok.Xq,I.ok.bs,I.ok.Ez,I.ok.uK,I.ok.wR,I.ok.kY,I.ok.Kq⟩,I.os,I.bare,I.base,I.loc,I.cell,I.free,I.fH,λp hp=>I.pin p (by simpa using hp),I.hok,I.len⟩
theorem Inv.lR(hd:X.calm=true→X.A.handled=none)(I:Inv (X.hand (X.pn++pins) e) qD σ H s):Inv X pins σ H s:=
 ⟨⟨I.ok.mod,I.ok.kind,I.ok.glob,I.ok.blt,I.ok.above,I.ok.inj,I.ok.has,I.ok.cab,hd,I.ok.frames,I.ok.Qm,I.ok.Xq,I.ok.bs,I.ok.Ez,I.ok.uK,I.ok.wR,I.ok.kY,I.ok.Kq⟩,I.os,I.bare,I.base,I.loc,I.cell,I.free,I.fH,λp hp=>I.pin p (F2 _ hp),I.hok,I.len⟩
theorem SP.nC(h:SP (X.tr (X.pn++pins) Ex) qD D fl s'):SP X pins D fl s':=by
 cases fl with
 | next=>obtain⟨σ',H',I,q⟩:=h;exact⟨σ',H',I.nC,q⟩
 | brk=>obtain⟨σ',H',I,q⟩:=h;exact⟨σ',H',I.nC,q⟩
 | cont=>obtain⟨σ',H',I,q⟩:=h;exact⟨σ',H',I.nC,q⟩
 | ret u=>obtain⟨v,σ',H',I,r,q⟩:=h;exact⟨v,σ',H',I.nC,r,q⟩
theorem SP.lR(hd:X.calm=true→X.A.handled=none)(h:SP (X.hand (X.pn++pins) e) qD D fl s'):SP X pins D fl s':=by
 cases fl with
 | next=>obtain⟨σ',H',I,q⟩:=h;exact⟨σ',H',I.lR hd,q⟩
 | brk=>obtain⟨σ',H',I,q⟩:=h;exact⟨σ',H',I.lR hd,q⟩
 | cont=>obtain⟨σ',H',I,q⟩:=h;exact⟨σ',H',I.lR hd,q⟩
 | ret u=>obtain⟨v,σ',H',I,r,q⟩:=h;exact⟨v,σ',H',I.lR hd,r,q⟩
end
abbrev vP:=Nat→Nat→Bool
def lH(sub:vP)(n nj:Nat):List (Nat×GS)→Nat→GS
 | [],_=>λ_=>.bad
 | (j,g)::r,i=>if i<n∧j<nj then(if sub i j=true then g else lH sub n nj r i)else λ_=>.bad
def sZ(z:GZ)(g:GS)(sub:vP)(n nj:Nat)(hs:Nat→List (Nat×GS)):GS:=λenv=>match z env with
 | none=>g env
 | some i=>lH sub n nj (hs i) i env
section
variable{K:aA}{κ:Nat→Addr}{X:Cx}{sub:vP}{n nj:Nat}{z:GZ}{g:GS}{st:Stmt}{pos:Pos}
theorem Rel.no{B H:Hp}{σ:St}{env:EN}{k:Nat}(h:Rel K B env σ H)(hk:k<env.length)(y:Option V):Rel K B (env.set k .no) (σ.set k y) H:=by
 obtain⟨A,a,b⟩:=h
 obtain⟨y0,A1,C,h1,h2,h3,h4,kk⟩:=a.focus (B3 hk)
 have g:aD (out H A) (out H (gK nil C)):=cJ (aD.refl _) λx q=>.inl ((h3 x).mpr (.inr (q.elim False.elim id)))
 exact⟨gK nil C,kk (dO K H (out H (gK nil C))) (λe D z _ q=>q.same (aD.refl _) g) .no y nil (λx q=>q.elim) (λ_ z=>z),b.trans g⟩
def Yb(k:Nat)(g:GS):GS:=λenv=>if k<env.length then(match g (env.set k .no)with
 | .next env'=>if k<env'.length then .next (env'.set k .no)else .bad
 | _=>.bad)else .bad
structure YE(K:aA)(X:Cx)(k:Nat)(e:Addr)(sts:List Stmt)(t:TS)(g:GS):Prop where
 ps:wU X sts t
 ev:∀(B:Hp)(D:Ends)(σ:St)(H:Hp)(env:EN),Rel K B env σ H→σ[k]?=some (some (.ref e))→sW K B D (g env)→t D σ H
theorem Eb{M:Model}{A:Around}{E:Value→Shared→Prop}{pins:List (Addr×Obj)}{σ:St}{H:Hp}{s:Shared}{k:Nat}{nm:Str}{hp:Pos}{Q:Unit→Shared→Prop}(I:Inv X pins σ H s)(hN:X.N.Nodup)(hi:X.N[k]?=some nm)(hl:X.env.scope.names.lookup nm=some .local)
  (h:∀s',Inv X pins (σ.set k none) H s'→Q () s'):wpAny M A (do bindName X.env nm .none;unbindBehindTheSuite X.env nm hp) Q E s:=by
 obtain⟨m,hn,hlk⟩:=id I.loc
 have hcls:(X.env.scope.kind==.class||(X.env.scope.kind==.module&&X.env.locals != X.env.globals))=false:=by rw[I.ok.kind];rfl
 have GF:k<σ.length:=by rw[I.len];exact(B6.mp hi).1
 have Ff:=I.Ff
 refine wpAny_nameGoes_keeps hl hn hcls λh' v hn' hs=>?_
 refine h _ ⟨I.ok,I.os,I.bare,⟨λb o e n hb hx=>?_,λb o e n hb hx=>?_,I.base.free,λb o e hx=>?_,I.base.tups,I.base.pC,I.base.qC⟩,⟨_,hn',λj y v' e1 e2 e3=>?_⟩,λy c e=>?_,I.free,I.fH,λp hp=>?_,λb ob e=>?_,by simpa using I.len⟩
 ·exact(hs.2 b (C3 (B4 (Heap.lt_size e) I.ok.above))).trans (I.base.keep b o e n hb hx)
 ·obtain⟨sl,e1⟩:=I.base.slot b o e n hb hx
  exact⟨sl,(hs.2 b (C3 (B4 (Heap.lt_size e) I.ok.above))).trans e1⟩
 ·obtain⟨o',e1⟩:=I.base.there b o e hx
  exact⟨o',(hs.2 b (C3 (B4 (Heap.lt_size e) I.ok.above))).trans e1⟩
 ·by_cases hj:j=k
  ·subst hj
   rw[J9 GF]at e2
   cases e2
  ·rw[K1 (Ne.symm hj)]at e2
   obtain⟨u',r',q⟩:=hlk j y v' e1 e2 e3
   refine⟨u',r',?_⟩
   rcases q with ⟨kk,e⟩ | ⟨kk,c,e,z⟩
   ·refine .inl ⟨kk,?_⟩
    have:y≠nm:=λe=>hj (qF hN e1 (e▸hi))
    simp[this,e]
   ·exact .inr ⟨kk,c,e,z.sameBut hs (Ff y c e)⟩
 ·obtain⟨w',z⟩:=I.cell y c e
  exact⟨w',z.sameBut hs (Ff y c e)⟩
 ·obtain⟨e,n,ne,nf,d⟩:=I.pin p hp
  exact⟨(hs.2 p.1 ne).trans e,n,ne,nf,d⟩
 ·refine(I.hok b ob e).stay (λc w' hc q=>(hs.2 c ?_).trans q) (λ_ q=>q) λ_ _ q=>q
  rintro rfl
  have hfree:=I.free
  rcases hc with hc | hc
  ·rw[←hc,hfree]at e;cases e
  ·rw[hfree]at hc;cases hc
theorem BZ{P:Program}{w:World}{H:Hp}{h:Heap}{a:Addr}{o:HO}(x:cG P w H h a o):∃u,h.get? a=some u:=by
 cases o with
 | lst xs=>obtain⟨_,_,_,_,e⟩:=x;exact⟨_,e⟩
 | tup xs=>obtain⟨_,_,_,p⟩:=x;obtain⟨o,h1,_⟩:=p;exact⟨_,h1⟩
 | dK kvs=>obtain⟨_,_,_,_,o,_,_,e,_⟩:=x;exact⟨_,e⟩
 | dT kvs=>obtain⟨_,_,_,_,o,_,_,e,_⟩:=x;exact⟨_,e⟩
 | set S n=>obtain⟨o,_,_,_,e,_⟩:=x;exact⟨_,e⟩
 | ins C dx fs=>obtain⟨_,_,_,e,_⟩:=x;exact⟨_,e⟩
 | own y=>exact x
 | xd fs=>obtain⟨_,⟨_,_,_,e,_⟩,_⟩:=x;exact⟨_,e⟩
 | rng lo hi=>obtain⟨_,_,_,e⟩:=x;exact⟨_,e⟩
 | nR ob u=>obtain⟨e,_⟩:=x;exact⟨_,e⟩
 | tbl ps=>exact⟨_,(show h.get? a=some _ from x)⟩
 | met f y=>exact⟨_,(show h.get? a=some _ from x)⟩
 | ext φ=>obtain⟨_,e,_⟩:=x;exact e
theorem Fl.e{P:Program}{w:World}{H:Hp}{l:List Env}{s1 s':Shared}{e:Addr}{cls:Value}(f:Fl l s1 e cls s')(hok:jY P w H s1.heap):∃oe,s'.heap.get? e=some oe∧oe.cls=cls∧H e=none∧e∉frs l∧∀v,oe.data≠.cell v:=by
 obtain⟨a0,k1,k2,k3,oe,vs,T,oT,ts,he,hc,hd,_⟩:=f.vN
 have hn:e∉frs l:=λz=>by
  obtain⟨o',z1,z2⟩:=nA k3 e z
  rw[he]at z1
  cases z1
  exact z2 vs hd
 refine⟨oe,he,hc.1,?_,hn,λv z=>by rw[hd]at z;cases z⟩
 cases q:H e with
 | none=>rfl
 | some u=>
  obtain⟨o,q1⟩:=BZ (hok e u q)
  rw[uD k2 hn]at q1
  cases q1
inductive HK(K:aA)(κ:Nat→Addr)(X:Cx)(n i:Nat):List ExceptHandler→List (Nat×GS)→Prop
 | nil:HK K κ X n i [] []
 | cons {x:Str} {np hp:Pos} {b₀:Stmt} {suite:List Stmt} {rest:List ExceptHandler} {j:Nat} {gh:GS} {r:List (Nat×GS)} (hm:X.mg x=some (.ref (κ j))) (hg:Gl X x) (hd:(x==("__debug__" : Str))=false)
   (hs:∀(pn:List (Addr×Obj))(e:Addr),∃t,YB K (X.hand pn e) (b₀::suite) t gh) (hr:HK K κ X n i rest r):HK K κ X n i (.ExceptHandler (some (.Name x np)) none (b₀::suite) hp::rest) ((j,gh)::r)
 | as {x nm:Str} {np hp:Pos} {b₀:Stmt} {suite:List Stmt} {rest:List ExceptHandler} {j k:Nat} {gh:GS} {r:List (Nat×GS)} (hm:X.mg x=some (.ref (κ j))) (hg:Gl X x) (hd:(x==("__debug__" : Str))=false) (hN:X.N.Nodup) (hk:X.N[k]?=some nm) (hl:X.env.scope.names.lookup nm=some .local)
   (hs:∀(pn:List (Addr×Obj))(e:Addr)(oe:Obj),i<n→oe.cls=.ref (κ i)→(e,oe)∈pn→∃t,YE K (X.hand pn e) k e (b₀::suite) t gh) (hr:HK K κ X n i rest r):HK K κ X n i (.ExceptHandler (some (.Name x np)) (some nm) (b₀::suite) hp::rest) ((j,Yb k gh)::r)
theorem Fl.ty{M:Model}{l:List Env}{s1 s':Shared}{e:Addr}{cls:Value}(f:Fl l s1 e cls s'):F5 M s'.heap (typeOf (.ref e)) cls:=by
 obtain⟨a0,x⟩:=f.vN
 obtain⟨ob,h1,h2⟩:=x.there
 subst h2
 exact(O4 h1).andThen .now
theorem Ec(XM:∀i j,i<n→j<nj→B0 K (.ref (κ i)) (.ref (κ j))=some (sub i j))(hk:X.K=K)(hst:X.stack=X.env::X.outer)(hfr:X.env.frame=some X.env.locals){pins:List (Addr×Obj)}{σ:St}{H B:Hp}{s1:Shared}{e:Addr}{i:Nat}{D:Ends}{env:EN}
  (r:Rel K B env σ H) (I:Inv X pins σ H s1) {hs:List ExceptHandler} {gs:List (Nat×GS)} (h:HK K κ X n i hs gs):∀(s':Shared),Fl X.stack s1 e (.ref (κ i)) s'→sW K B D (lH sub n nj gs i env)→wpAny (model X.prog X.w) X.A (handleBy (.ref e) X.env hs) (SP X pins D) X.xe s':=by
 subst hk
 induction h with
 | nil=>intro s' f p;unfold lH at p;exact p.elim
 | @cons x np hp b₀ suite rest j gh rr hm hg hd hs hr ih=>
  intro s' f p
  unfold lH at p
  split at p
  ·rename_i hij
   have I':=I.landed f
   refine wpAny_handleBy_cons (codeAny_handlers_test ?_) (by intro q;cases q)
   have J:=I'.hand e
   refine jZ (X:=X.hand (X.pn++pins) e) (u:=.ref (κ j)) J hg hm ?_ hd
   have xm:=XM i j hij.1 hij.2
   cases hb:sub i j with
   | true=>
    rw[hb]at xm
    rw[hb,if_pos rfl]at p
    refine(M6 (M:=model X.prog X.w) I'.lZ f.ty xm).here ?_
    show codeAny _ _ _ _ _
    refine codeAny_handlers_suite ?_
    obtain⟨a0,vN⟩:=f.vN
    refine wpAny_setFlight_noneW vN.1 vN.2.2.1 vN.2.2.2.at λh' k1 k2 k3 k4=>?_
    have f':Fl X.stack s1 e (.ref (κ i)) {s' with heap:=h'}:=⟨⟨a0,k1,vN.2.1,k2,k3⟩,f.up.trans λb o hb hn=>⟨o.slots,k4 b o hb hn⟩,f.os,f.bare⟩
    have J2:=(I.landed f').hand e
    obtain⟨t,yb⟩:=hs (X.pn++pins) e
    exact wpAny_mono (yb.ps [] _ σ H D J2 (yb.ev B D σ H env r p)) (λfl s2 q=>q.lR I.ok.hd) λ_ _ z=>z.elim
   | false=>
    rw[hb]at xm
    rw[hb,if_neg B8]at p
    refine(M6 (M:=model X.prog X.w) I'.lZ f.ty xm).here ?_
    exact ih s' f p
  ·exact p.elim
 | @as x nm np hp b₀ suite rest j k gh rr hm hg hd hN hkk hl hs hr ih=>
  intro s' f p
  unfold lH at p
  split at p
  ·rename_i hij
   have I':=I.landed f
   refine wpAny_handleBy_cons (codeAny_handlers_test ?_) (by intro q;cases q)
   have J:=I'.hand e
   refine jZ (X:=X.hand (X.pn++pins) e) (u:=.ref (κ j)) J hg hm ?_ hd
   have xm:=XM i j hij.1 hij.2
   cases hb:sub i j with
   | true=>
    rw[hb]at xm
    rw[hb,if_pos rfl]at p
    refine(M6 (M:=model X.prog X.w) I'.lZ f.ty xm).here ?_
    show codeAny _ _ _ _ _
    refine codeAny_handlers_suite_as ?_
    obtain⟨a0,vN⟩:=f.vN
    refine wpAny_setFlight_noneW vN.1 vN.2.2.1 vN.2.2.2.at λh' k1 k2 k3 k4=>?_
    have f':Fl X.stack s1 e (.ref (κ i)) {s' with heap:=h'}:=⟨⟨a0,k1,vN.2.1,k2,k3⟩,f.up.trans λb o hb hn=>⟨o.slots,k4 b o hb hn⟩,f.os,f.bare⟩
    have I2:=I.landed f'
    obtain⟨oe,x1,x2,x3,x4,x5⟩:=f'.e I.hok
    have ef:frs X.stack=X.env.locals::X.fs:=by rw[hst];show T3 _ (X.env::X.outer)=X.env.locals::T3 _ X.outer;rw[G2,hfr]
    rw[ef]at x4
    have I3:Inv X (pins++[(e,oe)]) σ H {s' with heap:=h'}:=I2.pJ λp hp=>by
     rcases P0.mp hp with z | z
     ·exact I2.pin p (B7 _ z)
     ·rw[F9.mp z]
      exact⟨x1,x3,λz=>x4 (by have z:e=X.env.locals:=z;rw[z];exact C4),λz=>x4 (B9 _ z),x5⟩
    have J2:=I3.hand e
    obtain⟨t,UG,UJ⟩:=hs (X.pn++(pins++[(e,oe)])) e oe hij.1 x2 (B7 _ (B7 _ C4))
    unfold Yb at p
    split at p
    case isFalse=>exact p.elim
    rename_i hke
    refine mC (X:=X.hand (X.pn++(pins++[(e,oe)])) e) (v:=.ref e) J2 hN hkk (.inl hl) rfl (λs2 J3=>?_) (.inr hl)
    have UL:k<σ.length:=by rw[I.len];exact(B6.mp hkk).1
    have run:=UG [] s2 (σ.set k (some (.ref e))) H {nx:=λσ' H'=>∃env',gh (env.set k .no)=.next env'∧Rel X.K B env' σ' H',rt:=λ_ _=>False} J3 (UJ B _ _ H (env.set k .no) (r.no hke _) (J9 UL) (by
     cases qq:gh (env.set k .no)with
     | next env'=>exact λσ' H' r'=>⟨env',rfl,r'⟩
     | ret d=>rw[qq]at p;exact p.elim
     | brk d=>rw[qq]at p;exact p.elim
     | cont d=>rw[qq]at p;exact p.elim
     | bad=>rw[qq]at p;exact p.elim
     | rete d e=>rw[qq]at p;exact p.elim))
    refine wpAny_mono run (λfl s3 q=>?_) λ_ _ z=>z.elim
    cases fl with
    | next=>
     obtain⟨σ',H',J4,env',q1,r'⟩:=q
     rw[q1]at p
     dsimp only at p
     split at p
     ·rename_i hk'
      have I5:Inv X (pins++[(e,oe)]) σ' H' s3:=J4.lR I.ok.hd
      have I6:Inv X pins σ' H' s3:=I5.pJ λp hp=>I5.pin p (B7 _ (F2 _ hp))
      exact Eb I6 hN hkk hl λs4 I7=>⟨_,H',I7,p _ _ (r'.no hk' none)⟩
     ·exact p.elim
    | brk=>obtain⟨_,_,_,z⟩:=q;exact z.elim
    | cont=>obtain⟨_,_,_,z⟩:=q;exact z.elim
    | ret u=>obtain⟨_,_,_,_,_,z⟩:=q;exact z.elim
   | false=>
    rw[hb]at xm
    rw[hb,if_neg B8]at p
    refine(M6 (M:=model X.prog X.w) I'.lZ f.ty xm).here ?_
    exact ih s' f p
  ·exact p.elim
structure ZS(K:aA)(κ:Nat→Addr)(X:Cx)(E:XK)(st:Stmt)(t:TS)(z:GZ):Prop where
 ps:∀(pins:List (Addr×Obj))(σ:St),Ih (sY X.prog X.w) X pins σ E→QQ X pins σ st t
 ev:∀(B:Hp)(D:Ends)(σ:St)(H:Hp)(env:EN)(i:Nat),Rel K B env σ H→z env=some i→(∀H',aD H H'→E (.ref (κ i)) none H')→t D σ H
def KN(K:aA)(z:GZ)(g:GS)(sub:vP)(n nj:Nat)(gs:Nat→List (Nat×GS)):TS:=λD σ H=>∃B env,Rel K B env σ H∧sW K B D (sZ z g sub n nj gs env)
theorem Wf{h:ExceptHandler}{hs:List ExceptHandler}{gs:Nat→List (Nat×GS)}(XM:∀i j,i<n→j<nj→B0 K (.ref (κ i)) (.ref (κ j))=some (sub i j))(hN:∀pn,∃t,YB K (X.tr pn λ_ _=>False) [st] t g)(hZ:∀pn Ex E,∃t,ZS K κ (X.tr pn Ex) E st t z)(hH:∀i,HK K κ X n i (h::hs) (gs i))
  (hk:X.K=K:=by rfl) (hst:X.stack=X.env::X.outer:=by rfl) (hfr:X.env.frame=some X.env.locals:=by rfl) (Nk:X.calm=true:=by rfl):YS K X (.Try [st] (h::hs) [] [] pos) (KN K z g sub n nj gs) (sZ z g sub n nj gs):=by
 refine⟨λpins s σ H D I ⟨B,env,r,p⟩=>?_,λB D σ H env r p=>⟨B,env,r,p⟩⟩
 refine wpAny_Try_except ?_
 unfold sZ at p
 cases hz:z env with
 | none=>
  rw[hz]at p
  obtain⟨t,yb⟩:=hN (X.pn++pins)
  refine wpAny_mono (yb.ps [] s σ H D (I.tr _) (yb.ev B D σ H env r p)) (λf s1 q=>?_) λ_ _ z=>z.elim
  cases f with
  | next=>exact wpAny_execs_nil q.nC
  | brk=>exact q.nC
  | cont=>exact q.nC
  | ret u=>exact q.nC
 | some i=>
  rw[hz]at p
  have fr:X.A.frames=some (X.env::X.outer):=by rw[←hst];exact I.ok.frames
  obtain⟨t,zs⟩:=hZ (X.pn++pins) (λev s'=>∃e H' s1,ev=.ref e∧Inv X pins σ H' s1∧Fl X.stack s1 e (.ref (κ i)) s'∧aD H H') (λcls _ H'=>cls=.ref (κ i)∧aD H H')
  have run:=zs.ps [] σ (λH2 s2 ev s' I2 c=>by
   obtain⟨e,cls,H',s1,rfl,I3,fl,rfl,sm⟩:=I2.ghost c
   exact⟨e,H',s1,rfl,I3.nC,fl,sm⟩) s H D (I.tr _) (zs.ev B D σ H env i r hz λH' s=>⟨rfl,s⟩)
  refine wpAny_execs_cons (wpAny_mono run (λf s1 q=>?_) λev s1 q=>?_)
  ·cases f with
   | next=>exact wpAny_execs_nil (wpAny_execs_nil q.nC)
   | brk=>exact q.nC
   | cont=>exact q.nC
   | ret u=>exact q.nC
  ·obtain⟨e,H',sg,rfl,Ig,fl,sm⟩:=q
   obtain⟨a0,vN⟩:=fl.vN
   rw[hst]at vN
   refine wpAny_looks_onW fr hfr vN λh' held up=>wpAny_landsW held λh'' CG UT=>?_
   rw[←hst]at CG
   have UW:Fl X.stack sg e (.ref (κ i)) {s1 with heap:=h''}:=⟨⟨a0,CG⟩,fl.up.trans (up.trans UT),fl.os,fl.bare⟩
   exact Ec XM hk hst hfr (r.same sm) Ig (hH i) _ UW p
end
end L2


namespace L2
open PySem PySem.Spec PySem.Calls PyProof.Rows PyProof.V
theorem Oe{K:aA}{c t:Value}{e:Addr}(hk:L6 K t c=some true):PySem.Answers (λs=>K.In s.heap∧∃oe,s.heap.get? e=some oe∧oe.cls=t) (.ref e) c true:=by
  intro dep tk prog w A R s hs
  obtain⟨h0,g,d,tt,os⟩:=s
  obtain⟨⟨X,oe,he,hc⟩,hq⟩:=hs
  have LT:F5 (model prog w) h0 (typeOf (.ref e)) t:=hc▸(O4 he).andThen .now
  unfold Builtin.«isinstance.nested»
  refine wpAny_bind (LT.at ?_)
  by_cases q:(t==c)=true
  · rw[if_pos q]
    first
      | ((repeat lk);exact hq tt)
      | exact wpAny_bind (wpAny_rule (hq tt))
      | exact wpAny_bind (wpAny_rule (wpAny_pure (hq tt)))
  · rw[if_neg q]
    obtain⟨hty,his,hsub⟩:=PySem.W.kit_cls (M:=model prog w) X hk
    have LI:F5 (model prog w) h0 (isInstance (.ref e) c) true:=LT.andThen hsub
    refine wpAny_bind (hty.at ?_)
    rw[if_pos (by decide)]
    k_delta "plainIsInstance"
    refine wpAny_bind (wpAny_bind (his.at ?_))
    simp only[Bool.not_true,R4,if_false]
    refine wpAny_bind (LI.at ?_)
    first
      | exact wpAny_pure (wpAny_pure (hq tt))
      | (simp only[if_true];first | exact wpAny_pure (wpAny_pure (hq tt)) | exact wpAny_pure (hq tt) | exact wpAny_bind (wpAny_pure (wpAny_pure (hq tt))))
section
variable{K:aA}{X:Cx}{κ:Nat→Addr}{pos p:Pos}
def Wg(e:Addr)(T:String):List V→Hp→VK→Prop:=λxs H Q=>xs=[.ref e,.ty T]∧Q (.bl true) H
theorem Wh{pn:List (Addr×Obj)}{e:Addr}{oe:Obj}{t:Value}{T:String}(hpn:X.pn=pn)(hm:(e,oe)∈pn)(hc:oe.cls=t)(hk:L6 X.K t (.type T)=some true):dB X (.builtin "isinstance") (Wg e T):=by
 intro pins s σ H xs us Q I r h
 obtain⟨rfl,q⟩:=h
 obtain⟨u,w',rfl,rx,rt⟩:=vals2 r
 cases rt
 cases rx
 have hp:=(I.pin (e,oe) (F2 _ (by rw[hpn];exact hm))).1
 exact PySem.call_isinstance (S:=λ_ R s=>(X.K.In s.heap∧∃oe,s.heap.get? e=some oe∧oe.cls=t)∧∀tk,R (.ok (.ret (.bool true))) {s with toks:=tk})
  (λprog w A R s hs=>PySem.isinstance_outer (Oe hk 0 _ prog w A R s hs) (λz=>nomatch z)) ⟨⟨I.lZ,oe,hp,hc⟩,λtk=>⟨.bl true,H,I.tok _,rfl,q⟩⟩
structure XE(K:aA)(X:Cx)(k:Nat)(ea:Addr)(e:Expr)(t:TE)(d:D):Prop where
 pe:PE X e t
 ev:∀(σ:St)(H:Hp)(Q:VK),σ[k]?=some (some (.ref ea))→(∀v H',aD H H'→wN K H H' d v→Q v H')→t σ H Q
theorem Wi{k:Nat}{ea:Addr}{e eT:Expr}{T:String}(h:PE X e (mD k))(hT:PE X eT (tC (.ty T)))(CJ:dB X (.builtin "isinstance") (Wg ea T)) (hg:Gl X "isinstance") (hm:X.mg "isinstance" = none) (hst:starEach (e::[eT]) X.env=(false,eval e X.env)::starEach [eT] X.env:=by rfl) (hst2:starEach [eT] X.env=(false,eval eT X.env)::starEach [] X.env:=by rfl)
  (hpl:(backTo pos (starEach [eT] X.env)).any (·.1)=false:=by rfl):XE K X k ea (.Call (.Name "isinstance" p) [e,eT] [] pos) (Lq (Wg ea T) (cZ (mD k) (cZ (tC (.ty T)) kZ))) (.bl true):=
 ⟨jC CJ hg hm J0 (aX h (aX hT dU hst2) hst) (by decide) (by decide) hst hpl,λσ H Q hk q=>⟨_,hk,rfl,q _ H (aD.refl _) (.dD rfl (by unfold Rv;rfl))⟩⟩
end
section
variable{K:aA}{X:Cx}{g:GS}{pos:Pos}
end
end L2


namespace L2
open PySem PySem.Spec PySem.Calls PyProof.Rows PyProof.V
section
variable{K:aA}{X:Cx}{pos p0:Pos}
end
end L2


namespace L2
open PySem PySem.Spec PySem.Calls PyProof.Rows PyProof.V Builtin Builtin.ObjectAttr Builtin.Getset_descriptor
section
variable{P:Program}{w:World}{A:Around}{E:Value→Shared→Prop}{s:Shared}{K:aA}{x D:Addr}{ox:Obj}{od:Option Obj}
theorem Ik:builtinKind "BaseException.__getattribute__" = some .slot:=by kernel_rfl
theorem Ed:splitId "BaseException.__getattribute__" = some ("BaseException", "__getattribute__"):=by decide +kernel
theorem Il(nm:Value):argsOk "BaseException.__getattribute__" ⟨.ref x::[nm],[]⟩:=F.args_bexc_ga _ _
theorem Ef{M:Model}{nm:Value}{Q:Unit→Shared→Prop}(L:F5 M s.heap (isInstance (.ref x) (.type "BaseException")) true) (q:Q () s):wpAny M A (checkBuiltinCall "BaseException.__getattribute__" ⟨.ref x::[nm],[]⟩) Q E s:=by
 have h:=@PySem.W.check_slot M A E s "BaseException.__getattribute__" "BaseException" "__getattribute__" (.ref x) [nm] [] Q Ik Ed L (Il nm) q
 exact h
structure rF(K:aA)(D:Addr):Prop where
 ga:F0 K (.ref D) "__getattribute__" = some (some (.builtin "BaseException.__getattribute__"))
 gt:F0 K (.ref D) "__getattr__" = some none
 cl:F0 K (.ref D) "__class__" = some (some (.builtin "object.__class__"))
 sp:L7 K (.builtin "object.__class__") "__get__" = some (some (.builtin "getset_descriptor.__get__"))
 tk:P1 K (.builtin "object.__class__")=some true
 mr:L9 K D (.type "object")=some true
 bx:T6 K (.ref D) (.type "BaseException")=some true
 ct:(M0 K D).isSome=true
theorem Im{M:Model}{h:Heap}(X:K.In h)(C:rF K D):F5 M h (Builtin.ObjectAttr.find (.ref x) (.ref D) "__class__") (.bind (.builtin "getset_descriptor.__get__") (.builtin "object.__class__")):=by
 have L1:=M7 (M:=M) X C.cl
 have L2:F5 M h (Builtin.ObjectAttr.getOf (some (.builtin "object.__class__"))) (some (.builtin "getset_descriptor.__get__")):=PySem.W.looks_specialIn X C.sp
 have L3:=PySem.W.looks_takesIn (M:=M) X C.tk
 exact L1.andThen (L2.andThen ((show F5 M h (Builtin.ObjectAttr.dataDescriptor? (some (.builtin "object.__class__")) (some (.builtin "getset_descriptor.__get__"))) (some (.builtin "getset_descriptor.__get__", .builtin "object.__class__"))from L3.andThen .now).andThen (PySem.W.Looks.tag .now)))
theorem Og{R:Result→Shared→Prop}(X:K.In s.heap)(T:F5 (model P w) s.heap (typeOf (.ref x)) (.ref D))(C:rF K D)(h:R (.ok (.ret (.ref D))) s):codeAny (model P w) A (.call (.builtin "getset_descriptor.__get__") ⟨[.builtin "object.__class__", .ref x,.ref D],[]⟩) R s:=by
 obtain⟨hh,g,dr,t,os⟩:=s
 have L0:=T
 have L1:=PySem.W.looks_mroIn (M:=model P w) X C.mr
 refine codeAny_call_builtin R5.plain PySem.W.KF.entry_gs (R5.check _ _ _ _ _ _ _ _ PySem.W.KF.type_class (PySem.W.KF.args_gs _ _ _) ?_)
 unfold Builtin.«getset_descriptor.__get__» descrGet
 rw[PySem.W.dga_obj]
 refine wpAny_bind (wpAny_pure ?_)
 unfold descrGetter descrCheckInstance descrNameAndClass isInstance
 simp only[PySem.W.KF.owner_class]
 repeat lk
 refine⟨Code.quiet_builtin _ (by decide +kernel),codeAny_builtin PySem.W.KF.entry_class ?_⟩
 unfold Builtin.«object.__class__» shownTypeOf
 repeat lk
 exact h
theorem Eg{tk:Tok}{Q:Fin→Shared→Prop}(X:K.In s.heap)(T:F5 (model P w) s.heap (typeOf (.ref x)) (.ref D))(C:rF K D)(h:Q (.done (.ret (.ref D))) s):wpAny (model P w) A (Builtin.«object.__getattribute__» ⟨[.ref x,.str "__class__" tk],[]⟩) Q E s:=by
 obtain⟨hh,g,d,t,os⟩:=s
 have L0:=T
 have L3:=Im (M:=model P w) (x:=x) X C
 unfold Builtin.«object.__getattribute__»
 refine wpAny_bind (wpAny_pure ?_)
 refine wpAny_bind (wpAny_pure ?_)
 refine wpAny_bind (L0.at ?_)
 refine wpAny_bind (L3.at ?_)
 show wpAny _ _ (holding [.builtin "object.__class__"] (call (.builtin "getset_descriptor.__get__") [.builtin "object.__class__", .ref x,.ref D]) >>= ret) _ _ _
 exact wpAny_bind (wpAny_holding (wpAny_call (Og (s:=⟨hh,g,d,t,os⟩) X T C (wpAny_pure h))))
theorem Eh{Q:Option Value→Shared→Prop}(X:K.In s.heap)(T:F5 (model P w) s.heap (typeOf (.ref x)) (.ref D))(C:rF K D)
  (h:Q (some (.ref D)) {s with toks:=s.toks+1}):wpAny (model P w) A (getAttr? (.ref x) "__class__") Q E s:=by
 obtain⟨hh,g,d,t,os⟩:=s
 have L0:=T
 have L1:=M7 (M:=model P w) X C.ga
 have L2:=M7 (M:=model P w) X C.gt
 have L4:F5 (model P w) hh (isInstance (.ref x) (.type "BaseException")) true:=L0.andThen (PySem.W.looks_subIn X C.bx)
 have bnd:=F.excAttr_ValueError.ga.bind (.ref x)
 unfold getAttr? getAttrBy? getAttrBy
 refine wpAny_bind (wpAny_mkText (wpAny_bind (wpAny_attempt (wpAny_holding (wpAny_bind (L0.at (wpAny_bind (L1.at ?_))))))))
 show wpAny _ _ (getAttrByItsOwn _ _ _ _ _ _) _ _ _
 unfold getAttrByItsOwn
 have e1:hookBefore (.ref D)=typeLookup (.ref D) "__getattr__" := rfl
 rw[e1]
 refine wpAny_bind (L2.at (wpAny_bind (wpAny_attempt (wpAny_holding ?_))))
 have e2:∀nm,callGetattribute (.ref x) nm (.builtin "BaseException.__getattribute__") false=boundAndCalled (.builtin "BaseException.__getattribute__") (.ref x) nm:=λ_=>rfl
 rw[e2]
 unfold boundAndCalled
 rw[bnd]
 refine wpAny_bind (wpAny_pure ?_)
 refine wpAny_call (f:=.builtin "BaseException.__getattribute__") (pos:=[.ref x,.str "__class__" t]) (kw:=[]) (codeAny_call_builtin F.excAttr_ValueError.ga.plain F.entry_bexc_ga ?_)
 refine Ef (s:=⟨hh,g,d,t+1,os⟩) L4 ?_
 refine Eg (s:=⟨hh,g,d,t+1,os⟩) X T C ?_
 show wpAny _ _ (handedOut (.ref D)) _ _ _
 refine PySem.W.handed_on rfl ?_
 exact wpAny_pure h
theorem Rw{M:Model}{h:Heap}{e:Addr}{oe:Obj}{t:Value}(h1:h.get? e=some oe)(h2:oe.cls=t):F5 M h (typeOf (.ref e)) t:=h2▸(O4 h1).andThen .now
theorem yC{e:Addr}(F:rF K D):PySem.W.KitX K (.ref e) (.ref D) (λh=>∃oe,h.get? e=some oe∧oe.cls=.ref D) where
 ty:=λ_ _ _ ⟨oe,h1,h2⟩=>Rw h1 h2
 it:=λ_ _ X _=>by
  obtain⟨cd,hc⟩:=K7.mp F.ct
  unfold M0 at hc
  split at hc
  ·rename_i ho
   intro A' Q' E' s' k q
   unfold isType loadHead
   exact wpAny_bind (wpAny_loadPart (k _ _ (X _ _ ho)) (wpAny_pure q))
  ·cases hc
 ne:=λh tp dd its n sl X htp=>by
  obtain⟨cd,hc⟩:=K7.mp F.ct
  refine R6.mpr λq=>?_
  have e:D=tp:=Value.ref.inj (beq_iff_eq.mp q)
  subst e
  unfold M0 at hc
  split at hc
  ·rename_i ho
   have z:=(X _ _ ho).symm.trans htp
   cases z
  ·cases hc
 ca:=λX ⟨oe,h1,h2⟩ k=>Eh X (Rw h1 h2) F k
end
section
variable{K:aA}{X:Cx}{κ:Nat→Addr}{pos p:Pos}
def Wj(e C:Addr)(b:Bool):List V→Hp→VK→Prop:=λxs H Q=>xs=[.ref e,.ref C]∧Q (.bl b) H
theorem Wk{pn:List (Addr×Obj)}{e C D:Addr}{oe:Obj}{b:Bool}(hpn:X.pn=pn)(hm:(e,oe)∈pn)(hc:oe.cls=.ref D)(F:rF X.K D)(hk:L5 X.K (.ref D) (.ref C)=some b):dB X (.builtin "isinstance") (Wj e C b):=by
 intro pins s σ H xs us Q I r h
 obtain⟨rfl,q⟩:=h
 obtain⟨u,w',rfl,rx,rt⟩:=vals2 r
 cases rt
 cases rx
 have hp:=(I.pin (e,oe) (F2 _ (by rw[hpn];exact hm))).1
 exact C6 (yC F) I.lZ ⟨oe,hp,hc⟩ hk (λz=>nomatch z) λtk=>⟨.bl b,H,I.tok _,rfl,q⟩
def Wl(K:aA)(e:Addr)(cs:List Addr)(b:Bool):List V→Hp→VK→Prop:=λxs H Q=>∃a,xs=[.ref e,.ref a]∧mH K H a (cs.map V.ref)∧Q (.bl b) H
theorem Oh{cs:List Addr}:∀{us:List Value},Vals (cs.map V.ref) us→us=cs.map Value.ref:=by
 induction cs with
 | nil=>intro us h;cases h;rfl
 | cons c cs ih=>
  intro us h
  cases h with
  | cons h1 h2=>
   rw[ih h2]
   cases h1
   rfl
theorem Aa{pn:List (Addr×Obj)}{e D:Addr}{cs:List Addr}{oe:Obj}{b:Bool}(hpn:X.pn=pn)(hm:(e,oe)∈pn)(hc:oe.cls=.ref D)(F:rF X.K D)(hk:Q0 X.K (.ref D) (cs.map Value.ref)=some b):dB X (.builtin "isinstance") (Wl X.K e cs b):=by
 intro pins s σ H xs us Q I r h
 obtain⟨a,rfl,ht,q⟩:=h
 obtain⟨u,w',rfl,rx,rt⟩:=vals2 r
 cases rt
 cases rx
 have hp:=(I.pin (e,oe) (F2 _ (by rw[hpn];exact hm))).1
 obtain⟨its,rv,pl,hz⟩:=I.tuple ht
 obtain⟨o,h1,h2,n,h3⟩:=pl
 rw[Oh rv]at h3
 obtain⟨oc,dd,dt,sl⟩:=o
 dsimp only at h2 h3
 subst h2 h3
 exact PySem.W.kia_tup (yC F) I.lZ ⟨oe,hp,hc⟩ h1 hk (λz=>nomatch z) λtk=>⟨.bl b,H,I.tok _,rfl,q⟩
structure Oi(K:aA)(X:Cx)(k:Nat)(ea:Addr)(e:Expr)(t:TE)(f:FE):Prop where
 hk:X.K=K
 pe:PE X e t
 ev:∀(σ:St)(H:Hp)(de:DE)(d:D)(Q:VK),lM K H de σ→σ[k]?=some (some (.ref ea))→f de=some d→(∀v H',aD H H'→wN K H H' d v→Q v H')→t σ H Q
theorem CK{k:Nat}{ea:Addr}{e:Expr}{t:TE}{d:D}(h:XE K X k ea e t d)(hk:X.K=K:=by rfl):Oi K X k ea e t (fC d):=⟨hk,h.pe,λσ H de d' Q re hs q kk=>by cases q;exact h.ev σ H Q hs kk⟩
theorem Oj{k:Nat}{ea C:Addr}{b:Bool}{e eT:Expr}(h:PE X e (mD k))(hT:PE X eT (tC (.ref C)))(CJ:dB X (.builtin "isinstance") (Wj ea C b)) (hg:Gl X "isinstance") (hm:X.mg "isinstance" = none) (hk:X.K=K:=by rfl) (hst:starEach (e::[eT]) X.env=(false,eval e X.env)::starEach [eT] X.env:=by rfl) (hst2:starEach [eT] X.env=(false,eval eT X.env)::starEach [] X.env:=by rfl)
  (hpl:(backTo pos (starEach [eT] X.env)).any (·.1)=false:=by rfl):Oi K X k ea (.Call (.Name "isinstance" p) [e,eT] [] pos) (Lq (Wj ea C b) (cZ (mD k) (cZ (tC (.ref C)) kZ))) (fC (.bl b)):=
 ⟨hk,jC CJ hg hm J0 (aX h (aX hT dU hst2) hst) (by decide) (by decide) hst hpl,λσ H de d Q re hs q kk=>by
  cases q
  exact⟨_,hs,rfl,kk _ H (aD.refl _) (.dD rfl (by unfold Rv;rfl))⟩⟩
def Bp:List Addr→TA
 | []=>kZ
 | c::cs=>cZ (tC (.ref c)) (Bp cs)
theorem yD{σ:St}{H:Hp}:∀{cs:List Addr} {Q:List V→Hp→Prop},Q (cs.map V.ref) H→Bp cs σ H Q
 | [],Q,q=>q
 | c::cs,Q,q=>yD (cs:=cs) (Q:=λxs H1=>Q (.ref c::xs) H1) q
theorem vQ{k:Nat}{ea:Addr}{cs:List Addr}{b:Bool}{e eT:Expr}(hl:cs.length≤100)(h:PE X e (mD k))(hT:PE X eT (wY (Bp cs)))(CJ:dB X (.builtin "isinstance") (Wl K ea cs b)) (hg:Gl X "isinstance") (hm:X.mg "isinstance" = none) (hk:X.K=K:=by rfl) (hst:starEach (e::[eT]) X.env=(false,eval e X.env)::starEach [eT] X.env:=by rfl) (hst2:starEach [eT] X.env=(false,eval eT X.env)::starEach [] X.env:=by rfl)
  (hpl:(backTo pos (starEach [eT] X.env)).any (·.1)=false:=by rfl):Oi K X k ea (.Call (.Name "isinstance" p) [e,eT] [] pos) (Lq (Wl K ea cs b) (cZ (mD k) (cZ (wY (Bp cs)) kZ))) (fC (.bl b)):=
 ⟨hk,jC CJ hg hm J0 (aX h (aX hT dU hst2) hst) (by decide) (by decide) hst hpl,λσ H de d Q re hs q kk=>by
  cases q
  refine⟨_,hs,?_⟩
  refine yD ⟨iV (by rw[D1];omega),λl hl=>?_⟩
  exact⟨l,rfl,mH.of bB,kk _ _ (bR hl _) (.dD rfl (by unfold Rv;rfl))⟩⟩
structure HQ(K:aA)(X:Cx)(k:Nat)(ea:Addr)(es:List Expr)(t:TA)(fs:FA):Prop where
 hk:X.K=K
 pa:PA X es t
 ev:∀(σ:St)(H:Hp)(de:DE)(ds:List D)(Q:List V→Hp→Prop),lM K H de σ→σ[k]?=some (some (.ref ea))→fs de=some ds→(∀vs H',aD H H'→sV K H H' ds vs→Q vs H')→t σ H Q
theorem vR{k:Nat}{ea:Addr}(hk:X.K=K:=by rfl):HQ K X k ea [] kZ aO:=⟨hk,dU,λσ H de ds Q re hs q kk=>by
 cases q
 exact kk [] H (aD.refl _) ⟨nil,by unfold cT;exact⟨λ_ z=>z,rfl⟩,λ_ z=>z.elim⟩⟩
theorem jQ{k:Nat}{ea:Addr}{e:Expr}{es:List Expr}{t:TE}{tA:TA}{f:FE}{fs:FA}(h:Oi K X k ea e t f)(hs:HQ K X k ea es tA fs)(hst:starEach (e::es) X.env=(false,eval e X.env)::starEach es X.env:=by rfl):HQ K X k ea (e::es) (cZ t tA) (aC f fs):=⟨h.hk,aX h.pe hs.pa hst,λσ H de ds Q re hσ q kk=>by
 obtain⟨a,r,h1,h2,rfl⟩:=jH q
 refine h.ev σ H de a _ re hσ h1 λx H1 s1 n1=>hs.ev σ H1 de r _ (re.same s1) hσ h2 λvs H2 s2 n2=>?_
 refine kk _ H2 (s1.trans s2) ?_
 obtain⟨A,oA,fA⟩:=n1
 obtain⟨B,oB,fB⟩:=n2
 refine⟨gK A B,?_,λp q=>q.elim (fA p) λz=>s1.free (fB p z)⟩
 unfold cT
 refine⟨x,vs,A,B,rfl,λp qa qb=>?_,λ_=>Iff.rfl,oA.same s2,oB⟩
 obtain⟨⟨o,e1⟩,_⟩:=Ow.cells _ _ _ oA p qa
 rw[fB p qb]at e1;cases e1⟩
theorem vU{k:Nat}{ea:Addr}{es:List Expr}{tA:TA}{fs:FA}(h:HQ K X k ea es tA fs):Oi K X k ea (.List es pos) (Df tA) (iH fs):=⟨h.hk,zB h.pa,λσ H de d Q re hs q kk=>by
 unfold iH at q
 obtain⟨ds,h1,h2⟩:=aQ q
 obtain⟨hc,rfl⟩:=mV h2
 refine h.ev σ H de ds _ re hs h1 λxs H1 s1 n=>⟨iV (by rw[n.rv.length];exact hc),λp hp=>?_⟩
 exact kk _ _ (s1.trans (bR hp _)) (uY s1 n hp)⟩
theorem Ol{k i:Nat}{ea:Addr}{e:Expr}{te:TE}{f:FE}{x:Str}{pos':Pos}(h:Oi K X k ea e te f)(hp:PE X e te→PS X (.Assign [.Name x pos'] e pos) (iC te (bO i))):YE K X k ea [.Assign [.Name x pos'] e pos] (iC te (bO i)) (bD i f):=
 ⟨Aq (hp h.pe),λB D σ H env r hk q=>by
  unfold bD at q
  split at q
  ·rename_i d qf
   split at q
   ·rename_i hi
    exact h.ev σ H (rE env) d _ r.r hk qf λv H' s n=>q _ _ (r.own hi s n)
   ·exact q.elim
  ·exact q.elim⟩
theorem Io{k i:Nat}{ea:Addr}{e:Expr}{te:TE}{f:FE}{x:Str}{pos':Pos}{st:Stmt}{sts:List Stmt}{t:TS}{g:GS}(hki:i≠k)(h:Oi K X k ea e te f)(hp:PE X e te→PS X (.Assign [.Name x pos'] e pos) (iC te (bO i)))(hr:YE K X k ea (st::sts) t g):YE K X k ea (.Assign [.Name x pos'] e pos::st::sts) (Fq (iC te (bO i)) t) (aN (bD i f) g):=
 ⟨qG (hp h.pe) hr.ps,λB D σ H env r hk q=>by
  cases qf:f (rE env)with
  | none=>
   have z:aN (bD i f) g env=.bad:=by unfold aN bD;rw[qf]
   rw[z]at q
   exact q.elim
  | some d=>
   by_cases hi:i<env.length
   ·have z:aN (bD i f) g env=g (env.set i (.own d)):=by unfold aN bD;rw[qf];dsimp only;rw[if_pos hi]
    rw[z]at q
    exact h.ev σ H (rE env) d _ r.r hk qf λv H' s n=>hr.ev B D _ H' _ (r.own hi s n) (by rw[K1 hki];exact hk) q
   ·have z:aN (bD i f) g env=.bad:=by unfold aN bD;rw[qf];dsimp only;rw[if_neg hi]
    rw[z]at q
    exact q.elim⟩
end
end L2


namespace L2
open PySem PySem.Spec PySem.Calls PyProof.Rows PyProof.V
section
variable{P:Program}{w:World}{K:aA}{mg:Str→Option Value}{base:Heap}{κ:Nat→Addr}
theorem Raw.KQ{x:Str}{st:Stmt}{N ps:List Str}{k:Nat}{z:GZ}(R:Raw K mg x st)(S:bJ N ps (aH st))
  (hb:∀(kV doc pm:Value)(an:Option Addr)(cdv ct:Value)(us:List Value),us.length=ps.length→bindArgs (D4 x x (cH st) (bF st) (aH st) .none kV doc pm an cdv ct) ⟨us,[]⟩=pure (ps.zip us))
  (hbody:∀(f:Addr)(cdv:Value)(A:Around)(outer:List Env)(s:Shared)(H:Hp)(E:XK),eN k (A.deeper (envOfC x (aH st) s.heap.objs.size f cdv))→∃t,Xy K κ (eX (sY P w) P w K mg base N x (aH st) f cdv A outer s H E) E (bF st) t z):Oa P w K mg base x (k+1) ps.length (Xz K κ ps.length (Ru N.length ps.length z)):=by
 obtain⟨f,fd,F,m⟩:=R.ex
 have kp:=F.kp
 obtain⟨oc,od,kV,doc,pm,an,cdv,ct,osl,rfl,lk,hcd⟩:=F.ex
 refine⟨f,_,ps,rfl,Qz lk hcd S (λvs H Q E h=>?_) λA outer s H vs Q E hr hsp=>?_,.all (hb kV doc pm an cdv ct),kp,m⟩
 ·obtain⟨ds,d,h1,h2,_⟩:=h
  rw[h2.length];exact h1
 obtain⟨t,yb⟩:=hbody f cdv A outer s H E hr
 exact⟨t,yb.ps,BX yb hsp⟩
end
section
variable{K:aA}{κ:Nat→Addr}{X:Cx}{E:XK}{pos:Pos}
theorem Om{i:Nat}{x:Str}{e:Expr}{te:TE}{pos':Pos}{pins:List (Addr×Obj)}{σ:St}(hN:X.N.Nodup)(hi:X.N[i]?=some x)(hx:Loc X.env.scope x)(he:QM X pins σ e te)(hs:swapsWith e (some (.Name x pos')) pos.line X.env=pure false)(hf:X.fn x=true∨X.env.scope.names.lookup x=some .local) :
  QQ X pins σ (.Assign [.Name x pos'] e pos) (iC te (bO i)):=by
 intro s H D I h
 refine wpAny_Assign_Name (cV (he s H _ I h) λv s1 ⟨y,H1,I1,r1,q1⟩=>?_) hs
 exact mC I1 hN hi hx r1 (λs2 I2=>⟨_,H1,I2,q1⟩) hf
theorem Wm{i:Nat}{x:Str}{e:Expr}{te:TE}{pos':Pos}{zz:DE→Option Nat}(h:QR K κ X E e te zz)(hN:X.N.Nodup)(hi:X.N[i]?=some x)(hx:Loc X.env.scope x)(hs:swapsWith e (some (.Name x pos')) pos.line X.env=pure false:=by rfl)(hf:X.fn x=true∨X.env.scope.names.lookup x=some .local:=by first | exact .inl rfl | exact .inr rfl | assumption):ZS K κ X E (.Assign [.Name x pos'] e pos) (iC te (bO i)) (zX zz):=
 ⟨λpins σ hp=>Om hN hi hx (h.pe pins σ hp) hs hf,λB D σ H env i r q k=>h.ev σ H (rE env) i _ r.r q k⟩
end
end L2


namespace L2
open PySem PySem.Spec PySem.Calls PyProof.Rows PyProof.V
def CN:D→Option String
  | .int _=>some "int" | .bl _=>some "bool" | .str _=>some "str" | .non=>some "NoneType" | .lst _=>some "list" | .tup _=>some "tuple" | .dk _ _=>some "dict"
  | _=>none
abbrev Bq:List String:=["int", "bool", "str", "list", "tuple"]
def Ab(t T:String):Bool:=t==T||(t == "bool" && T == "int")
theorem iR{K:aA}:∀t∈["int", "bool", "str", "NoneType", "list", "tuple", "dict"],∀T∈Bq,L5 K (.type t) (.type T)=some (Ab t T):=by
 intro t ht T hT
 simp only[G0,S3,or_false]at ht hT
 rcases ht with rfl | rfl | rfl | rfl | rfl | rfl | rfl<;>rcases hT with rfl | rfl | rfl | rfl | rfl<;>with_unfolding_all rfl
section
variable{K:aA}{X:Cx}{e:Expr}{t:TE}{f:FE}{pos:Pos}
def Oo(T:String)(d:D):Option D:=if T∈Bq then(CN d).map λt=>.bl (Ab t T)else none
def rG(T:String)(f:FE):FE:=λe=>(f e).bind (Oo T)
def CP(K:aA)(T:String):List V→Hp→VK→Prop:=λxs H Q=>T∈Bq∧∃x d t,xs=[x,.ty T]∧Rv K H d x∧CN d=some t∧Q (.bl (Ab t T)) H
theorem Wn{T:String}(hk:X.K=K):dB X (.builtin "isinstance") (CP K T):=by
 subst hk
 intro pins s σ H xs us Q I r h
 obtain⟨hT,x,d,t,rfl,rv,ht,q⟩:=h
 obtain⟨u,w',rfl,rx,rt⟩:=vals2 r
 cases rt
 have fin:∀tk,EP X pins σ Q (.bool (Ab t T)) {s with toks:=tk}:=λtk=>⟨.bl _,H,I.tok _,rfl,q⟩
 cases d with
 | non=>cases ht;unfold Rv at rv;subst rv;exact kE I rx .non (iR _ (by decide) T hT) fin
 | bl b=>cases ht;unfold Rv at rv;subst rv;exact kE I rx (.bl b) (iR _ (by decide) T hT) fin
 | int i=>cases ht;unfold Rv at rv;subst rv;exact kE I rx (.int i) (iR _ (by decide) T hT) fin
 | str y=>cases ht;unfold Rv at rv;subst rv;exact kE I rx (.str y) (iR _ (by decide) T hT) fin
 | lst ds=>
  cases ht
  unfold Rv at rv
  obtain⟨a,xs,rfl,e2,_⟩:=rv
  cases(show u=Value.ref a from rx)
  obtain⟨its,_,pl,_⟩:=I.list e2
  obtain⟨o,n,h1,h2,_⟩:=pl
  exact C6 N4 I.lZ ⟨o,h1,h2⟩ (iR _ (by decide) T hT) (λz=>nomatch z) fin
 | tup ds=>
  cases ht
  unfold Rv at rv
  obtain⟨a,xs,rfl,e2,_⟩:=rv
  cases(show u=Value.ref a from rx)
  obtain⟨its,_,pl,_⟩:=I.tuple e2
  obtain⟨o,h1,h2,_⟩:=pl
  exact C6 R1 I.lZ ⟨o,h1,h2⟩ (iR _ (by decide) T hT) (λz=>nomatch z) fin
 | dk ks ds=>
  cases ht
  unfold Rv at rv
  obtain⟨a,xs,rfl,e2,_⟩:=rv
  cases(show u=Value.ref a from rx)
  obtain⟨_,_,vs,_,p⟩:=Rf I.hok e2
  obtain⟨o,es,ep,h1,h2,_⟩:=p
  exact C6 N5 I.lZ ⟨o,h1,h2.1⟩ (iR _ (by decide) T hT) (λz=>nomatch z) fin
 | dt ks ds=>cases ht
 | ins C nm ds=>cases ht
theorem vV{T:String}{p:Pos}{eT:Expr}(h:XR K X e t f)(hT:PE X eT (tC (.ty T)))(hg:Gl X "isinstance") (hm:X.mg "isinstance" = none) (hst:starEach (e::[eT]) X.env=(false,eval e X.env)::starEach [eT] X.env:=by rfl) (hst2:starEach [eT] X.env=(false,eval eT X.env)::starEach [] X.env:=by rfl)
  (hpl:(backTo pos (starEach [eT] X.env)).any (·.1)=false:=by rfl):XN K X (.Call (.Name "isinstance" p) [e,eT] [] pos) (Lq (CP K T) (cZ t (cZ (tC (.ty T)) kZ))) (rG T f):=
 ⟨h.hk,jC (Wn h.hk) hg hm J0 (aX h.pe (aX hT dU hst2) hst) (by decide) (by decide) hst hpl,λσ H e d Q re q k=>by
  unfold rG at q
  obtain⟨d0,q1,q2⟩:=aQ q
  unfold Oo at q2
  split at q2
  ·rename_i hT'
   obtain⟨ty,q3,rfl⟩:=fP q2
   refine h.ev σ H H e d0 _ (Zn.self K H) re q1 λv H1 Z1 s1 t1 z1 rv=>?_
   exact⟨hT',v,d0,ty,rfl,z1.sm.rv _ _ rv,q3,k _ H1 s1 (.dD rfl (by unfold Rv;rfl))⟩
  ·cases q2⟩
end
end L2


set_option maxHeartbeats 1000000
namespace L2
open PySem PySem.Spec PySem.Calls PyProof.Rows PyProof.V
theorem Oq{lo hi:Option Int}{n:Nat}(hl:∀i,lo=some i→0≤i)(hh:∀j,hi=some j→0≤j):Builtin.Str.strSliceIndices lo hi 1 n=Builtin.Str.strSliceIndices (some ((HT.uP n 0 lo:Nat):Int)) (some ((HT.uP n n hi:Nat):Int)) 1 n:=by
 have k:∀(v:Option Int)(d:Nat),d≤n→(∀i,v=some i→0≤i)→(match v with | none=>(d:Int) | some i=>max 0 (min (if i<0 then i+(n:Int)else i) (n:Int)))=max 0 (min (if((HT.uP n d v:Nat):Int)<0 then((HT.uP n d v:Nat):Int)+(n:Int)else((HT.uP n d v:Nat):Int)) (n:Int)):=by
  intro v d hd hv
  cases v with
  | none=>
   show (d:Int)=_
   rw[HT.Gd,if_neg (by omega)]
   omega
  | some i=>
   have:=hv i rfl
   show max 0 (min (if i<0 then i+(n:Int)else i) (n:Int))=_
   rw[show HT.uP n d (some i)=min i.toNat n from by show (if i<0 then _ else _)=_;rw[if_neg (by omega)],if_neg (by omega),if_neg (by omega)]
   omega
 have k1:=k lo 0 (L8 _) hl
 have k2:=k hi n (C0 _) hh
 unfold Builtin.Str.strSliceIndices
 simp only[show ((1:Int) > 0)=True from by simp,if_true]
 rw[←k1,←k2]
 cases lo<;>cases hi<;>rfl
def Ip(z:Str)(lo hi:Option Int):Str:=⟨(dG z.cps.toList lo hi).toArray⟩
theorem Ir{z:Str}{t:Tok}{l u:Option (Int×Tok)}(hl:∀i,l.map (·.1)=some i→0≤i)(hh:∀j,u.map (·.1)=some j→0≤j)(hab:HT.uP z.length 0 (l.map (·.1))≤HT.uP z.length z.length (u.map (·.1))) :
  sliceMade z t l u none=.str (Ip z (l.map (·.1)) (u.map (·.1)))∨(sliceMade z t l u none=.val (.str z t)∧Ip z (l.map (·.1)) (u.map (·.1))=z):=by
 have hlen:z.cps.toList.length=z.length:=J7
 have hb:HT.uP z.length z.length (u.map (·.1))≤z.length:=by
  cases hu:u.map (·.1)with
  | none=>exact C0 _
  | some j=>
   have:=hh j hu
   show (if j<0 then _ else min j.toNat z.length)≤_
   rw[if_neg (by omega)]
   omega
 have e:slicePicked z l u none=Builtin.Str.strSliceIndices (some ((HT.uP z.length 0 (l.map (·.1)):Nat):Int)) (some ((HT.uP z.length z.length (u.map (·.1)):Nat):Int)) 1 z.length:=Oq hl hh
 have cut:(slicePicked z l u none).filterMap (z.cps[·]?)=dG z.cps.toList (l.map (·.1)) (u.map (·.1)):=by
  rw[e,StrLaws.sliced_plain z hab hb]
  unfold dG
  rw[hlen]
 unfold sliceMade
 split
 ·rename_i c
  refine .inr ⟨rfl,?_⟩
  rw[C1]at c
  have c:=beq_iff_eq.mp c.2
  rw[e,StrLaws.strSliceIndices_plain hab hb,D1,N8]at c
  unfold Ip dG
  rw[hlen]
  have a0:HT.uP z.length 0 (l.map (·.1))=0:=by omega
  rw[a0,T4,Nat.sub_zero,P6 (by omega)]
 ·exact .inl (by rw[cut];rfl)
theorem part_of{v:Value}{lo:Option Int}(h:IsPart v lo):∃l:Option (Int×Tok),l.map (·.1)=lo∧partValue l=v:=by
 cases h with
 | none=>exact⟨none,rfl,rfl⟩
 | int i t=>exact⟨some (i,t),rfl,rfl⟩
section
variable{K:aA}{X:Cx}{e:Expr}{t:TE}{f:FE}{pos p2:Pos}
def yE(z:Str)(lo hi:Option Int):Prop:=(∀i∈lo.toList,0≤i)∧(∀j∈hi.toList,0≤j)∧HT.uP z.length 0 lo≤HT.uP z.length z.length hi∧z.length≤100000
instance:∀z lo hi,Decidable (yE z lo hi):=λz lo hi=>by unfold yE;exact inferInstance
def CQ:V→Option Int→Option Int→Hp→VK→Prop:=λx lo hi H Q=>∃z,x=.str z∧yE z lo hi∧Q (.str (Ip z lo hi)) H
theorem Wo:OJ X CQ:=by
 intro pins s σ H x v vl vu lo hi sl Q I rx hs pl pu h
 obtain⟨z,rfl,⟨h1,h2,h3,h4⟩,q⟩:=h
 obtain⟨t,rfl⟩:=rx
 obtain⟨l,rfl,rfl⟩:=part_of pl
 obtain⟨u,rfl,rfl⟩:=part_of pu
 refine⟨"str", _,F.slot_str_getitem.lookup,typeIs_str _ _ _,wpAny_getItem_str_slice (l:=l) (u:=u) (st:=none) hs rfl ?_⟩
 rcases Ir (z:=z) (t:=t) (l:=l) (u:=u) (λi e=>h1 i (by rw[e];exact F9.mpr rfl)) (λj e=>h2 j (by rw[e];exact F9.mpr rfl)) h3 with hm | ⟨hm,hc⟩
 ·rw[hm]
  refine⟨?_,.str _,H,I.tok _,⟨_,rfl⟩,q⟩
  show (dG z.cps.toList _ _).toArray.size≤sizeLine
  rw[B5]
  have hl:z.cps.toList.length=z.length:=J7
  have:(dG z.cps.toList (l.map (·.1)) (u.map (·.1))).length≤z.length:=by
   unfold dG
   rw[F8,K3]
   omega
  exact F4 this (iV h4)
 ·rw[hm]
  rw[hc]at q
  exact⟨.str z,H,I,⟨_,rfl⟩,q⟩
def Ot(d:D)(lo hi:Option Int):Option D:=match d with
 | .str z=>if yE z lo hi then some (.str (Ip z lo hi))else none
 | _=>none
def lU(f:FE)(fl fh:FO):FE:=λe=>(f e).bind λd=>(fl e).bind λlo=>(fh e).bind λhi=>Ot d lo hi
theorem gG{lo hi:Option Expr}{tl th:TO}{fl fh:FO}(h:XR K X e t f)(hl:XO K X lo tl fl)(hu:XO K X hi th fh):XN K X (.Subscript e (.Slice lo hi none p2) pos) (PB CQ t tl th) (lU f fl fh):=⟨h.hk,Ge Wo h.pe hl.po hu.po,λσ H e d Q re q k=>by
 unfold lU at q
 obtain⟨d0,q1,qa⟩:=aQ q
 obtain⟨lo,q2,qb⟩:=aQ qa
 obtain⟨hi,q3,qc⟩:=aQ qb
 clear q qa qb
 unfold Ot at qc
 split at qc
 ·split at qc
  ·rename_i c
   cases qc
   refine h.ev σ H H e _ _ (Zn.self K H) re q1 λv H1 Z1 s1 t1 z1 rv=>hl.ev σ H1 e lo _ (re.same s1) q2 λH2 s2=>hu.ev σ H2 e hi _ (re.same (s1.trans s2)) q3 λH3 s3=>?_
   unfold Rv at rv
   subst rv
   exact⟨_,rfl,c,k _ H3 (s1.trans (s2.trans s3)) (.dD rfl (by unfold Rv;rfl))⟩
  ·cases qc
 ·cases qc⟩
def Iu:V→List V→Hp→VK→Prop:=λx vs H Q=>∃z y,x=.str z∧vs=[.str y]∧Q (.int (Txt.find z y)) H
theorem Ou:JG X "str.find" Iu:=by
 intro pins s σ H x vs v us Q I rx rv h
 obtain⟨z,y,rfl,rfl,q⟩:=h
 obtain⟨t,rfl⟩:=rx
 obtain⟨u,rfl,ru⟩:=rv.one
 obtain⟨t',rfl⟩:=ru
 exact PySem.W.KXw.find rfl λt' k=>⟨.int _,H,I.tok _,⟨_,rfl⟩,q⟩
def Br(a b:D):Option D:=match a,b with
 | .str x,.str y=>some (.int (Txt.find x y))
 | _,_=>none
theorem Ov{a b:Expr}{ta tb:TE}{f g:FE}{m:Str}{apos cpos:Pos}(ha:XR K X a ta f)(hb:XR K X b tb g)(hp:PE X a ta→PE X b tb→PE X (.Call (.Attribute a m apos) [b] [] cpos) (Yy X.K "str" Iu ta (cZ tb kZ))):XN K X (.Call (.Attribute a m apos) [b] [] cpos) (Yy X.K "str" Iu ta (cZ tb kZ)) (f2 Br f g):=
 ⟨ha.hk,hp ha.pe hb.pe,λσ H e d Q re q k=>by
  obtain⟨x,y,q1,q2,q3⟩:=mU q
  unfold Br at q3
  split at q3
  ·cases q3
   refine ha.ev σ H H e _ _ (Zn.self K H) re q1 λv H1 Z1 s1 t1 z1 rx=>?_
   unfold Rv at rx
   subst rx
   refine⟨rfl,hb.ev σ H1 H1 e _ _ (Zn.self K H1) (re.same s1) q2 λv' H2 Z2 s2 t2 z2 ry=>?_⟩
   unfold Rv at ry
   subst ry
   exact⟨_,_,rfl,rfl,k _ H2 (s1.trans s2) (.dD rfl (by unfold Rv;rfl))⟩
  ·cases q3⟩
end
end L2


namespace L2
open PySem PySem.Spec PySem.Calls PyProof.Rows PyProof.V
section
variable{K:aA}{X:Cx}{pos:Pos}
theorem Bs{k:Nat}{ea:Addr}{a b:Expr}{op:Operator}{ta tb:TE}{f g:FE}{r:R2}{φ:D→D→Option D}(o:yS K r φ)(hr:iB X (binaryOp op) r)(ha:XR K X a ta f)(hb:Oi K X k ea b tb g):Oi K X k ea (.BinOp a op b pos) (wL r ta tb) (f2 φ f g):=⟨ha.hk,Qx hr ha.pe hb.pe,λσ H de d Q re hs q kk=>by
 obtain⟨x,y,q1,q2,q3⟩:=mU q
 refine ha.ev σ H H de x _ (Zn.self K H) re q1 λv H1 Z1 s1 t1 z1 rv=>hb.ev σ H1 de y _ (re.same s1) hs q2 λv' H2 s2 n2=>?_
 exact o _ _ _ _ _ _ _ (s2.rv _ _ (z1.sm.rv _ _ rv)) n2.rv q3 λu H3 s3 n3=>kk u H3 ((s1.trans s2).trans s3) (n3.back (s1.trans s2))⟩
theorem Iv{k:Str}{c:Int}{e1 e2:Expr}(h:Xu X pos [some e1] [e2] [(tC (.str k),tC (.int c))])(hk:X.K=K:=by rfl):XN K X (.Dict [some e1] [e2] pos) (Rg [(tC (.str k),tC (.int c))]) (fC (.dk [.inr k] [.int c])):=⟨hk,Mg h rfl rfl (λz=>by cases z) (G6 rfl),λσ H e d Q re q kk=>by
 cases q
 intro p hp
 refine⟨bB,[(.inr k,.int c)],rfl,G6 rfl,?_⟩
 rw[Ky]
 refine kk _ _ (bR hp _) ⟨(·=p),?_,λa z=>by cases z;exact hp⟩
 unfold Ow
 exact⟨p,[.int c],nil,rfl,bB,rfl,λz=>z,λx=>⟨.inl,λz=>z.elim id False.elim⟩,pN _ _ rfl (by unfold bN;exact⟨_,_,rfl,by unfold Rv;rfl,by unfold bN;rfl⟩)⟩⟩
variable{κ:Nat→Addr}{sub:vP}{n nj:Nat}
theorem CT(hn:n≤nj)(XM:∀i j,i<n→j<nj→B0 K (.ref (κ i)) (.ref (κ j))=some (sub i j))(hr:∀i,i<n→sub i i=true)(i j:Nat)(hi:i<n)(hj:j<nj):L5 K (.ref (κ i)) (.ref (κ j))=some (sub i j):=by
 have h:=XM i j hi hj
 unfold L5
 split
 ·rename_i q
  have e:=beq_iff_eq.mp q
  have h2:=XM i i hi (B4 hi hn)
  rw[←e,h2,hr i hi]at h
  exact h
 ·unfold B0 at h
  split at h
  ·exact h
  ·cases h
theorem Ox(hn:n≤nj)(XM:∀i j,i<n→j<nj→B0 K (.ref (κ i)) (.ref (κ j))=some (sub i j))(hr:∀i,i<n→sub i i=true)(i:Nat)(hi:i<n):∀js:List Nat,(∀j∈js,j<nj)→Q0 K (.ref (κ i)) ((js.map κ).map Value.ref)=some (js.any (sub i))
 | [],_=>rfl
 | j::js,h=>by
  have h1:=CT hn XM hr i j hi (h j (C4 ..))
  have ih:=Ox hn XM hr i hi js λk hk=>h k (B9 _ hk)
  rw[D8,D8,Q5]
  unfold Q0
  rw[h1]
  cases sub i j with
  | true=>rfl
  | false=>exact ih
end
end L2


namespace L2
open PySem PySem.Spec PySem.Calls PyProof.Rows PyProof.V
theorem rH:∀{p:List Bool} {us:List Value},Vals (p.map V.bl) us→us=p.map Value.bool
 | [],us,h=>by cases h;rfl
 | b::p,us,h=>by
  cases h with
  | cons h1 h2=>
   rw[rH h2]
   cases h1
   rfl
theorem Ei{p q:List Bool}(hl:p.length=q.length):((G5 p.length).all λi=>p.getD i false==q.getD i false)=decide (p=q):=by
 rw[F6,I0,decide_eq_true_iff]
 constructor
 ·intro h
  apply S1 hl
  intro i h1 h2
  have:=h i (J5.mpr h1)
  rw[C5,C5,B3 h1,B3 h2]at this
  exact beq_iff_eq.mp this
 ·rintro rfl i _
  simp
section
variable{K:aA}{X:Cx}
def Wq(K:aA):R2:=λx y H Q=>∃(a b:Addr)(p q:List Bool),x=.ref a∧y=.ref b∧mG K H a (p.map V.bl)∧mG K H b (q.map V.bl)∧Q (.bl (decide (p=q))) H
theorem Wr(hu:X.A.units+64<cLine):iB X (compareOp .Eq) (Wq X.K):=by
 intro pins s σ H x y v u Q I rx ry h
 obtain⟨a,b,p,q,rfl,rfl,h1,h2,k⟩:=h
 cases rx
 cases ry
 obtain⟨pG,v1,pL,_⟩:=I.list h1
 obtain⟨its2,v2,tV,_⟩:=I.list h2
 have e1:=rH v1
 have e2:=rH v2
 subst e1 e2
 have rc:SeqAt.RcAt X.A s (.ref a) (.ref b) (decide (p=q)):=by
  by_cases hl:p.length=q.length
  ·have z:=SeqAt.RcAt.lists (e:=λi=>p.getD i false==q.getD i false) (A:=X.A) (s:=s) pL.isList tV.isList (by simpa using hl) (by omega) (λj h1 h2=>by
    have g1:j<p.length:=by simpa using h1
    have g2:j<q.length:=by simpa using h2
    have t1:(p.map Value.bool).toArray[j]=.bool (p.getD j false):=by
     rw[C5,B3 g1]
     simp
    have t2:(q.map Value.bool).toArray[j]=.bool (q.getD j false):=by
     rw[C5,B3 g2]
     simp
    rw[t1,t2]
    exact SeqAt.EqAt.bool_bool _ _)
   rw[B5,D1,Ei hl]at z
   exact z
  ·rw[decide_eq_false (λz=>hl (by rw[z]))]
   exact SeqAt.RcAt.lists_lengths pL.isList tV.isList (by simpa using hl) (by omega)
 exact rc X.prog X.w X.xe _ ⟨.bl _,H,I,rfl,k⟩
def Ej:List D→Option (List Bool)
 | []=>some []
 | .bl b::ds=>(Ej ds).map (b::·)
 | _=>none
def Oz(a b:D):Option D:=match a,b with
 | .lst xs,.lst ys=>(Ej xs).bind λp=>(Ej ys).map λq=>.bl (decide (p=q))
 | _,_=>none
theorem vW{H:Hp}:∀{ds:List D} {p:List Bool} {vs:List V},Ej ds=some p→bN K H ds vs→vs=p.map V.bl
 | [],p,vs,h,r=>by unfold Ej at h;cases h;unfold bN at r;exact r
 | d::ds,p,vs,h,r=>by
  cases d<;>unfold Ej at h<;>first | cases h | skip
  obtain⟨p',q1,rfl⟩:=fP h
  unfold bN at r
  obtain⟨y,ys,rfl,r1,r2⟩:=r
  unfold Rv at r1
  rw[r1,vW q1 r2]
  rfl
theorem Iw:yS K (Wq K) Oz:=λx y H a b d Q ra rb q k=>by
 unfold Oz at q
 split at q
 ·obtain⟨p,q1,q2⟩:=aQ q
  obtain⟨p',q3,rfl⟩:=fP q2
  unfold Rv at ra rb
  obtain⟨la,xs,rfl,a1,a2⟩:=ra
  obtain⟨lb,ys,rfl,b1,b2⟩:=rb
  rw[vW q1 a2]at a1
  rw[vW q3 b2]at b1
  exact⟨la,lb,p,p',rfl,rfl,a1,b1,k _ H (aD.refl _) (.dD rfl (by unfold Rv;rfl))⟩
 ·cases q
theorem Iz(hu:X.A.units+64<cLine)(hk:X.K=K):iB X (compareOp .Eq) (Wq K):=by subst hk;exact Wr hu
theorem Pa{i:Nat}{x:Str}{e:Expr}{te:TE}{f:FE}{pos pos':Pos}(h:XN K X e te f)(hN:X.N.Nodup)(hi:X.N[i]?=some x)(hx:Loc X.env.scope x)(hs:swapsWith e (some (.Name x pos')) pos.line X.env=pure false:=by rfl)(hf:X.fn x=true∨X.env.scope.names.lookup x=some .local:=by first | exact .inl rfl | exact .inr rfl | assumption):YS K X (.Assign [.Name x pos'] e pos) (iC te (bO i)) (bD i f):=bG h λq=>bA hN hi hx q hs hf
theorem Ja{i:Nat}{x:Str}{e:Expr}{te:TE}{f:FE}{pos pos':Pos}(h:XR K X e te f)(hN:X.N.Nodup)(hi:X.N[i]?=some x)(hx:Loc X.env.scope x)(hs:swapsWith e (some (.Name x pos')) pos.line X.env=pure false:=by rfl)(hf:X.fn x=true∨X.env.scope.names.lookup x=some .local:=by first | exact .inl rfl | exact .inr rfl | assumption):YS K X (.Assign [.Name x pos'] e pos) (iC te (bO i)) (oY i f):=Nj h λq=>bA hN hi hx q hs hf
end
end L2


namespace L2
open PySem PySem.Spec PyProof.Rows
abbrev jA(ns:List Int):D:=.lst (ns.map D.int)
theorem uF{i:Nat}{g:GS}(I:Nat→EN→Prop):∀(xs:List D)(env:EN)(n:Nat),I n env→(∀k x env,xs[k]?=some x→I (n+k) env→i<env.length∧∃env',g (env.set i (.fro x))=.next env'∧I (n+k+1) env')→∃env',lC i g xs env=.next env'∧I (n+xs.length) env'
 | [],env,n,h,_=>⟨env,by unfold lC;rfl,h⟩
 | x::xs,env,n,h,st=>by
  obtain⟨h1,env',h2,h3⟩:=st 0 x env rfl h
  obtain⟨lD,a1,a2⟩:=uF I xs env' (n+1) h3 λk y e hk hi=>by
   have:=st (k+1) y e (by simpa using hk) (by rw[show n+(k+1)=n+1+k by omega];exact hi)
   rw[show n+(k+1)+1=n+1+k+1 by omega]at this
   exact this
  refine⟨lD,?_,?_⟩
  ·unfold lC
   rw[if_pos h1,h2]
   exact a1
  ·rw[G9,show n+(xs.length+1)=n+1+xs.length by omega]
   exact a2
theorem dY{g1 g2:GS}{env env':EN}(h:g1 env=.next env'):aN g1 g2 env=g2 env':=by unfold aN;rw[h]
theorem nD{g1 g2:GS}{env:EN}{d:D}(h:g1 env=.ret d):aN g1 g2 env=.ret d:=by unfold aN;rw[h]
theorem rJ{f:FT}{g1 g2:GS}{env:EN}(h:f (rE env)=some true):iK f g1 g2 env=g1 env:=by unfold iK;rw[h]
theorem oH{f:FT}{g1 g2:GS}{env:EN}(h:f (rE env)=some false):iK f g1 g2 env=g2 env:=by unfold iK;rw[h]
theorem pQ{i:Nat}{f:FE}{env:EN}{d:D}(h:f (rE env)=some d)(hi:i<env.length):bD i f env=.next (env.set i (.own d)):=by unfold bD;rw[h];dsimp only;rw[if_pos hi]
theorem Jb{i:Nat}{f:FE}{env:EN}{d:D}(h:f (zE env)=some d)(hi:i<env.length):oY i f env=.next (env.set i (.fro d)):=by unfold oY;rw[h];dsimp only;rw[if_pos hi]
theorem kJ{f:FE}{env:EN}{d:D}(h:f (rE env)=some d):cN f env=.ret d:=by unfold cN;rw[h]
theorem Jc{i:Nat}{fi:FA}{g:GS}{env:EN}{xs:List D}(h:fi (rE env)=some xs):oZ i fi g env=lC i g xs env:=by unfold oZ;rw[h]
theorem Bt{js:List Nat}{i:Nat}{fi:FA}{g:GS}{env pI:EN}{xs:List D}(h0:nR js env=pI)(h:fi (zE pI)=some xs):xQ js i fi g env=lC i g xs pI:=by unfold xQ;rw[h0,h]
theorem nF{n m:Nat}{g:GS}{ds:List D}{d:D}(hl:ds.length=m)(h:g (ds.map SD.fro++D3 (n-m) SD.no)=.ret d):jO n m g ds=some d:=by unfold jO;rw[if_pos hl,h]
theorem aK{φ:D→D→Option D}{f g:FE}{e:DE}{a b d:D}(h1:f e=some a)(h2:g e=some b)(h:φ a b=some d):f2 φ f g e=some d:=by unfold f2;rw[h1,h2];exact h
theorem jR{φ:List D→Option D}{fs:FA}{e:DE}{ds:List D}{d:D}(h1:fs e=some ds)(h:φ ds=some d):fL φ fs e=some d:=by unfold fL;rw[h1];exact h
theorem aB{f:FE}{fs:FA}{e:DE}{a:D}{r:List D}(h1:f e=some a)(h2:fs e=some r):aC f fs e=some (a::r):=by unfold aC;rw[h1,h2];rfl
theorem bH{n:Nat}{F:List D→Option D}{fs:FA}{e:DE}{ds:List D}{d:D}(h1:fs e=some ds)(hl:ds.length=n)(h:F ds=some d):cU n F fs e=some d:=by unfold cU;rw[h1];dsimp only[F3];rw[if_pos hl];exact h
theorem bV{f:FE}{e:DE}{b:Bool}(h:f e=some (.bl b)):fB f e=some b:=by unfold fB;rw[h];rfl
theorem gB{f:FT}{e:DE}{b:Bool}(h:f e=some b):gF f e=some (!b):=by unfold gF;rw[h];rfl
theorem CV{f g:FT}{e:DE}(h:f e=some false):yV f g e=g e:=by unfold yV;rw[h];rfl
theorem CW{f g:FT}{e:DE}(h:f e=some true):yV f g e=some true:=by unfold yV;rw[h];rfl
theorem pR{f:FE}{e:DE}{d:D}(h:f e=some d)(i:d.dD=true):xJ f e=some d:=tY.mpr ⟨h,i⟩
theorem bW(i j:Int):cP (.int i) (.int j)=some (.int (i+j)):=rfl
theorem nG{i j:Int}(h:sO i j):nU (.int i) (.int j)=some (.int (i*j)):=by unfold nU tZ;exact if_pos h
theorem gP{i j:Int}(h:0<j)(h2:j<1073741824):uZ (.int i) (.int j)=some (.int (i/j)):=by unfold uZ tZ;exact if_pos (show Cy i j from⟨h,h2⟩)
theorem bL{i j:Int}(h:0<j):gM (.int i) (.int j)=some (.int (i%j)):=by unfold gM tZ;exact if_pos h
theorem nH{i j:Int}(h:Cz i j):zN (.int i) (.int j)=some (.int (i ^ j.toNat)):=by unfold zN tZ;exact if_pos h
theorem gC(i j:Int):Kv (.int i) (.int j)=some (.bl (decide (i<j))):=by unfold Kv tZ;exact if_pos True.intro
theorem Bu(i j:Int):HD (.int i) (.int j)=some (.bl (decide (j<i))):=by unfold HD tZ;exact if_pos True.intro
theorem vX(i j:Int):Rj (.int i) (.int j)=some (.bl (decide (i≤j))):=by unfold Rj tZ;exact if_pos True.intro
theorem Pb(i j:Int):decide (V.int i=V.int j)=decide (i=j):=by
 by_cases c:i=j
 ·subst c;simp
 ·rw[decide_eq_false c,decide_eq_false (λz=>c (by cases z;rfl))]
theorem pU(i j:Int):yU (.int i) (.int j)=some (.bl (decide (i=j))):=by
 unfold yU toV
 dsimp only
 rw[if_pos (by rfl),Pb]
theorem Ac{α:Type}{xs:List α}{i:Int}{x:α}(h0:0≤i)(h:xs[i.toNat]?=some x):Fb xs i=some x:=by
 have h1:i.toNat<xs.length:=by
  obtain⟨h1,_⟩:=B6.mp h
  exact h1
 unfold Fb Yu
 rw[if_pos h0,if_pos (by omega)]
 exact h
theorem Bv{ds:List D}{i:Int}{d:D}(h0:0≤i)(h:ds[i.toNat]?=some d):Mw (.lst ds) (.int i)=some d:=Ac h0 h
theorem yF{ns:List Int}{i:Int}(h0:0≤i)(h:i<ns.length):Mw (jA ns) (.int i)=some (.int (ns.getD i.toNat 0)):=Ac h0 (by
 rw[C8,C5,B3 (show i.toNat<ns.length by omega)];rfl)
theorem oJ(ns:List Int):xN [jA ns]=some (.int ns.length):=by show some (D.int ((ns.map D.int).length:Nat))=_;rw[D1]
theorem Jd{fi:FA}{fr:List Nat}{fc:FT}{fe:FE}{e:DE}{xs ys:List D}(h1:fi e=some xs)(hl:xs.length≤100000)(h:mY (λx=>fc (some x::lG e fr)) (λx=>fe (some x::lG e fr)) xs=some ys):mZ fi fr fc fe e=some (.lst ys):=by
 unfold mZ
 rw[h1,F3,if_pos hl,h]
 rfl
theorem Ad(lo:Int)(n:Nat):(fD lo n).length=n:=by unfold fD;rw[D1,N8]
theorem Ae{lo:Int}{n k:Nat}{x:D}(h:(fD lo n)[k]?=some x):k<n∧x=.int (lo+k):=by
 unfold fD at h
 rw[C8]at h
 cases q:(G5 n)[k]? with
 | none=>rw[q]at h;cases h
 | some j=>
  rw[q]at h
  obtain⟨h1,h2⟩:=B6.mp q
  rw[N8]at h1
  rw[List.getElem_range]at h2
  subst h2
  exact⟨h1,(D6 h).symm⟩
theorem Je{fs:FA}{e:DE}{n:Int}(h:fs e=some [.int n])(h1:-100000≤n)(h2:n≤100000):uC fs e=some (fD 0 n.toNat):=by
 unfold uC
 rw[h]
 dsimp only[F3]
 rw[if_pos (show lim n=true from decide_eq_true ⟨h1,h2⟩)]
theorem CZ{i j:Int}(h1:-18446744073709551616<i)(h2:i<18446744073709551616):sO i j:=.inl ⟨h1,h2⟩
theorem DG{i j:Int}(h1:-18446744073709551616<j)(h2:j<18446744073709551616):sO i j:=.inr ⟨h1,h2⟩
end L2


namespace L2
open PySem PySem.Spec PyProof.Rows
section
variable{i j:Nat}{f:FE}{c:FT}{g1 g2 g:GS}{env env':EN}{d:D}{r:SR}{ds:List D}
theorem lV(h:f (rE env)=some d)(hi:i<env.length)(k:g (env.set i (.own d))=r):aN (bD i f) g env=r:=(dY (pQ h hi)).trans k
theorem Rx{b:Bool}(h:c (rE env)=some b)(k1:b=true→aN g1 g env=r)(k2:b=false→aN g2 g env=r):aN (iK c g1 g2) g env=r:=by
 cases b with
 | true=>have k:=k1 rfl;unfold aN at k ⊢;rw[rJ h];exact k
 | false=>have k:=k2 rfl;unfold aN at k ⊢;rw[oH h];exact k
theorem Jf{b:Bool}(h:c (rE env)=some b)(hb:b=false)(k:aN g2 g env=r):aN (iK c g1 g2) g env=r:=Rx h (λz=>by rw[hb]at z;cases z) λ_=>k
theorem Ws{b:Bool}(h:c (rE env)=some b)(hb:b=true)(k:aN g1 g env=r):aN (iK c g1 g2) g env=r:=Rx h (λ_=>k) (λz=>by rw[hb]at z;cases z)
theorem Ry(k:g env=r):aN bK g env=r:=k
theorem DK(h:f (rE env)=some d)(k:SR.ret d=r):aN (cN f) g env=r:=(nD (kJ h)).trans k
theorem Ek(h:env[i]?=some (.own d)):iW i env=.ret d:=by unfold iW;rw[h]
theorem El(h:env[i]?=some (.fro d))(im:d.dD=true):iW i env=.ret d:=by unfold iW;rw[h];dsimp only;rw[if_pos im]
theorem Bw{fs:FA}{e:DE}(h:fs e=some ds)(hl:ds.length≤100000):Dr fs e=some (.tup ds):=by unfold Dr cap;rw[h];dsimp only[F3];rw[if_pos hl]
theorem dI{fs:FA}{e:DE}(h:fs e=some ds)(hl:ds.length≤100000):iH fs e=some (.lst ds):=by unfold iH cap;rw[h];dsimp only[F3];rw[if_pos hl]
theorem vY{e:DE}{z:Int}(h:f e=some (.int z)):Dw f e=some (.int (-z)):=by unfold Dw;rw[h];rfl
theorem Jg{e:DE}{b:Bool}(h:f e=some (.bl b)):xM f e=some (.bl (!b)):=by unfold xM;rw[bV h];rfl
theorem rK{e:DE}{f':FE}{a b:Bool}(h:f e=some (.bl a))(k:f' e=some (.bl b)):qW f f' e=some (.bl (a&&b)):=by
 unfold qW;rw[bV h]
 cases a with
 | true=>exact k
 | false=>rfl
theorem Bx{e:DE}{c':FT}{a b:Bool}(h:c e=some a)(k:c' e=some b):zQ c c' e=some (a&&b):=by
 unfold zQ;rw[h]
 cases a with
 | true=>exact k
 | false=>rfl
theorem Jh{e:DE}{c':FT}{a b:Bool}(h:c e=some a)(k:c' e=some b):yV c c' e=some (a||b):=by
 unfold yV;rw[h]
 cases a with
 | true=>rfl
 | false=>exact k
theorem uG{a b:List D}(h:D.lB (a++b)=true)(hl:a.length+b.length≤100000):cP (.lst a) (.lst b)=some (.lst (a++b)):=by
 show (if D.lB (a++b)=true∧a.length+b.length≤100000 then some (D.lst (a++b))else none)=_
 rw[if_pos ⟨h,hl⟩]
end
end L2
namespace L2
theorem Pg{i:Nat}{e:DE}{d:D}(h:e[i]?=some (some d)):aG i e=some d:=by unfold aG;rw[h];rfl
theorem DN{e:DE}{d:D}:fC d e=some d:=rfl
theorem Ji{e:DE}:aO e=some []:=rfl
end L2
namespace L2
theorem Jj{i:Nat}{fi:FA}{gb:GS}{env:EN}{n:Nat}(I:Nat→EN→Prop)(h:fi (rE env)=some (fD 0 n))(h0:I 0 env)
  (st:∀(k:Nat) env,k<n→I k env→i<env.length∧∃env',gb (env.set i (.fro (.int k)))=.next env'∧I (k+1) env'):∃env',oZ i fi gb env=.next env'∧I n env':=by
 obtain⟨env',h1,h2⟩:=uF (i:=i) (g:=gb) I (fD 0 n) env 0 h0 λk x e hx hi=>by
  rw[O5]at hi ⊢
  obtain⟨hk,rfl⟩:=Ae hx
  rw[Int.zero_add]
  exact st k e hk hi
 rw[O5,Ad]at h2
 exact⟨env',(Jc h).trans h1,h2⟩
theorem Jk{is:List Nat}{env:EN}{ds:List D}(h:fV env is=some ds)(hn:decide is.Nodup=true)(hl:is.length≤100):rB is env=.ret (.tup ds):=by
 unfold rB
 rw[h]
 dsimp only
 rw[if_pos ⟨hn,hl⟩]
end L2


namespace L2
open PySem PySem.Spec PyProof.Rows
def Qs(Pr:SR→Prop)(r:SR):Prop:=Pr r
section
variable{i j:Nat}{f:FE}{c:FT}{g1 g2 g gb:GS}{env env':EN}{d:D}{ds:List D}{Pr:SR→Prop}
theorem cQ(h:f (rE env)=some d)(hi:i<env.length)(k:Qs Pr (g (env.set i (.own d)))):Qs Pr (aN (bD i f) g env):=by rw[dY (pQ h hi)];exact k
theorem Wt(h:f (zE env)=some d)(hi:i<env.length)(k:Qs Pr (g (env.set i (.fro d)))):Qs Pr (aN (oY i f) g env):=by rw[dY (Jb h hi)];exact k
theorem Wu(h:f (rE env)=some d)(hi:i<env.length)(k:Pr (.next (env.set i (.own d)))):Qs Pr (bD i f env):=by rw[pQ h hi];exact k
theorem lW(k:Qs Pr (g env)):Qs Pr (aN bK g env):=k
theorem DP(k:Pr (.next env)):Qs Pr (bK env):=k
theorem nJ{b:Bool}(h:c (rE env)=some b)(k1:b=true→Qs Pr (aN g1 g env))(k2:b=false→Qs Pr (aN g2 g env)):Qs Pr (aN (iK c g1 g2) g env):=by
 cases b with
 | true=>have k:=k1 rfl;unfold aN at k ⊢;rw[rJ h];exact k
 | false=>have k:=k2 rfl;unfold aN at k ⊢;rw[oH h];exact k
theorem DQ{b:Bool}(h:c (rE env)=some b)(k1:b=true→Qs Pr (g1 env))(k2:b=false→Qs Pr (g2 env)):Qs Pr (iK c g1 g2 env):=by
 cases b with
 | true=>rw[rJ h];exact k1 rfl
 | false=>rw[oH h];exact k2 rfl
theorem Jl{b:Bool}(h:c (rE env)=some b)(hb:b=false)(k:Qs Pr (aN g2 g env)):Qs Pr (aN (iK c g1 g2) g env):=nJ h (λz=>by rw[hb]at z;cases z) λ_=>k
theorem Rz{b:Bool}(h:c (rE env)=some b)(hb:b=true)(k:Qs Pr (aN g1 g env)):Qs Pr (aN (iK c g1 g2) g env):=nJ h (λ_=>k) (λz=>by rw[hb]at z;cases z)
theorem Wv{b:Bool}(h:c (rE env)=some b)(hb:b=false)(k:Qs Pr (g2 env)):Qs Pr (iK c g1 g2 env):=DQ h (λz=>by rw[hb]at z;cases z) λ_=>k
theorem lJ(h:f (rE env)=some d)(k:Pr (.ret d)):Qs Pr (aN (cN f) g env):=by rw[nD (kJ h)];exact k
theorem vZ(h:f (rE env)=some d)(k:Pr (.ret d)):Qs Pr (cN f env):=by rw[kJ h];exact k
theorem Af(h:env[i]?=some (.own d))(k:Pr (.ret d)):Qs Pr (iW i env):=by rw[Ek h];exact k
theorem Jm{is:List Nat}(h:fV env is=some ds)(hn:decide is.Nodup=true)(hl:is.length≤100)(k:Pr (.ret (.tup ds))):Qs Pr (rB is env):=by rw[Jk h hn hl];exact k
theorem Ph{fi:FA}{n:Nat}(I:Nat→EN→Prop)(h:fi (rE env)=some (fD 0 n))(h0:I 0 env)
  (st:∀(k:Nat) env,k<n→I k env→i<env.length∧Qs (λr=>∃env',r=.next env'∧I (k+1) env') (gb (env.set i (.fro (.int k))))) (k:∀env',I n env'→Qs Pr (g env')):Qs Pr (aN (oZ i fi gb) g env):=by
 obtain⟨env',h1,h2⟩:=Jj (gb:=gb) I h h0 λk env hk hi=>⟨(st k env hk hi).1,let ⟨e,a,b⟩:=(st k env hk hi).2;⟨e,a,b⟩⟩
 rw[dY h1]
 exact k env' h2
theorem Sd{is:List Nat}(h:f (rE env)=some (.tup ds))(hl:is.length=ds.length)(hi:is.all (λi=>decide (i<env.length))=true)(k:Qs Pr (g (iM env is ds))):Qs Pr (aN (iQ is f) g env):=by
 have:iQ is f env=.next (iM env is ds):=by unfold iQ;rw[h];dsimp only;rw[if_pos ⟨hl,hi⟩]
 rw[dY this]
 exact k
theorem iT{n m:Nat}{Pd:D→Prop}(hl:ds.length=m)(h:Qs (λr=>∃d,r=.ret d∧Pd d) (g (ds.map SD.fro++D3 (n-m) SD.no))):∃d,jO n m g ds=some d∧Pd d:=by
 obtain⟨d,h1,h2⟩:=h
 exact⟨d,nF hl h1,h2⟩
theorem Pj{fs:FA}{e:DE}{n:Nat}(h:fs e=some [.int (n:Int)])(hn:n≤100000):uC fs e=some (fD 0 n):=by
 rw[Je h (by omega) (by omega),Int.toNat_natCast]
end
end L2
namespace L2
theorem Em{fi:FA}{fr:List Nat}{fe:FE}{e:DE}{α:Type}{xs:List α}{ψ φ:α→D}(h1:fi e=some (xs.map ψ))(hn:xs.length≤1000)(he:∀x∈xs,fe (some (ψ x)::lG e fr)=some (φ x)):mZ fi fr xP fe e=some (.lst (xs.map φ)):=by
 refine Jd h1 (by rw[D1];omega) ?_
 clear h1 hn
 induction xs with
 | nil=>rw[J6,J6];unfold mY;rfl
 | cons x xs ih=>
  rw[D8]
  unfold mY
  show (some true).bind _=_
  rw[F3,if_pos rfl,he x C4,F3,ih λy hy=>he y (B9 _ hy)]
  rfl
theorem yG{α:Type}{l:List α}{k:Nat}{d:α}(h:k<l.length):l[k]?=some (l.getD k d):=by rw[C5,B3 h];rfl
end L2


namespace L2
open PySem PySem.Spec PyProof.Rows
section
variable{i j:Nat}{f:FE}{c:FT}{g1 g2 g gb:GS}{env env':EN}{d:D}{ds:List D}{Pr:SR→Prop}
end
end L2
namespace L2
end L2
namespace L2
end L2


namespace L2
open PySem PySem.Spec PyProof.Rows
structure QV where
 VB:Int
 place:Int
 thing:List Int
 needs:List Int
 deriving Inhabited
abbrev at_(cs:List QV)(k:Nat):QV:=cs.getD k default
theorem En(i j:Int):Bh [.int i,.int j]=some (.int (if j<i then j else i)):=rfl
end L2
namespace L2
theorem bY{f:FE}{e:DE}{i:Int}(h:f e=some (.int i)):cD f e=some (some i):=by unfold cD;rw[h];rfl
end L2
namespace L2
end L2


namespace L2
open PySem PySem.Spec PyProof.Rows
theorem Pk{e:DE}{f f':FE}{a b:Bool}(h:f e=some (.bl a))(k:f' e=some (.bl b)):Ds f f' e=some (.bl (a||b)):=by
 unfold Ds;rw[bV h]
 cases a with
 | true=>rfl
 | false=>exact k
theorem Jo{α:Type}(p:α→Bool)(l:List α):Hh [.lst (l.map λx=>D.bl (p x))]=some (.bl (l.all p)):=by
 show (lF (l.map λx=>D.bl (p x))).map _=_
 rw[uB]
 show some (D.bl ((l.map p).all id))=_
 rw[List.all_map]
 rfl
end L2


namespace L2
open PySem PySem.Spec PyProof.Rows
section
variable{i j:Nat}{f f':FE}{c:FT}{g1 g2 g gb:GS}{env env':EN}{d d0 d' r:D}{ds:List D}{Pr:SR→Prop}{v:V}{π:FP}{p:List Step}
theorem DR{f g:FE}{e:DE}(h:c e=some true)(h2:f e=some d):Vj c f g e=some d:=by unfold Vj;rw[h];exact h2
theorem DW{f g:FE}{e:DE}(h:c e=some false)(h2:g e=some d):Vj c f g e=some d:=by unfold Vj;rw[h];exact h2
end
end L2


local macro_rules | `(tactic| walk_at "fs")=>`(tactic| exact⟨rfl,rfl,rfl,by decide +kernel,rfl,by decide +kernel,by decide +kernel⟩)
namespace Rs
open PySem L2
def top(i:Nat):Stmt:=PySem.Challenge.pw_ripestone_k53_odd_numbers.main.body.getD i (.Pass ⟨0,0,0,0⟩)
def oK:vP:=λi j=>match i,j with | 0,0=>true | 0,1=>true | 1,1=>true | 2,1=>true | 2,2=>true | 3,1=>true | 3,3=>true | 4,1=>true | 4,4=>true | 5,1=>true | 5,5=>true | 6,1=>true | 6,6=>true | 7,1=>true | 7,7=>true | 8,1=>true | 8,8=>true | 9,1=>true | 9,9=>true | 10,1=>true | 10,10=>true | _,_=>false
theorem Pn:∀i,i<1→oK i i=true:=by decide
abbrev kO:Stmt:=top 17
noncomputable def uH:GS:=aN (bD 1 (Vj (fB (f2 vM (aG 0) (fC (.str "-")))) (lU (aG 0) (cD (fC (.int 1))) (fU)) (xJ (aG 0))))
 (aN (iK (gF (Hr Rj Rj (fC (.int 1)) (fL jP (aC (aG 1) aO)) (fC (.int (60))))) (cN (fC (.bl false))) bK)
 (aN (iK (gF (fB (fL Hh (aC (mZ (zZ (aG 1)) [] xP (f2 Hv (aG 0) (fC (.str "0123456789")))) aO)))) (cN (fC (.bl false))) bK)
 (cN (Ds (f2 Kw (f2 vL (aG 1) (fC (.int 0))) (fC (.str "0"))) (f2 yU (aG 0) (fC (.str "0")))))))
noncomputable def cC:List D→Option D:=jO 2 1 (uH)
abbrev gD:Stmt:=top 18
noncomputable def pB:GS:=aN (iK (yV (gF (fB (rG "str" (aG 0)))) (gF (fB (cU 1 cC (aC (aG 0) aO))))) Zz bK)
 (cN (fL Hw (aC (aG 0) aO)))
noncomputable def eO:List D→Option D:=jO 1 1 (pB)
noncomputable def eQ(κ:Nat→Addr):GZ:=BV (yV (gF (fB (rG "str" (aG 0)))) (gF (fB (cU 1 cC (aC (aG 0) aO))))) (QT 0 (aC (fC (.str "this writes no number")) aO)) (QL)
noncomputable def bC(κ:Nat→Addr):List D→Option Nat:=Ru 1 1 (eQ κ)
abbrev oM:Stmt:=top 26
noncomputable def oO(κ:Nat→Addr):GS:=aN (bD 1 (iH aO))
 (aN (bD 2 (fC .non))
 (aN (sZ (zX (Ie (bC κ) (aC (aG 0) aO))) (bD 2 (cU 1 eO (aC (aG 0) aO))) oK 1 11 (λi=>(1,Yb 3 (aN (bD 1 (iH (aC (fC (.bl (oK i 0))) (aC (fC (.bl true)) aO)))) (aN (bD 1 (f2 cP (aG 1) (iH (aC (fC (.bl (([2,3,4,5,6]:List Nat).any (oK i)))) (aC (fC (.bl (([7,9]:List Nat).any (oK i)))) aO))))) (bD 1 (f2 cP (aG 1) (iH (aC (fC (.bl (([8,10]:List Nat).any (oK i)))) aO)))))))::[]))
 (rB [1,2])))
noncomputable def cO(κ:Nat→Addr):List D→Option D:=jO 4 1 (oO κ)
abbrev rM:Stmt:=top 27
noncomputable def rN(κ:Nat→Addr):GS:=aN (iQ [2,3] (cU 1 (cO κ) (aC (aG 0) aO)))
 (aN (iK (fB (f2 (Vw false) (aG 1) (fC .non))) (cN (f2 Oz (aG 2) (iH (aC (fC (.bl true)) (aC (fC (.bl true)) (aC (fC (.bl false)) (aC (fC (.bl false)) (aC (fC (.bl false)) aO)))))))) bK)
 (cN (qW (f2 Oz (aG 2) (iH aO)) (qW (rG "int" (aG 3)) (qW (xM (rG "bool" (aG 3))) (f2 yU (aG 3) (aG 1)))))))
noncomputable def dJ(κ:Nat→Addr):List D→Option D:=jO 4 2 (rN κ)
abbrev rO:Stmt:=top 20
noncomputable def yH:GS:=aN (iK (fB (f2 yU (fL xN (aC (aG 0) aO)) (fC (.int 0)))) (cN (fC (.int 0))) bK)
 (aN (bD 2 (f2 uZ (aG 1) (fL xN (aC (aG 0) aO))))
 (aN (bD 3 (f2 cP (fC (.int 48271)) (f2 nU (f2 nU (fC (.int 7919)) (aG 2)) (aG 2))))
 (aN (bD 4 (f2 cP (f2 nU (f2 Mw (aG 0) (f2 gM (aG 1) (fL xN (aC (aG 0) aO)))) (aG 3)) (f2 nU (f2 nU (aG 1) (aG 1)) (fC (.int 104729)))))
 (aN (bD 4 (f2 gM (aG 4) (fC (.int 2147483647))))
 (cN (f2 gM (f2 nU (aG 4) (aG 4)) (fC (.int 2147483629))))))))
noncomputable def gQ:List D→Option D:=jO 5 2 (yH)
abbrev rP:Stmt:=top 22
noncomputable def yI:GS:=cN (cU 2 gQ (aC (aG 0) (aC (f2 cP (aG 1) (f2 nU (fL xN (aC (aG 0) aO)) (aG 2))) aO)))
noncomputable def fW:List D→Option D:=jO 3 3 (yI)
abbrev lX:Stmt:=top 25
noncomputable def rQ:GS:=aN (bD 3 (cU 3 fW (aC (aG 0) (aC (aG 1) (aC (fC (.int 2)) aO)))))
 (aN (bD 4 (f2 gM (f2 uZ (aG 3) (fC (.int 8))) (f2 cP (fL jP (aC (aG 2) aO)) (fC (.int 1)))))
 (aN (bD 5 (f2 vL (fC (.str " +-_.,:ax0\t\n")) (f2 gM (f2 uZ (aG 3) (fC (.int 1024))) (fC (.int 12)))))
 (aN (iK (fB (f2 Kv (f2 gM (aG 3) (fC (.int 8))) (fC (.int 2)))) (iW 2) bK)
 (aN (iK (fB (f2 Kv (f2 gM (aG 3) (fC (.int 8))) (fC (.int 4)))) (cN (f2 iY (f2 iY (lU (aG 2) (fU) (cD (aG 4))) (aG 5)) (lU (aG 2) (cD (aG 4)) (fU)))) bK)
 (aN (iK (fB (f2 Kv (f2 gM (aG 3) (fC (.int 8))) (fC (.int 6)))) (cN (f2 iY (f2 iY (lU (aG 2) (fU) (cD (aG 4))) (aG 5)) (lU (aG 2) (cD (f2 cP (aG 4) (fC (.int 1)))) (fU)))) bK)
 (aN (iK (fB (f2 yU (f2 gM (aG 3) (fC (.int 8))) (fC (.int 6)))) (cN (f2 iY (lU (aG 2) (fU) (cD (aG 4))) (lU (aG 2) (cD (f2 cP (aG 4) (fC (.int 1)))) (fU)))) bK)
 (aN (bD 6 (iH (aC (fC (.str "")) (aC (fC (.str "-")) (aC (fC (.str "--1")) (aC (fC (.str "+1")) (aC (fC (.str "-0")) (aC (fC (.str "00")) (aC (fC (.str "1_0")) (aC (fC (.str " 1")) (aC (fC (.str "1 ")) (aC (fC (.str "1.0")) (aC (fC (.str "0x1")) (aC (fC (.str "1e3")) aO))))))))))))))
 (cN (xJ (f2 Mw (aG 6) (f2 gM (f2 uZ (aG 3) (fC (.int 8))) (fC (.int 12)))))))))))))
noncomputable def fX:List D→Option D:=jO 7 3 (rQ)
abbrev rR:Stmt:=top 24
noncomputable def yJ:GS:=aN (bD 2 (cU 3 fW (aC (aG 0) (aC (aG 1) (aC (fC (.int 0)) aO)))))
 (aN (bD 3 (f2 gM (f2 cP (f2 nU (f2 zN (cU 3 fW (aC (aG 0) (aC (aG 1) (aC (fC (.int 1)) aO)))) (fC (.int 6))) (fC (.int 104729))) (f2 Mw (aG 0) (aG 1))) (f2 zN (fC (.int 10)) (fC (.int 60)))))
 (aN (bD 4 (f2 cP (fC (.int 1)) (f2 gM (f2 uZ (aG 2) (fC (.int 8))) (fC (.int 60)))))
 (aN (iK (fB (f2 Kv (f2 gM (aG 2) (fC (.int 8))) (fC (.int 3)))) (bD 4 (f2 cP (fC (.int 1)) (f2 gM (f2 uZ (aG 2) (fC (.int 8))) (fC (.int 3))))) bK)
 (aN (bD 5 (lU (fL xY (aC (f2 cP (f2 zN (fC (.int 10)) (fC (.int 60))) (aG 3)) aO)) (cD (fC (.int 1))) (cD (f2 cP (fC (.int 1)) (aG 4)))))
 (aN (iK (fB (f2 yU (f2 gM (aG 2) (fC (.int 3))) (fC (.int 0)))) (bD 5 (f2 iY (fC (.str "-")) (aG 5))) bK)
 (iW 5))))))
noncomputable def jT:List D→Option D:=jO 6 2 (yJ)
abbrev wA:Stmt:=top 23
noncomputable def By:GS:=aN (bD 1 (xJ (aG 0)))
 (aN (iK (fB (f2 yU (lU (aG 0) (fU) (cD (fC (.int 1)))) (fC (.str "-")))) (bD 1 (lU (aG 0) (cD (fC (.int 1))) (fU))) bK)
 (aN (iK (yV (fB (f2 Kv (fL jP (aC (aG 1) aO)) (fC (.int 1)))) (fB (f2 HD (fL jP (aC (aG 1) aO)) (fC (.int 60))))) (cN (fC .non)) bK)
 (aN (bD 2 (fC (.int 0)))
 (aN (xQ [1] 3 (zZ (aG 1)) (aN (bD 4 (f2 Br (fC (.str "0123456789")) (aG 3)))
 (aN (iK (fB (f2 Kv (aG 4) (fC (.int 0)))) (cN (fC .non)) bK)
 (bD 2 (f2 cP (f2 nU (aG 2) (fC (.int 10))) (aG 4))))))
 (aN (iK (zQ (fB (f2 yU (f2 vL (aG 1) (fC (.int 0))) (fC (.str "0")))) (fB (f2 Kw (aG 0) (fC (.str "0"))))) (cN (fC .non)) bK)
 (aN (iK (fB (f2 Kw (aG 1) (aG 0))) (cN (Dw (aG 2))) bK)
 (iW 2)))))))
noncomputable def nM:List D→Option D:=jO 5 1 (By)
abbrev Ww:Stmt:=top 28
noncomputable def DX(κ:Nat→Addr):GS:=aN (oY 1 (f2 Mw (iH (aC (fC .non) (aC (fC (.int 7)) (aC (fC (.bl true)) (aC (iH (aC (fC (.str "1")) aO)) (aC (Dr (aC (fC (.str "1")) aO)) (aC (fC (.dk [.inr "1"] [.int 1])) (aC (Dw (fC (.int 3))) aO)))))))) (f2 gM (cU 2 gQ (aC (aG 0) (aC (fC (.int 64)) aO))) (fC (.int 7)))))
 (aN (iK (gF (fB (cU 2 (dJ κ) (aC (aG 1) (aC (fC .non) aO))))) (cN (fC (.bl false))) bK)
 (aN (oZ 2 (uC (aC (fL Bh (aC (fL xN (aC (aG 0) aO)) (aC (fC (.int 24)) aO))) aO)) (aN (bD 3 (cU 3 fX (aC (aG 0) (aC (aG 2) (aC (cU 2 jT (aC (aG 0) (aC (aG 2) aO))) aO)))))
 (iK (gF (fB (cU 2 (dJ κ) (aC (aG 3) (aC (cU 1 nM (aC (aG 3) aO)) aO))))) (cN (fC (.bl false))) bK)))
 (cN (fC (.bl true)))))
noncomputable def Wx(κ:Nat→Addr):List D→Option D:=jO 4 1 (DX κ)
section
variable{P:Program}{w:World}{K:aA}{mg:Str→Option Value}{base:Heap}
theorem rT:bJ ["text", "figures"] ["text"] (aH kO):=by walk_at "fs"
theorem yK(R:Raw K mg "is_number" kO) (gH:mg "len" = none) (Wy:mg "all" = none) (Ag:pA mg "MINUS" "-") (iU:Bk mg "MOST_FIGURES" (60)) (rW:pA mg "FIGURES" "0123456789") (Ca:pA mg "ZERO" "0"):pH P w K mg base "is_number" 1 1 (pO K 1 cC):=by
 refine R.vK rT (λ_ _ _ _ _ _ us hl=>match us,hl with | [_],_=>rfl) (λ_ _ _ _ _ _ _ hr=>?_)
 have gA:=hr.units
 have hu:=jD hr
 exact⟨_,aM (bG (i:=1) (Zt (jK (XN.r (Hy (aL (pv 0)) (XN.r (Bo Ag rfl)) (λa b=>Rc P7 PySem.F.slot_str_startswith PySem.F.type_str_startswith Hx a (aX b dU))))) (gG (aL (pv 0)) (dF (XN.r (aJ))) (fM)) (XR.n (aL (pv 0)))) (λh=>bA rT.nd rfl (by first | exact C9 rfl | exact C7 rfl) h))
  (aM (dR (jM (Hs Qy Qy iG iG (XN.r (aJ)) (XN.r (jN pP fK rfl gH G7 (aF (aL (pv 1)) aU))) (XN.r (Zy iU rfl)))) (aW (bU (jJ))) cF)
  (aM (dR (jM (jK (XN.r (jN Vm (Vn rfl) rfl Wy PyProof.Rows.boot_all (aF (XN.r (Nh ["sign"] [] rfl (.at (aH kO) ["text", "figures"] (by decide +kernel)) (Hz (aL (pv 1))) (Mm (by decide +kernel) rfl rfl) (λ_ _ _ _ _=>Ng) (λ_ _ _ _ _=>nY Wa Vz (aL (pv 0)) (XN.r (Bo rW rfl)) (by with_unfolding_all rfl)))) aU))))) (aW (bU (jJ))) cF)
  (aW (bU (Zr (XN.r (nY (Gz gA rfl) Gy (XN.r (zW (aL (pv 1)) (XN.r (aJ)) (λ_ _=>rfl))) (XN.r (Bo Ca rfl)) (bQ _))) (Bg (nY (or_eq gA rfl) qU (aL (pv 0)) (XN.r (Bo Ca rfl)) (bQ _))))))))⟩
theorem nO:bJ ["text"] ["text"] (aH gD):=by walk_at "fs"
theorem tD(R:Raw K mg "read_number" gD) (fO:pH P w K mg base "is_number" 1 1 (pO K 1 cC)) (aP:mg "isinstance" = none) (wB:mg "str" = none) (Eo:mg "int" = none):pH P w K mg base "read_number" 2 1 (pO K 1 eO):=by
 refine R.vK nO (λ_ _ _ _ _ _ us hl=>match us,hl with | [_],_=>rfl) (λ_ _ _ _ _ _ _ hr=>?_)
 have gA:=hr.units
 have hu:=jD hr
 exact⟨_,aM (dR (XW.xt (Hg (jM (jK (XN.r (vV (aL (pv 0)) (mF (v:=.ty "str") rfl wB M4 rfl) rfl aP)))) (zR (jM (jK (XN.r (dH fO (hr.mono (by decide)) rfl (aF (aL (pv 0)) aU)))))))) (aW (Vv)) cF)
  (aW (bU (Rn Nx Nv rfl Eo Q1 (aF (aL (pv 0)) aU))))⟩
theorem rY{κ:Nat→Addr}(R:Raw K mg "read_number" gD) (fO:pH P w K mg base "is_number" 1 1 (pO K 1 cC)) (kW:iZ K mg "NoText" (κ 0)) (aP:mg "isinstance" = none) (wB:mg "str" = none):Oa P w K mg base "read_number" 2 1 (Xz K κ 1 (bC κ)):=by
 refine R.KQ nO (λ_ _ _ _ _ _ us hl=>match us,hl with | [_],_=>rfl) (λ_ _ _ _ _ _ _ hr=>?_)
 have gA:=hr.units
 have hu:=jD hr
 exact⟨_,uE (BW (XW.xt (Hg (jM (jK (XN.r (vV (aL (pv 0)) (mF (v:=.ty "str") rfl wB M4 rfl) rfl aP)))) (zR (jM (jK (XN.r (dH fO (hr.mono (by decide)) rfl (aF (aL (pv 0)) aU)))))))) (uE (Ij kW rfl (aF (XN.r (bM)) aU))) (We))⟩
theorem cB:bJ ["text", "kinds", "number", "e"] ["text"] (aH oM):=by walk_at "fs"
theorem yL{κ:Nat→Addr}(R:Raw K mg "_law_asked" oM) (jU:pH P w K mg base "read_number" 2 1 (pO K 1 eO)) (jV:Oa P w K mg base "read_number" 2 1 (Xz K κ 1 (bC κ))) (jW:iZ K mg "StoneError" (κ 1)) (Ah:iZ K mg "NoRow" (κ 10)) (oR:iZ K mg "BadStone" (κ 8)) (wC:iZ K mg "NoDeed" (κ 9)) (Ai:iZ K mg "NoKey" (κ 7)) (rZ:iZ K mg "NoWorth" (κ 6)) (Aj:iZ K mg "Twice" (κ 5)) (Jp:iZ K mg "Full" (κ 4)) (oU:iZ K mg "NoChange" (κ 3)) (sE:iZ K mg "NoPlace" (κ 2)) (kW:iZ K mg "NoText" (κ 0)) (XM:∀i j,i<1→j<11→B0 K (.ref (κ i)) (.ref (κ j))=some (oK i j)) (XC:∀i,i<1→rF K (κ i)) (XV:∀i,i<1→L6 K (.ref (κ i)) (.type "ValueError")=some true) (aP:mg "isinstance" = none) (jX:mg "ValueError" = none):pH P w K mg base "_law_asked" 3 1 (pO K 1 (cO κ)):=by
 refine R.vK cB (λ_ _ _ _ _ _ us hl=>match us,hl with | [_],_=>rfl) (λ_ _ _ _ _ _ _ hr=>?_)
 have gA:=hr.units
 have hu:=jD hr
 exact⟨_,aM (bG (i:=1) (Hf zP) (λh=>bA cB.nd rfl (by first | exact C9 rfl | exact C7 rfl) h))
  (aM (bG (i:=2) (lN) (λh=>bA cB.nd rfl (by first | exact C9 rfl | exact C7 rfl) h))
  (aM (Wf (n:=1) (nj:=11) (sub:=oK) XM (λpn=>⟨_,aW (bG (i:=2) (dH jU (hr.mono (by decide)) rfl (aF (aL (pv 0)) aU)) (λh=>bA cB.nd rfl (by first | exact C9 rfl | exact C7 rfl) h))⟩) (λpn Ex E=>⟨_,Wm (i:=2) (Oc jV Od (hr.mono (by decide)) rfl (aF (aL (pv 0)) aU)) cB.nd rfl (by first | exact C9 rfl | exact C7 rfl)⟩) (λi=>.as (k:=3) jW.mg rfl (by decide) cB.nd rfl rfl (λpn e oe hi hc hm=>⟨_,Io (i:=1) (by decide) (vU (jQ (Oj (b:=oK i 0) (pv 3) (cW rfl kW.mg rfl) (Wk rfl hm hc (XC i hi) (CT (by decide) XM Pn i 0 hi (by decide))) rfl aP) (jQ (CK (Wi (pv 3) (mF (v:=.ty "ValueError") rfl jX rfl rfl) (Wh rfl hm hc (XV i hi)) rfl aP)) (vR)))) (λh=>bA cB.nd rfl (by first | exact C9 rfl | exact C7 rfl) h) (Io (i:=1) (by decide) (Bs vG (yZ.or (vD rfl)) (aL (pv 1)) (vU (jQ (vQ (cs:=([2,3,4,5,6]:List Nat).map κ) (b:=([2,3,4,5,6]:List Nat).any (oK i)) (G6 rfl) (pv 3) (qK (aX (cW rfl sE.mg rfl) (aX (cW rfl oU.mg rfl) (aX (cW rfl Jp.mg rfl) (aX (cW rfl Aj.mg rfl) (aX (cW rfl rZ.mg rfl) (dU))))))) (Aa rfl hm hc (XC i hi) (Ox (by decide) XM Pn i hi [2,3,4,5,6] (by decide))) rfl aP) (jQ (vQ (cs:=([7,9]:List Nat).map κ) (b:=([7,9]:List Nat).any (oK i)) (G6 rfl) (pv 3) (qK (aX (cW rfl Ai.mg rfl) (aX (cW rfl wC.mg rfl) (dU)))) (Aa rfl hm hc (XC i hi) (Ox (by decide) XM Pn i hi [7,9] (by decide))) rfl aP) (vR))))) (λh=>bA cB.nd rfl (by first | exact C9 rfl | exact C7 rfl) h) (Ol (i:=1) (Bs vG (yZ.or (vD rfl)) (aL (pv 1)) (vU (jQ (vQ (cs:=([8,10]:List Nat).map κ) (b:=([8,10]:List Nat).any (oK i)) (G6 rfl) (pv 3) (qK (aX (cW rfl oR.mg rfl) (aX (cW rfl Ah.mg rfl) (dU)))) (Aa rfl hm hc (XC i hi) (Ox (by decide) XM Pn i hi [8,10] (by decide))) rfl aP) (vR)))) (λh=>bA cB.nd rfl (by first | exact C9 rfl | exact C7 rfl) h)))⟩) (.nil)))
  (aW (Np (is:=[1,2]) (qK (aX (pv 1) (aX (pv 2) (dU))))))))⟩
theorem oV:bJ ["text", "due", "kinds", "number"] ["text", "due"] (aH rM):=by walk_at "fs"
theorem Ak{κ:Nat→Addr}(R:Raw K mg "_law_good" rM) (oW:pH P w K mg base "_law_asked" 3 1 (pO K 1 (cO κ))) (aP:mg "isinstance" = none) (Jq:mg "bool" = none) (Eo:mg "int" = none):pH P w K mg base "_law_good" 4 2 (pO K 2 (dJ κ)):=by
 refine R.vK oV (λ_ _ _ _ _ _ us hl=>match us,hl with | [_,_],_=>rfl) (λ_ _ _ _ _ _ _ hr=>?_)
 have gA:=hr.units
 have hu:=jD hr
 exact⟨_,aM (Dv (is:=[2,3]) (n:=2) (dH oW (hr.mono (by decide)) rfl (aF (aL (pv 0)) aU)) (λh=>Tr h (Tq rfl (wV (mJ (i:=2) oV.nd rfl (by first | exact C9 rfl | exact C7 rfl)) (wV (mJ (i:=3) oV.nd rfl (by first | exact C9 rfl | exact C7 rfl)) (Le))))))
  (aM (dR (cY Ub Vx (aL (pv 1)) (XN.r (lN)) (bQ _)) (aW (bU (nY (Iz gA rfl) Iw (aL (pv 2)) (vC (aF (XN.r (jJ)) (aF (XN.r (jJ)) (aF (XN.r (jJ)) (aF (XN.r (jJ)) (aF (XN.r (jJ)) aU)))))) (bQ _)))) cF)
  (aW (bU (zT (XN.r (nY (Iz gA rfl) Iw (aL (pv 2)) (vC aU) (bQ _))) (zT (XN.r (vV (aL (pv 3)) (mF (v:=.ty "int") rfl Eo Q1 rfl) rfl aP)) (zT (XN.r (Vi (XN.r (vV (aL (pv 3)) (mF (v:=.ty "bool") rfl Jq PyProof.Rows.boot_bool rfl) rfl aP)))) (Bg (nY (or_eq gA rfl) qU (aL (pv 3)) (aL (pv 1)) (bQ _)))))))))⟩
theorem gR:bJ ["script", "k", "turn", "factor", "mixed"] ["script", "k"] (aH rO):=by walk_at "fs"
theorem Al(R:Raw K mg "_law_draw" rO) (gH:mg "len" = none):pH P w K mg base "_law_draw" 1 2 (pO K 2 gQ):=by
 refine R.vK gR (λ_ _ _ _ _ _ us hl=>match us,hl with | [_,_],_=>rfl) (λ_ _ _ _ _ _ _ hr=>?_)
 have gA:=hr.units
 have hu:=jD hr
 exact⟨_,aM (dR (cY (or_eq gA rfl) qU (XN.r (jN qX (qY rfl) rfl gH G7 (aF (aL (pv 0)) aU))) (XN.r (aJ)) (bQ _)) (aW (bU aJ)) cF)
  (aM (bG (i:=2) (nW (aL (pv 1)) (XN.r (jN qX (qY rfl) rfl gH G7 (aF (aL (pv 0)) aU)))) (λh=>bA gR.nd rfl (by first | exact C9 rfl | exact C7 rfl) h))
  (aM (bG (i:=3) (cX (XN.r (aJ)) (XN.r (iI (XN.r (iI (XN.r (aJ)) (aL (pv 2)))) (aL (pv 2))))) (λh=>bA gR.nd rfl (by first | exact C9 rfl | exact C7 rfl) h))
  (aM (bG (i:=4) (cX (XN.r (iI (Bf (aL (pv 0)) (XN.r (cR (aL (pv 1)) (XN.r (jN qX (qY rfl) rfl gH G7 (aF (aL (pv 0)) aU))))) (λ_ _=>rfl)) (aL (pv 3)))) (XN.r (iI (XN.r (iI (aL (pv 1)) (aL (pv 1)))) (XN.r (aJ))))) (λh=>bA gR.nd rfl (by first | exact C9 rfl | exact C7 rfl) h))
  (aM (bG (i:=4) (cR (aL (pv 4)) (XN.r (aJ))) (λh=>bA gR.nd rfl (by first | exact C9 rfl | exact C7 rfl) h))
  (aW (bU (cR (XN.r (iI (aL (pv 4)) (aL (pv 4)))) (XN.r (aJ)))))))))⟩
theorem Ep:bJ ["script", "k", "j"] ["script", "k", "j"] (aH rP):=by walk_at "fs"
theorem Am(R:Raw K mg "_law_pick" rP) (gU:pH P w K mg base "_law_draw" 1 2 (pO K 2 gQ)) (gH:mg "len" = none):pH P w K mg base "_law_pick" 2 3 (pO K 3 fW):=by
 refine R.vK Ep (λ_ _ _ _ _ _ us hl=>match us,hl with | [_,_,_],_=>rfl) (λ_ _ _ _ _ _ _ hr=>?_)
 have gA:=hr.units
 have hu:=jD hr
 exact⟨_,aW (bU (dH gU (hr.mono (by decide)) rfl (aF (aL (pv 0)) (aF (XN.r (cX (aL (pv 1)) (XN.r (iI (XN.r (jN qX (qY rfl) rfl gH G7 (aF (aL (pv 0)) aU))) (aL (pv 2)))))) aU))))⟩
theorem eU:bJ ["script", "k", "text", "some", "at", "sign", "odd"] ["script", "k", "text"] (aH lX):=by walk_at "fs"
theorem wD(R:Raw K mg "_law_spoilt" lX) (fY:pH P w K mg base "_law_pick" 2 3 (pO K 3 fW)) (gH:mg "len" = none):pH P w K mg base "_law_spoilt" 3 3 (pO K 3 fX):=by
 refine R.vK eU (λ_ _ _ _ _ _ us hl=>match us,hl with | [_,_,_],_=>rfl) (λ_ _ _ _ _ _ _ hr=>?_)
 have gA:=hr.units
 have hu:=jD hr
 exact⟨_,aM (bG (i:=3) (dH fY (hr.mono (by decide)) rfl (aF (aL (pv 0)) (aF (aL (pv 1)) (aF (XN.r (aJ)) aU)))) (λh=>bA eU.nd rfl (by first | exact C9 rfl | exact C7 rfl) h))
  (aM (bG (i:=4) (cR (XN.r (nW (aL (pv 3)) (XN.r (aJ)))) (XN.r (cX (XN.r (jN pP fK rfl gH G7 (aF (aL (pv 2)) aU))) (XN.r (aJ))))) (λh=>bA eU.nd rfl (by first | exact C9 rfl | exact C7 rfl) h))
  (aM (bG (i:=5) (zW (XN.r (bM)) (XN.r (cR (XN.r (nW (aL (pv 3)) (XN.r (aJ)))) (XN.r (aJ)))) (λ_ _=>rfl)) (λh=>bA eU.nd rfl (by first | exact C9 rfl | exact C7 rfl) h))
  (aM (dR (cY tH iG (XN.r (cR (aL (pv 3)) (XN.r (aJ)))) (XN.r (aJ)) (bQ _)) (aW (vJ (pv 2))) cF)
  (aM (dR (cY tH iG (XN.r (cR (aL (pv 3)) (XN.r (aJ)))) (XN.r (aJ)) (bQ _)) (aW (bU (kI (XN.r (kI (XN.r (gG (aL (pv 2)) (fM) (dF (aL (pv 4))))) (aL (pv 5)))) (XN.r (gG (aL (pv 2)) (dF (aL (pv 4))) (fM)))))) cF)
  (aM (dR (cY tH iG (XN.r (cR (aL (pv 3)) (XN.r (aJ)))) (XN.r (aJ)) (bQ _)) (aW (bU (kI (XN.r (kI (XN.r (gG (aL (pv 2)) (fM) (dF (aL (pv 4))))) (aL (pv 5)))) (XN.r (gG (aL (pv 2)) (dF (XN.r (cX (aL (pv 4)) (XN.r (aJ))))) (fM)))))) cF)
  (aM (dR (cY (or_eq gA rfl) qU (XN.r (cR (aL (pv 3)) (XN.r (aJ)))) (XN.r (aJ)) (bQ _)) (aW (bU (kI (XN.r (gG (aL (pv 2)) (fM) (dF (aL (pv 4))))) (XN.r (gG (aL (pv 2)) (dF (XN.r (cX (aL (pv 4)) (XN.r (aJ))))) (fM)))))) cF)
  (aM (Pa (i:=6) (Hf (cM (bM) (cM (bM) (cM (bM) (cM (bM) (cM (bM) (cM (bM) (cM (bM) (cM (bM) (cM (bM) (cM (bM) (cM (bM) (cM (bM) zP))))))))))))) eU.nd rfl (by first | exact C9 rfl | exact C7 rfl))
  (aW (bU (XR.n (Bf (aL (pv 6)) (XN.r (cR (XN.r (nW (aL (pv 3)) (XN.r (aJ)))) (XN.r (aJ)))) (λ_ _=>rfl))))))))))))⟩
theorem dZ:bJ ["script", "k", "some", "number", "size", "text"] ["script", "k"] (aH rR):=by walk_at "fs"
theorem An(R:Raw K mg "_law_text" rR) (fY:pH P w K mg base "_law_pick" 2 3 (pO K 3 fW)) (wB:mg "str" = none):pH P w K mg base "_law_text" 3 2 (pO K 2 jT):=by
 refine R.vK dZ (λ_ _ _ _ _ _ us hl=>match us,hl with | [_,_],_=>rfl) (λ_ _ _ _ _ _ _ hr=>?_)
 have gA:=hr.units
 have hu:=jD hr
 exact⟨_,aM (bG (i:=2) (dH fY (hr.mono (by decide)) rfl (aF (aL (pv 0)) (aF (aL (pv 1)) (aF (XN.r (aJ)) aU)))) (λh=>bA dZ.nd rfl (by first | exact C9 rfl | exact C7 rfl) h))
  (aM (bG (i:=3) (cR (XN.r (cX (XN.r (iI (XN.r (zO (XN.r (dH fY (hr.mono (by decide)) rfl (aF (aL (pv 0)) (aF (aL (pv 1)) (aF (XN.r (aJ)) aU))))) (XN.r (aJ)))) (XN.r (aJ)))) (Bf (aL (pv 0)) (aL (pv 1)) (λ_ _=>rfl)))) (XN.r (zO (XN.r (aJ)) (XN.r (aJ))))) (λh=>bA dZ.nd rfl (by first | exact C9 rfl | exact C7 rfl) h))
  (aM (bG (i:=4) (cX (XN.r (aJ)) (XN.r (cR (XN.r (nW (aL (pv 2)) (XN.r (aJ)))) (XN.r (aJ))))) (λh=>bA dZ.nd rfl (by first | exact C9 rfl | exact C7 rfl) h))
  (aM (dR (cY tH iG (XN.r (cR (aL (pv 2)) (XN.r (aJ)))) (XN.r (aJ)) (bQ _)) (aW (bG (i:=4) (cX (XN.r (aJ)) (XN.r (cR (XN.r (nW (aL (pv 2)) (XN.r (aJ)))) (XN.r (aJ))))) (λh=>bA dZ.nd rfl (by first | exact C9 rfl | exact C7 rfl) h))) cF)
  (aM (bG (i:=5) (gG (XN.r (Rn Nu uO rfl wB M4 (aF (XN.r (cX (XN.r (zO (XN.r (aJ)) (XN.r (aJ)))) (aL (pv 3)))) aU))) (dF (XN.r (aJ))) (dF (XN.r (cX (XN.r (aJ)) (aL (pv 4)))))) (λh=>bA dZ.nd rfl (by first | exact C9 rfl | exact C7 rfl) h))
  (aM (dR (cY (or_eq gA rfl) qU (XN.r (cR (aL (pv 2)) (XN.r (aJ)))) (XN.r (aJ)) (bQ _)) (aW (bG (i:=5) (kI (XN.r (bM)) (aL (pv 5))) (λh=>bA dZ.nd rfl (by first | exact C9 rfl | exact C7 rfl) h))) cF)
  (aW (vJ (pv 5))))))))⟩
theorem fZ:bJ ["text", "figures", "number", "sign", "at"] ["text"] (aH wA):=by walk_at "fs"
theorem Er(R:Raw K mg "_law_due" wA) (gH:mg "len" = none):pH P w K mg base "_law_due" 1 1 (pO K 1 nM):=by
 refine R.vK fZ (λ_ _ _ _ _ _ us hl=>match us,hl with | [_],_=>rfl) (λ_ _ _ _ _ _ _ hr=>?_)
 have gA:=hr.units
 have hu:=jD hr
 exact⟨_,aM (bG (i:=1) (XR.n (aL (pv 0))) (λh=>bA fZ.nd rfl (by first | exact C9 rfl | exact C7 rfl) h))
  (aM (dR (cY (or_eq gA rfl) qU (XN.r (gG (aL (pv 0)) (fM) (dF (XN.r (aJ))))) (XN.r (bM)) (bQ _)) (aW (bG (i:=1) (gG (aL (pv 0)) (dF (XN.r (aJ))) (fM)) (λh=>bA fZ.nd rfl (by first | exact C9 rfl | exact C7 rfl) h))) cF)
  (aM (dR (XW.xt (Hg (cY tH iG (XN.r (jN pP fK rfl gH G7 (aF (aL (pv 1)) aU))) (XN.r (aJ)) (bQ _)) (zR (cY Ys iG (XN.r (jN pP fK rfl gH G7 (aF (aL (pv 1)) aU))) (XN.r (aJ)) (bQ _))))) (aW (bU (lN))) cF)
  (aM (bG (i:=2) aJ (λh=>bA fZ.nd rfl (by first | exact C9 rfl | exact C7 rfl) h))
  (aM (Vt [1] PassesOwn.never rfl (Hz (aL (pv 1))) (mJ (i:=3) fZ.nd rfl (by first | exact C9 rfl | exact C7 rfl)) (aM (bG (i:=4) (Ov (XN.r (bM)) (aL (pv 3)) (λa b=>Rc P7 PySem.F.slot_str_find PySem.F.type_str_find Ou a (aX b dU))) (λh=>bA fZ.nd rfl (by first | exact C9 rfl | exact C7 rfl) h))
  (aM (dR (cY tH iG (aL (pv 4)) (XN.r (aJ)) (bQ _)) (aW (bU (lN))) cF)
  (aW (bG (i:=2) (cX (XN.r (iI (aL (pv 2)) (XN.r (aJ)))) (aL (pv 4))) (λh=>bA fZ.nd rfl (by first | exact C9 rfl | exact C7 rfl) h))))))
  (aM (dR (XW.xt (Vh (cY (or_eq gA rfl) qU (XN.r (zW (aL (pv 1)) (XN.r (aJ)) (λ_ _=>rfl))) (XN.r (bM)) (bQ _)) (Mx (cY (Gz gA rfl) Gy (aL (pv 0)) (XN.r (bM)) (bQ _))))) (aW (bU (lN))) cF)
  (aM (dR (cY (Gz gA rfl) Gy (aL (pv 1)) (aL (pv 0)) (bQ _)) (aW (bU (Bl (aL (pv 2))))) cF)
  (aW (vJ (pv 2)))))))))⟩
theorem Cd:bJ ["script", "other", "k", "text"] ["script"] (aH Ww):=by walk_at "fs"
theorem Wz{κ:Nat→Addr}{f:Addr}{fd:FuncData}(F:Ks K "law" "law" Ww f fd) (gU:pH P w K mg base "_law_draw" 1 2 (pO K 2 gQ)) (nP:pH P w K mg base "_law_good" 4 2 (pO K 2 (dJ κ))) (sG:pH P w K mg base "_law_text" 3 2 (pO K 2 jT)) (lY:pH P w K mg base "_law_spoilt" 3 3 (pO K 3 fX)) (wF:pH P w K mg base "_law_due" 1 1 (pO K 1 nM)) (gH:mg "len" = none) (Xa:mg "min" = none) (Ao:mg "range" = none) (Vu:∀ns:List Int,ns.length≤63→(∀k∈ns,Small k)→Wx κ [.lst (ns.map D.int)]=some (.bl true)):mL P w K mg base Fd 5 f fd ["script"] (JT K):=by
 refine F.SM Cd (λcdv A outer s H E hr=>?_) Vu
 have gA:=hr.units
 have hu:=jD hr
 exact⟨_,aM (Ja (i:=1) (Bf (vC (aF (XN.r (lN)) (aF (XN.r (aJ)) (aF (XN.r (jJ)) (aF (vC (aF (XN.r (bM)) aU)) (aF (XN.r (Ve (cM (bM) zP))) (aF (XN.r (Iv (Gh Fi Fg Mf))) (aF (XN.r (Bl (XN.r (aJ)))) aU)))))))) (XN.r (cR (XN.r (dH gU (hr.mono (by decide)) rfl (aF (aL (pv 0)) (aF (XN.r (aJ)) aU)))) (XN.r (aJ)))) (λ_ _=>rfl)) Cd.nd rfl (by first | exact C9 rfl | exact C7 rfl))
  (aM (dR (jM (jK (XN.r (dH nP (hr.mono (by decide)) rfl (aF (aL (pv 1)) (aF (XN.r (lN)) aU)))))) (aW (bU (jJ))) cF)
  (aM (Nr PassesOwn.never rfl (Dy rfl Ao (aF (XN.r (jN Mz (Dd rfl) rfl Xa PyProof.Rows.boot_min (aF (XN.r (jN qX (qY rfl) rfl gH G7 (aF (aL (pv 0)) aU))) (aF (XN.r (aJ)) aU)))) aU)) (mJ (i:=2) Cd.nd rfl (by first | exact C9 rfl | exact C7 rfl)) (aM (bG (i:=3) (dH lY (hr.mono (by decide)) rfl (aF (aL (pv 0)) (aF (aL (pv 2)) (aF (XN.r (dH sG (hr.mono (by decide)) rfl (aF (aL (pv 0)) (aF (aL (pv 2)) aU)))) aU)))) (λh=>bA Cd.nd rfl (by first | exact C9 rfl | exact C7 rfl) h))
  (aW (dR (jM (jK (XN.r (dH nP (hr.mono (by decide)) rfl (aF (aL (pv 3)) (aF (XN.r (dH wF (hr.mono (by decide)) rfl (aF (aL (pv 3)) aU))) aU)))))) (aW (bU (jJ))) cF))))
  (aW (bU (jJ)))))⟩
end
end Rs

namespace Rs
open PySem L2
local macro_rules | `(tactic| walk_at "lt")=>`(tactic| exact G6 rfl)
local macro_rules | `(tactic| walk_at "sc")=>`(tactic| first | omega | with_reducible assumption | exact Int.pow_pos (by decide) | exact CZ (by omega) (by omega) | exact DG (by omega) (by omega))
local macro_rules | `(tactic| walk_at "op")=>`(tactic| first | with_reducible assumption | with_reducible exact bW _ _ | with_reducible exact dSub_int _ _ | with_reducible exact pU _ _ | with_reducible exact dNe_int _ _ | with_reducible exact gC _ _ | with_reducible exact Bu _ _ | with_reducible exact dGe_int _ _ | with_reducible exact vX _ _ | with_reducible exact oJ _ | with_reducible exact dLen_lst _ | with_reducible exact dLen_tup _ | ((with_reducible apply nG);walk_at "sc") | ((with_reducible apply bL);walk_at "sc") | ((with_reducible apply gP);(walk_at "sc");walk_at "sc") | ((with_reducible apply nH);exact⟨by decide,by decide,by omega⟩) | ((with_reducible apply yF);(walk_at "sc");walk_at "sc"))
local macro_rules | `(tactic| walk_at "ea")=>`(tactic| first | with_reducible exact Ji | ((with_reducible apply aB);(walk_at "ev");walk_at "ea"))
local macro_rules | `(tactic| walk_at "ev")=>`(tactic| first | ((with_reducible apply Pg);exact rfl) | with_reducible exact DN | with_reducible assumption | ((with_reducible apply aK);(walk_at "ev");(walk_at "ev");walk_at "op") | ((with_reducible apply jR);(walk_at "ea");walk_at "op") | ((with_reducible apply bH);(walk_at "ea");exact rfl;with_reducible assumption) | ((with_reducible apply pR);(walk_at "ev");exact rfl) | ((with_reducible apply vY);walk_at "ev") | ((with_reducible apply Bw);(walk_at "ea");walk_at "lt") | ((with_reducible apply dI);(walk_at "ea");walk_at "lt"))
local macro_rules | `(tactic| walk_at "et")=>`(tactic| first | ((with_reducible apply gB);walk_at "et") | ((with_reducible apply Jh);(walk_at "et");walk_at "et") | ((with_reducible apply Bx);(walk_at "et");walk_at "et") | ((with_reducible apply bV);walk_at "ev"))
local macro_rules | `(tactic| walk_at "set")=>`(tactic| (apply lV;(walk_at "ev");(walk_at "lt")))
local macro_rules | `(tactic| walk_at "q")=>`(tactic| (apply cQ;(walk_at "ev");(walk_at "lt")))
def sH(ns:List Int)(k:Int):Int:=if ns.length=0 then 0 else
 ((ns.getD (k%ns.length).toNat 0*(48271+7919*(k/ns.length)*(k/ns.length))+k*k*104729)%2147483647)*((ns.getD (k%ns.length).toNat 0*(48271+7919*(k/ns.length)*(k/ns.length))+k*k*104729)%2147483647)%2147483629
theorem Ce(ns:List Int)(k:Int):0≤sH ns k∧sH ns k<2147483629:=by
 unfold sH
 split
 ·exact⟨by decide,by decide⟩
 ·exact⟨F7 _ (by decide),G8 _ (by decide)⟩
theorem Cg{ns:List Int}{k:Int}(hl:ns.length≤63)(h0:0≤k)(h1:k≤1000):gQ [jA ns,.int k]=some (.int (sH ns k)):=by
 refine nF rfl ?_
 unfold yH sH
 by_cases c:ns.length=0
 ·rw[if_pos c]
  apply Ws
  ·walk_at "et"
  ·exact decide_eq_true (by omega)
  apply DK
  ·walk_at "ev"
  ·rfl
 ·rw[if_neg c]
  have cp:(0:Int)<ns.length:=by omega
  have cq:(ns.length:Int)<1073741824:=by omega
  have m0:=F7 k (show (ns.length:Int)≠0 by omega)
  have m1:=G8 k cp
  have t0:0≤k/(ns.length:Int):=Int.ediv_nonneg h0 (by omega)
  have t1:k/(ns.length:Int)≤1000:=Int.le_trans (Int.ediv_le_self _ h0) h1
  apply Jf
  ·walk_at "et"
  ·exact decide_eq_false (by omega)
  apply Ry
  apply lV
  ·walk_at "ev"
  ·walk_at "lt"
  generalize k/(ns.length:Int)=tn at *
  have q1:0≤tn*tn:=Q2 t0 t0
  have q2:tn*tn≤1000*1000:=Q3 t1 t1 t0 (by decide)
  have q3:7919*tn*tn=7919*(tn*tn):=Int.mul_assoc _ _ _
  apply lV
  ·walk_at "ev"
  ·walk_at "lt"
  have k2:0≤k*k:=Q2 h0 h0
  have k3:k*k≤1000*1000:=Q3 h1 h1 h0 (by decide)
  apply lV
  ·walk_at "ev"
  ·walk_at "lt"
  apply lV
  ·walk_at "ev"
  ·walk_at "lt"
  generalize hM:(ns.getD (k%ns.length).toNat 0*(48271+7919*tn*tn)+k*k*104729)%2147483647=M
  have b0:0≤M:=by rw[←hM];exact F7 _ (by decide)
  have b1:M<2147483647:=by rw[←hM];exact G8 _ (by decide)
  apply kJ
  walk_at "ev"
def sS(l:List Nat):Str:=⟨l.toArray⟩
theorem fG(l:List Nat):(sS l).length=l.length:=B5 ..
theorem pW(l:List Nat):(sS l).cps.toList=l:=rfl
theorem Xb(a b:List Nat):sS a++sS b=sS (a++b):=Str.ext' (by show a.toArray++b.toArray=(a++b).toArray;simp)
theorem Jr(x:Str):x=sS x.cps.toList:=Str.ext' (by show x.cps=x.cps.toList.toArray;simp)
theorem fJ(s:String):K8 s=sS (s.toList.map Char.toNat):=by rw[Jr (K8 s),PyProof.Rows.signs_ofString]
theorem Xc{a b:List Nat}(h:sS a=sS b):a=b:=by
 have:=congrArg (λx:Str=>x.cps.toList) h
 exact this
theorem KR:("" : Str)=sS []:=fJ ""
theorem Pq:("-" : Str)=sS [45]:=fJ "-"
theorem DY:("0" : Str)=sS [48]:=fJ "0"
theorem EY:("0123456789" : Str)=sS [48,49,50,51,52,53,54,55,56,57]:=fJ "0123456789"
theorem wG(a b:Str):yU (.str a) (.str b)=some (.bl (a==b)):=by
 unfold yU
 show (if wW (V.str a) (V.str b)=true then _ else _)=_
 rw[show wW (V.str a) (V.str b)=true from rfl,if_pos rfl,pK]
theorem wH(a b:Str):Kw (.str a) (.str b)=some (.bl (!(a==b))):=by
 unfold Kw
 show (if wW (V.str a) (V.str b)=true then _ else _)=_
 rw[show wW (V.str a) (V.str b)=true from rfl,if_pos rfl,pK]
theorem gJ(a b:List Nat):(sS a==sS b)=(a==b):=by
 rw[F6,beq_iff_eq,beq_iff_eq]
 exact⟨Xc,λh=>by rw[h]⟩
theorem gW(a b:List Nat)(h:a.length+b.length≤100000):iY (.str (sS a)) (.str (sS b))=some (.str (sS (a++b))):=by
 unfold iY
 dsimp only
 rw[if_pos (by rw[fG,fG];exact h),Xb]
theorem wI{l:List Nat}{i:Int}{c:Nat}(h0:0≤i)(h:l[i.toNat]?=some c)(hl:l.length≤100000):vL (.str (sS l)) (.int i)=some (.str (sS [c])):=by
 unfold vL
 dsimp only
 rw[if_pos (by rw[fG];exact hl),pW,Ac h0 h]
 rfl
theorem sI(l:List Nat)(h:l.length≤100000):jP [.str (sS l)]=some (.int l.length):=by
 unfold jP
 dsimp only
 rw[fG,if_pos h]
theorem Pu(c:Nat)(l:List Nat):Txt.startswith (sS (c::l)) (sS [45])=(c==45):=by
 unfold Txt.startswith
 rw[StrLaws.subAt_eq,fG,fG,pW,pW,show decide (0+[45].length≤(c::l).length)=true from decide_eq_true (by simp),N1]
 show ([c]==[45])=(c==45)
 simp
def Js(m:Nat):List Nat:=(O6 10 m).map Char.toNat
theorem QW(d:Nat)(h:d<10):(N2 d).toNat=48+d:=by
 have:∀d:Nat,d<10→(N2 d).toNat=48+d:=by decide
 exact this d h
theorem Xd{m:Nat}(h:m<10):Js m=[48+m]:=by
 unfold Js
 rw[O8 h]
 show [(N2 m).toNat]=_
 rw[QW m h]
theorem Xe{m:Nat}(h:10≤m):Js m=Js (m/10)++[48+m%10]:=by
 have hm:m%10<10:=Nat.mod_lt m (by decide)
 have t:O6 10 (m/10)++O6 10 (m%10)=O6 10 (10*(m/10)+m%10):=Nat.toDigits_append_toDigits (by decide) (by omega) hm
 rw[Nat.div_add_mod]at t
 unfold Js
 rw[←t,T0,O8 hm]
 show _++[(N2 (m%10)).toNat]=_
 rw[QW _ hm]
theorem Px(m:Nat):∀k,1≤k→m<10 ^ k→1≤(Js m).length∧(Js m).length≤k:=by
 induction m using Nat.strongRecOn with
 | _ m ih=>
  intro k h1 hk
  by_cases h:m<10
  ·rw[Xd h]
   exact⟨C0 _,h1⟩
  ·have hk2:k≠1:=λz=>by subst z;omega
   have e:(10:Nat) ^ k=10 ^ (k-1)*10:=by rw[←Nat.pow_succ];congr 1;omega
   have:=ih (m/10) (by omega) (k-1) (by omega) (by rw[e]at hk;omega)
   rw[Xe (by omega),C2,D2]
   omega
theorem Py(m:Nat):xX (m:Int)=sS (Js m):=by
 unfold xX
 rw[Jr (K8 _),PySem.W.KIN.signs_num]
 rfl
theorem Pz(m:Nat)(h:0<m):xX (-(m:Int))=sS (45::Js m):=by
 obtain⟨k,rfl⟩:∃k,m=k+1:=⟨m-1,by omega⟩
 unfold xX
 rw[fJ]
 show sS (("-" ++ Nat.repr (k+1)).toList.map Char.toNat)=_
 rw[String.toList_append,Nat.toList_repr,T0]
 rfl
def txt(n:Int):List Nat:=if n<0 then 45::Js n.natAbs else Js n.natAbs
theorem Qa(n:Int):xX n=sS (txt n):=by
 unfold txt
 by_cases h:n<0
 ·rw[if_pos h]
  have e:=Pz n.natAbs (by omega)
  rw[show -((n.natAbs:Nat):Int)=n by omega]at e
  exact e
 ·rw[if_neg h]
  have e:=Py n.natAbs
  rw[show ((n.natAbs:Nat):Int)=n by omega]at e
  exact e
theorem Qc{f1 f2 f3:FE}{e:DE}{a b c:Int}(h1:f1 e=some (.int a))(h2:f2 e=some (.int b))(h3:f3 e=some (.int c)):Hr Rj Rj f1 f2 f3 e=some (decide (a≤b)&&decide (b≤c)):=by
 unfold Hr
 rw[h1,h2,h3]
 dsimp only[F3]
 rw[vX,F3]
 by_cases q:a≤b
 ·rw[decide_eq_true q]
  dsimp only
  rw[vX]
  rfl
 ·rw[decide_eq_false q]
  rfl
theorem yM{i:Nat}{g:GS}(I:Nat→EN→Prop)(Rt:D→Prop):∀(xs:List D)(env:EN)(n:Nat),I n env→(∀k x env,xs[k]?=some x→I (n+k) env→i<env.length∧((∃env',g (env.set i (.fro x))=.next env'∧I (n+k+1) env')∨(∃d,g (env.set i (.fro x))=.ret d∧Rt d)))→(∃env',lC i g xs env=.next env'∧I (n+xs.length) env')∨∃d,lC i g xs env=.ret d∧Rt d
 | [],env,n,h,_=>.inl ⟨env,rfl,h⟩
 | x::xs,env,n,h,st=>by
  obtain⟨hl,q⟩:=st 0 x env rfl h
  unfold lC
  rw[if_pos hl]
  rcases q with ⟨env',q1,q2⟩ | ⟨d,q1,q2⟩
  ·rw[q1]
   have:=yM I Rt xs env' (n+1) q2 λk y e hy hi=>by
    have z:=st (k+1) y e hy (by rw[show n+(k+1)=n+1+k by omega];exact hi)
    rw[show n+(k+1)=n+1+k by omega]at z
    exact z
   rw[G9,show n+(xs.length+1)=n+1+xs.length by omega]
   exact this
  ·rw[q1]
   exact .inr ⟨d,rfl,q2⟩
theorem Jt{i:Nat}{gb g:GS}{env:EN}{Pr:SR→Prop}{js:List Nat}{fi:FA}{pI:EN}{xs:List D}(I:Nat→EN→Prop)(hf:nR js env=pI)(h:fi (zE pI)=some xs)(h0:I 0 pI)
  (st:∀(k:Nat) x env,xs[k]?=some x→I k env→i<env.length∧Qs (λr=>(∃env',r=.next env'∧I (k+1) env')∨∃d,r=.ret d∧Pr (.ret d)) (gb (env.set i (.fro x)))) (k:∀env',I xs.length env'→Qs Pr (g env')):Qs Pr (aN (xQ js i fi gb) g env):=by
 rcases yM (i:=i) (g:=gb) I (λd=>Pr (.ret d)) xs pI 0 h0 λk x e hx hi=>by
  rw[O5]at hi ⊢
  exact⟨(st k x e hx hi).1,(st k x e hx hi).2⟩with ⟨env',h1,h2⟩ | ⟨d,h1,h2⟩
 ·rw[O5]at h2
  rw[dY ((Bt hf h).trans h1)]
  exact k env' h2
 ·rw[nD ((Bt hf h).trans h1)]
  exact h2
def gY(c:Nat):Bool:=decide (48≤c∧c≤57)
def nQ(l:List Nat):List Nat:=if l.head?=some 45 then l.tail else l
def eV(L F:List Nat):Bool:=(decide (1≤F.length)&&decide (F.length≤60))&&(F.all gY&&(!(F.head?==some 48)||(L==[48])))
def yN(L F:List Nat):Int:=if F=L then(J8 F:Int)else -(J8 F:Int)
theorem Ci(l:List Nat):(nQ l).length≤l.length:=by
 unfold nQ
 split
 ·rw[List.length_tail];omega
 ·exact C0 _
theorem Qd(c:Nat):decide (c∈([48,49,50,51,52,53,54,55,56,57]:List Nat))=gY c:=by
 unfold gY
 rw[decide_eq_decide]
 simp only[G0,S3,or_false]
 omega
theorem Cj(c:Nat):Ea (sS [48,49,50,51,52,53,54,55,56,57]) (sS [c])=gY c:=by
 unfold Ea
 rw[show sS [c]=(⟨#[c]⟩:Str)from rfl,StrLaws.found_one,pW,Qd]
theorem Ju(c:Nat):Txt.find (sS [48,49,50,51,52,53,54,55,56,57]) (sS [c])=if gY c=true then((c-48:Nat):Int)else -1:=by
 by_cases h:gY c=true
 ·rw[if_pos h]
  unfold gY at h
  have h:=of_decide_eq_true h
  have:∀d:Nat,d<10→Txt.find (sS [48,49,50,51,52,53,54,55,56,57]) (sS [48+d])=(d:Int):=by decide +kernel
  have z:=this (c-48) (by omega)
  rw[show 48+(c-48)=c by omega]at z
  exact z
 ·rw[if_neg h]
  have z:=Cj c
  rw[R6.mpr h]at z
  unfold Ea at z
  unfold Txt.find
  cases q:Builtin.Str.occurrences (sS [48,49,50,51,52,53,54,55,56,57]) (sS [c]) 0 (sS [48,49,50,51,52,53,54,55,56,57]).length 1 with
  | nil=>rfl
  | cons a b=>rw[q]at z;cases z
theorem eH{f:FE}{fl fh:FO}{e:DE}{l:List Nat}{lo hi:Option Int}(h1:f e=some (.str (sS l)))(h2:fl e=some lo)(h3:fh e=some hi)(ho:yE (sS l) lo hi):lU f fl fh e=some (.str (sS (dG l lo hi))):=by
 unfold lU
 rw[h1,h2,h3]
 show Ot (.str (sS l)) lo hi=_
 unfold Ot
 dsimp only
 rw[if_pos ho]
 rfl
theorem dM(n d:Nat){i:Int}(h:0≤i):HT.uP n d (some i)=min i.toNat n:=by
 show (if i<0 then _ else min i.toNat n)=_
 rw[if_neg (by omega)]
theorem gZ{l:List Nat}{a:Int}(h:0≤a)(hl:l.length≤1000):yE (sS l) (some a) none:=by
 refine⟨λi hi=>(by cases F9.mp hi;exact h),λi hi=>(by cases hi),?_,by rw[fG];omega⟩
 rw[dM _ _ h]
 exact Nat.min_le_right _ _
theorem pX{l:List Nat}{a:Int}(h:0≤a)(hl:l.length≤1000):yE (sS l) none (some a):=
 ⟨λi hi=>(by cases hi),λi hi=>(by cases F9.mp hi;exact h),L8 _,by rw[fG];omega⟩
theorem Es{l:List Nat}{a b:Int}(h:0≤a)(hb:a≤b)(hl:l.length≤1000):yE (sS l) (some a) (some b):=by
 refine⟨λi hi=>(by cases F9.mp hi;exact h),λi hi=>(by cases F9.mp hi;omega),?_,by rw[fG];omega⟩
 rw[dM _ _ h,dM _ _ (by omega)]
 omega
theorem pY{α:Type}(l:List α)(lo hi:Option Int):(dG l lo hi).length≤l.length:=by
 unfold dG
 rw[F8,K3]
 omega
theorem Ck(c:Nat)(t:List Nat):dG (c::t) (some 1) none=t:=by
 unfold dG
 rw[dM _ _ (by decide)]
 show ((c::t).drop (min 1 (t.length+1))).take (t.length+1-min 1 (t.length+1))=t
 rw[show min 1 (t.length+1)=1 by omega]
 show t.take (t.length+1-1)=t
 rw[P6 (by omega)]
theorem Et(l:List Nat):dG l none (some 1)=l.take 1:=by
 unfold dG
 rw[dM _ _ (by decide)]
 show (l.drop 0).take (min 1 l.length-0)=l.take 1
 rw[T4,Nat.sub_zero]
 cases l with
 | nil=>rfl
 | cons c t=>
  rw[show min 1 (c::t).length=1 by rw[G9];omega]
theorem Eu(l:List Nat):Txt.startswith (sS l) (sS [45])=decide (l.head?=some 45):=by
 cases l with
 | nil=>decide +kernel
 | cons c t=>
  rw[Pu]
  show (c==45)=decide (some c=some 45)
  rw[F6,beq_iff_eq,decide_eq_true_iff]
  exact⟨λh=>by rw[h],λh=>by cases h;rfl⟩
theorem Ew{l L:List Nat}(h2:l.length≤1000) :
  Qs (λr=>∃d,r=.ret d∧d=.bl (eV L l)) ((aN (iK (gF (Hr Rj Rj (fC (.int 1)) (fL jP (aC (aG 1) aO)) (fC (.int (60))))) (cN (fC (.bl false))) bK)
 (aN (iK (gF (fB (fL Hh (aC (mZ (zZ (aG 1)) [] xP (f2 Hv (aG 0) (fC (.str (sS [48,49,50,51,52,53,54,55,56,57]))))) aO)))) (cN (fC (.bl false))) bK)
 (cN (Ds (f2 Kw (f2 vL (aG 1) (fC (.int 0))) (fC (.str (sS [48])))) (f2 yU (aG 0) (fC (.str (sS [48])))))))) [.fro (.str (sS L)),.own (.str (sS l))]):=by
 unfold eV
 refine nJ (gB (Qc (a:=1) (b:=l.length) (c:=60) rfl (jR (aB rfl rfl) (sI l (by omega))) rfl)) (λhb=>?_) (λhb=>lW ?_)
 ·refine lJ rfl ⟨_,rfl,?_⟩
  have:(decide (1≤l.length)&&decide (l.length≤60))=false:=by
   rw[J1,M5]at hb
   rw[M5]
   rcases hb with z | z
   ·exact .inl (decide_eq_false (by have:=of_decide_eq_false z;omega))
   ·exact .inr (decide_eq_false (by have:=of_decide_eq_false z;omega))
  rw[this]
  rfl
 rw[K9,C1]at hb
 have b1:1≤l.length:=by have:=of_decide_eq_true hb.1;omega
 have b2:l.length≤60:=by have:=of_decide_eq_true hb.2;omega
 rw[decide_eq_true b1,decide_eq_true b2,N1,N1]
 have hc:mZ (zZ (aG 1)) [] xP (f2 Hv (aG 0) (fC (.str (sS [48,49,50,51,52,53,54,55,56,57])))) (rE [.fro (.str (sS L)),.own (.str (sS l))])=some (.lst (l.map λc=>D.bl (gY c))):=by
  refine Em (xs:=l) (ψ:=λc=>D.str ⟨#[c]⟩) (φ:=λc=>D.bl (gY c)) rfl (by omega) λc hc=>?_
  refine aK rfl rfl ?_
  show some (D.bl (Ea (sS [48,49,50,51,52,53,54,55,56,57]) (sS [c])))=_
  rw[Cj]
 refine nJ (gB (bV (jR (aB hc rfl) (Jo gY l)))) (λhb=>?_) (λhb=>lW ?_)
 ·rw[J1]at hb
  exact lJ rfl ⟨_,rfl,by rw[hb];rfl⟩
 rw[K9]at hb
 rw[hb,N1]
 obtain⟨c,t,rfl⟩:∃c t,l=c::t:=by
  cases l with
  | nil=>simp at b1
  | cons c t=>exact⟨c,t,rfl⟩
 refine vZ (Pk (aK (aK rfl rfl (wI (c:=c) (by decide) rfl (by omega))) rfl (wH _ _)) (aK rfl rfl (wG _ _))) ⟨_,rfl,?_⟩
 rw[gJ,gJ]
 congr 3
 rw[F6,beq_iff_eq,beq_iff_eq]
 exact⟨λh=>by cases h;rfl,λh=>by cases h;rfl⟩
theorem Qe{l:List Nat}(hl:l.length≤1000):cC [.str (sS l)]=some (.bl (eV l (nQ l))):=by
 suffices hh:∃d,cC [.str (sS l)]=some d∧d=.bl (eV l (nQ l)) by
  obtain⟨d,h1,rfl⟩:=hh
  exact h1
 have hf:=Ci l
 refine iT rfl ?_
 unfold uH
 rw[Pq,DY,EY]
 have hs:(fB (f2 vM (aG 0) (fC (.str (sS [45]))))) (rE [.fro (.str (sS l)),.no])=some (decide (l.head?=some 45)):=by
  refine bV (aK rfl rfl ?_)
  show some (D.bl (Txt.startswith (sS l) (sS [45])))=_
  rw[Eu]
 refine cQ (d:=.str (sS (nQ l))) ?_ (by exact Nat.le_of_ble_eq_true rfl) (Ew (by omega))
 unfold nQ
 by_cases c:l.head?=some 45
 ·rw[if_pos c]
  rw[decide_eq_true c]at hs
  refine DR hs ?_
  obtain⟨t,rfl⟩:∃t,l=45::t:=by
   cases l with
   | nil=>cases c
   | cons a t=>cases c;exact⟨t,rfl⟩
  refine(eH rfl (bY rfl) rfl (gZ (by decide) hl)).trans ?_
  rw[Ck]
  rfl
 ·rw[if_neg c]
  rw[decide_eq_false c]at hs
  exact DW hs (pR rfl rfl)
theorem Qf{l:List Nat}(hl:l.length≤100)(h:eV l (nQ l)=true):M8 (sS l)=some (yN l (nQ l)):=by
 unfold eV at h
 rw[C1,C1,C1]at h
 obtain⟨⟨h1,h2⟩,h3,h4⟩:=h
 have h1:=of_decide_eq_true h1
 have hd:PySem.NumText.AllDigits (nQ l):=λc hc=>of_decide_eq_true (I0.mp h3 c hc)
 have hn:nQ l≠[]:=λz=>by rw[z]at h1;simp at h1
 unfold yN
 by_cases c:l.head?=some 45
 ·obtain⟨t,rfl⟩:∃t,l=45::t:=by
   cases l with
   | nil=>cases c
   | cons a t=>cases c;exact⟨t,rfl⟩
  have e:nQ (45::t)=t:=by unfold nQ;rw[if_pos c];rfl
  rw[e]at hd hn ⊢
  rw[if_neg (λz=>by have:=congrArg List.length z;simp at this),PySem.intText_neg (x:=sS (45::t)) (cs:=t) rfl hd hn (by rw[fG];omega)]
 ·have e:nQ l=l:=by unfold nQ;rw[if_neg c]
  rw[e]at hd hn ⊢
  rw[if_pos rfl,PySem.intText_digits (x:=sS l) hd hn (by rw[fG];omega)]
  rfl
theorem pZ{f:FE}{e:DE}{d:D}{T t:String}(h:f e=some d)(ht:CN d=some t)(hT:T∈Bq):rG T f e=some (.bl (Ab t T)):=by
 unfold rG
 rw[h]
 show Oo T d=_
 unfold Oo
 rw[if_pos hT,ht]
 rfl
noncomputable abbrev wJ:FT:=yV (gF (fB (rG "str" (aG 0)))) (gF (fB (cU 1 cC (aC (aG 0) aO))))
theorem Jv{l:List Nat}(hl:l.length≤1000):wJ (rE [.fro (.str (sS l))])=some (!eV l (nQ l)):=
 (CV (gB (b:=true) (bV (pZ (t := "str") rfl rfl (by decide))))).trans (gB (bV (bH (aB rfl rfl) rfl (Qe hl))))
theorem Xf{d:D}{t:String}(h:CN d=some t)(hs:Ab t "str" = false):wJ (rE [.fro d])=some true:=by
 refine CW (gB (b:=false) (bV ?_))
 rw[←hs]
 exact pZ rfl h (by decide)
theorem KY{κ:Nat→Addr}{d:D}(h:wJ (rE [.fro d])=some false):bC κ [d]=none:=by
 unfold bC Ru
 rw[if_pos (show [d].length=1 from rfl)]
 show eQ κ [.fro d]=none
 unfold eQ BV
 have h':(yV (gF (fB (rG "str" (aG 0)))) (gF (fB (cU 1 cC (aC (aG 0) aO))))) (rE [.fro d])=_:=h
 rw[h']
 rfl
theorem Sg{κ:Nat→Addr}{d:D}(h:wJ (rE [.fro d])=some true):bC κ [d]=some 0:=by
 unfold bC Ru
 rw[if_pos (show [d].length=1 from rfl)]
 show eQ κ [.fro d]=some 0
 unfold eQ BV
 have h':(yV (gF (fB (rG "str" (aG 0)))) (gF (fB (cU 1 cC (aC (aG 0) aO))))) (rE [.fro d])=_:=h
 rw[h']
 rfl
theorem Jw{l:List Nat}(hl:l.length≤100)(h:eV l (nQ l)=true):eO [.str (sS l)]=some (.int (yN l (nQ l))):=by
 refine nF rfl ?_
 unfold pB
 refine Jf (Jv (l:=l) (by omega)) (by rw[h];rfl) (Ry ?_)
 refine kJ (jR (aB rfl rfl) ?_)
 show (if(sS l).length≤640 then(M8 (sS l)).map D.int else none)=_
 rw[if_pos (by rw[fG];omega),Qf hl h]
 rfl
theorem FJ{sub:vP}{n nj j i:Nat}{g:GS}(h1:i<n)(h2:j<nj)(h:sub i j=true):lH sub n nj ((j,g)::[]) i=g:=by
 unfold lH
 rw[if_pos ⟨h1,h2⟩,if_pos h]
theorem Xg{z:GZ}{g g2:GS}{sub:vP}{n nj:Nat}{hs:Nat→List (Nat×GS)}{env:EN}{Pr:SR→Prop}(h:z env=none)(k:Qs Pr (aN g g2 env)):Qs Pr (aN (sZ z g sub n nj hs) g2 env):=by
 have e:sZ z g sub n nj hs env=g env:=by unfold sZ;rw[h]
 unfold aN at k ⊢
 rw[e]
 exact k
theorem Xh{z:GZ}{g g2 gh:GS}{sub:vP}{n nj i:Nat}{hs:Nat→List (Nat×GS)}{env:EN}{Pr:SR→Prop}(h:z env=some i)(hp:lH sub n nj (hs i) i=gh)(k:Qs Pr (aN gh g2 env)):Qs Pr (aN (sZ z g sub n nj hs) g2 env):=by
 have e:sZ z g sub n nj hs env=gh env:=by unfold sZ;rw[h];show lH sub n nj (hs i) i env=_;rw[hp]
 unfold aN at k ⊢
 rw[e]
 exact k
theorem KZ{g g2:GS}{k:Nat}{env env':EN}{Pr:SR→Prop}(h1:k<env.length)(h:g (env.set k .no)=.next env')(h2:k<env'.length)(kk:Qs Pr (g2 (env'.set k .no))):Qs Pr (aN (Yb k g) g2 env):=by
 have e:Yb k g env=.next (env'.set k .no):=by unfold Yb;rw[if_pos h1,h];dsimp only;rw[if_pos h2]
 rw[dY e]
 exact kk
abbrev Xi:D:=.lst [.bl true,.bl true,.bl false,.bl false,.bl false]
theorem uI{κ:Nat→Addr}{d:D}(h:bC κ [d]=some 0):cO κ [d]=some (.tup [Xi,.non]):=by
 suffices hh:∃x,cO κ [d]=some x∧x=.tup [Xi,.non] by
  obtain⟨x,h1,rfl⟩:=hh
  exact h1
 refine iT rfl ?_
 unfold oO
 refine cQ (dI rfl (by decide)) (by exact Nat.le_of_ble_eq_true rfl) (cQ rfl (by exact Nat.le_of_ble_eq_true rfl) ?_)
 refine Xh (i:=0) ?_ (FJ (by decide) (by decide) rfl) ?_
 ·show (some [d]).bind (bC κ)=some 0
  exact h
 refine KZ (by exact Nat.le_of_ble_eq_true rfl) (lV (dI (aB rfl (aB rfl rfl)) (by decide)) (by exact Nat.le_of_ble_eq_true rfl) (lV (aK rfl (dI (aB rfl (aB rfl rfl)) (by decide)) (uG rfl (by decide))) (by exact Nat.le_of_ble_eq_true rfl) (pQ (aK rfl (dI (aB rfl rfl) (by decide)) (uG rfl (by decide))) (by exact Nat.le_of_ble_eq_true rfl)))) (by exact Nat.le_of_ble_eq_true rfl) ?_
 exact Jm rfl (by decide) (by decide) ⟨_,rfl,rfl⟩
theorem Jx{κ:Nat→Addr}{d:D}{v:Int}(h:bC κ [d]=none)(hv:eO [d]=some (.int v)):cO κ [d]=some (.tup [.lst [],.int v]):=by
 suffices hh:∃x,cO κ [d]=some x∧x=.tup [.lst [],.int v] by
  obtain⟨x,h1,rfl⟩:=hh
  exact h1
 refine iT rfl ?_
 unfold oO
 refine cQ (dI rfl (by decide)) (by exact Nat.le_of_ble_eq_true rfl) (cQ rfl (by exact Nat.le_of_ble_eq_true rfl) ?_)
 refine Xg ?_ ?_
 ·show (some [d]).bind (bC κ)=none
  exact h
 refine cQ (bH (aB rfl rfl) rfl hv) (by exact Nat.le_of_ble_eq_true rfl) ?_
 exact Jm rfl (by decide) (by decide) ⟨_,rfl,rfl⟩
theorem yO{κ:Nat→Addr}{d:D}(h:cO κ [d]=some (.tup [Xi,.non])):dJ κ [d,.non]=some (.bl true):=by
 suffices hh:∃x,dJ κ [d,.non]=some x∧x=.bl true by
  obtain⟨x,h1,rfl⟩:=hh
  exact h1
 refine iT rfl ?_
 unfold rN
 refine Sd (bH (aB rfl rfl) rfl h) rfl rfl ?_
 refine Rz (b:=true) (bV (aK rfl rfl rfl)) rfl (lJ (aK rfl (dI (aB rfl (aB rfl (aB rfl (aB rfl (aB rfl rfl))))) (by decide)) rfl) ⟨_,rfl,?_⟩)
 exact congrArg D.bl (by decide)
theorem Qg{κ:Nat→Addr}{d:D}{v:Int}(h:cO κ [d]=some (.tup [.lst [],.int v])):dJ κ [d,.int v]=some (.bl true):=by
 suffices hh:∃x,dJ κ [d,.int v]=some x∧x=.bl true by
  obtain⟨x,h1,rfl⟩:=hh
  exact h1
 refine iT rfl ?_
 unfold rN
 refine Sd (bH (aB rfl rfl) rfl h) rfl rfl ?_
 refine Jl (b:=false) (bV (aK rfl rfl rfl)) rfl (lW (vZ (rK (a:=true) (aK rfl (dI rfl (by decide)) (show _=some (D.bl (decide (([]:List Bool)=[])))from rfl)) (rK (a:=true) (pZ (t := "int") rfl rfl (by decide)) (rK (a:=true) (Jg (b:=false) (pZ (t := "int") rfl rfl (by decide))) (aK rfl rfl (pU v v))))) ⟨_,rfl,?_⟩))
 rw[decide_eq_true rfl]
 rfl
theorem yP{L F:List Nat}(h2:F.length≤1000) :
  Qs (λr=>∃d,r=.ret d∧d=if eV L F=true then .int (yN L F)else .non) ((aN (iK (yV (fB (f2 Kv (fL jP (aC (aG 1) aO)) (fC (.int 1)))) (fB (f2 HD (fL jP (aC (aG 1) aO)) (fC (.int 60))))) (cN (fC .non)) bK)
 (aN (bD 2 (fC (.int 0)))
 (aN (xQ [1] 3 (zZ (aG 1)) (aN (bD 4 (f2 Br (fC (.str (sS [48,49,50,51,52,53,54,55,56,57]))) (aG 3)))
 (aN (iK (fB (f2 Kv (aG 4) (fC (.int 0)))) (cN (fC .non)) bK)
 (bD 2 (f2 cP (f2 nU (aG 2) (fC (.int 10))) (aG 4))))))
 (aN (iK (zQ (fB (f2 yU (f2 vL (aG 1) (fC (.int 0))) (fC (.str (sS [48]))))) (fB (f2 Kw (aG 0) (fC (.str (sS [48])))))) (cN (fC .non)) bK)
 (aN (iK (fB (f2 Kw (aG 1) (aG 0))) (cN (Dw (aG 2))) bK)
 (iW 2)))))) [.fro (.str (sS L)),.own (.str (sS F)),.no,.no,.no]):=by
 have hlen:=sI F (by omega)
 refine nJ (Jh (bV (aK (jR (aB rfl rfl) hlen) rfl (gC _ _))) (bV (aK (jR (aB rfl rfl) hlen) rfl (Bu _ _)))) (λhb=>?_) (λhb=>lW ?_)
 ·refine lJ rfl ⟨_,rfl,?_⟩
  rw[if_neg]
  intro z
  unfold eV at z
  rw[C1,C1]at z
  have z1:=of_decide_eq_true z.1.1
  have z2:=of_decide_eq_true z.1.2
  rw[T1]at hb
  rcases hb with q | q
  ·have:=of_decide_eq_true q;omega
  ·have:=of_decide_eq_true q;omega
 rw[Bool.or_eq_false_iff]at hb
 have b1:1≤F.length:=by have:=of_decide_eq_false hb.1;omega
 have b2:F.length≤60:=by have:=of_decide_eq_false hb.2;omega
 refine cQ rfl (by exact Nat.le_of_ble_eq_true rfl) ?_
 refine Jt (xs:=F.map λc=>D.str ⟨#[c]⟩) (λk env=>∃v3 v4,env=[.fro (.str (sS L)),.fro (.str (sS F)),.own (.int (J8 (F.take k):Int)),v3,v4]∧(F.take k).all gY=true) rfl rfl ⟨_,_,rfl,rfl⟩ ?_ ?_
 ·rintro k x env hx ⟨v3,v4,rfl,hall⟩
  refine⟨by walk_at "lt", ?_⟩
  rw[C8]at hx
  cases qq:F[k]? with
  | none=>rw[qq]at hx;cases hx
  | some c=>
   rw[qq]at hx
   cases hx
   have hk:k<F.length:=(B6.mp qq).1
   have ht:F.take (k+1)=F.take k++[c]:=by rw[List.take_add_one,qq];rfl
   refine cQ (d:=.int (if gY c=true then((c-48:Nat):Int)else -1)) (aK rfl rfl ?_) (by exact Nat.le_of_ble_eq_true rfl) ?_
   ·show some (D.int (Txt.find (sS [48,49,50,51,52,53,54,55,56,57]) (sS [c])))=_
    rw[Ju]
   by_cases hf:gY c=true
   ·rw[if_pos hf]
    refine Jl (bV (aK rfl rfl (gC _ _))) (decide_eq_false (by omega)) (lW ?_)
    refine Wu (aK (aK rfl rfl (nG (DG (by decide) (by decide)))) rfl (bW _ _)) (by exact Nat.le_of_ble_eq_true rfl) (.inl ⟨_,rfl,.fro (.str ⟨#[c]⟩),.own (.int ((c-48:Nat):Int)),?_,?_⟩)
    ·rw[ht,PySem.NumText.digitsVal_snoc]
     show [SD.fro (D.str (sS L)),.fro (.str (sS F)),.own (.int ((J8 (F.take k):Int)*10+((c-48:Nat):Int))),_,_]=_
     congr 4
    ·rw[ht,List.all_append,hall]
     simp[hf]
   ·rw[if_neg hf]
    refine Rz (bV (aK rfl rfl (gC _ _))) (decide_eq_true (by decide)) (lJ rfl (.inr ⟨_,rfl,_,rfl,?_⟩))
    rw[if_neg]
    intro z
    unfold eV at z
    rw[C1,C1,C1]at z
    exact hf (I0.mp z.2.1 c (K2 qq))
 rintro env ⟨v3,v4,rfl,hall⟩
 rw[D1,S4]at hall
 rw[D1,S4]
 obtain⟨c,t,rfl⟩:∃c t,F=c::t:=by
  cases F with
  | nil=>simp at b1
  | cons c t=>exact⟨c,t,rfl⟩
 have hn:eV L (c::t)=(!(c==48)||(L==[48])):=by
  unfold eV
  rw[decide_eq_true b1,decide_eq_true b2,hall]
  show (!((some c:Option Nat)==some 48)||_)=_
  congr 2
 rw[hn]
 refine nJ (Bx (bV (aK (aK rfl rfl (wI (c:=c) (by decide) rfl (by omega))) rfl (wG _ _))) (bV (aK rfl rfl (wH _ _)))) (λhb=>?_) (λhb=>lW ?_)
 ·refine lJ rfl ⟨_,rfl,?_⟩
  rw[gJ,gJ,C1]at hb
  have e1:(c==48)=true:=by
   have:=beq_iff_eq.mp hb.1
   cases this
   rfl
  rw[if_neg]
  rw[e1]
  have:=hb.2
  rw[J1]at this
  rw[this]
  decide
 rw[gJ,gJ,M5]at hb
 have hy:(!(c==48)||(L==[48]))=true:=by
  rw[T1]
  rcases hb with z | z
  ·left
   rw[J1,beq_eq_false_iff_ne]
   intro y
   rw[y]at z
   simp at z
  ·right
   rw[K9]at z
   exact z
 rw[if_pos hy]
 unfold yN
 refine nJ (bV (aK rfl rfl (wH _ _))) (λhb=>?_) (λhb=>lW ?_)
 ·rw[gJ,J1,beq_eq_false_iff_ne]at hb
  rw[if_neg hb]
  exact lJ (vY rfl) ⟨_,rfl,rfl⟩
 ·rw[gJ,K9,beq_iff_eq]at hb
  rw[if_pos hb]
  exact Af rfl ⟨_,rfl,rfl⟩
theorem Xj{l:List Nat}(hl:l.length≤1000):nM [.str (sS l)]=some (if eV l (nQ l)=true then .int (yN l (nQ l))else .non):=by
 suffices hh:∃d,nM [.str (sS l)]=some d∧d=if eV l (nQ l)=true then .int (yN l (nQ l))else .non by
  obtain⟨d,h1,rfl⟩:=hh
  exact h1
 have hf:=Ci l
 refine iT rfl ?_
 unfold By
 rw[Pq,DY,EY]
 refine cQ (pR rfl rfl) (by exact Nat.le_of_ble_eq_true rfl) ?_
 have hc:=eH (f:=aG 0) (fl:=fU) (fh:=cD (fC (.int 1))) (e:=rE [.fro (.str (sS l)),.own (.str (sS l)),.no,.no,.no]) (l:=l) rfl rfl (bY rfl) (pX (by decide) hl)
 rw[Et]at hc
 refine nJ (bV (aK hc rfl (wG _ _))) (λhb=>?_) (λhb=>lW ?_)
 ·rw[gJ,beq_iff_eq]at hb
  obtain⟨t,rfl⟩:∃t,l=45::t:=by
   cases l with
   | nil=>cases hb
   | cons a t=>cases hb;exact⟨t,rfl⟩
  have e:nQ (45::t)=t:=by unfold nQ;rw[if_pos (show (45::t).head?=some 45 from rfl)];rfl
  rw[e]at hf ⊢
  refine cQ (d:=.str (sS t)) ?_ (by exact Nat.le_of_ble_eq_true rfl) (yP (by omega))
  refine(eH rfl (bY rfl) rfl (gZ (by decide) hl)).trans ?_
  rw[Ck]
 ·rw[gJ,beq_eq_false_iff_ne]at hb
  have e:nQ l=l:=by
   unfold nQ
   rw[if_neg]
   intro z
   cases l with
   | nil=>cases z
   | cons a t=>cases z;exact hb rfl
  rw[e]at hf ⊢
  exact yP (by omega)
theorem Jy{κ:Nat→Addr}{l:List Nat}(hl:l.length≤100):dJ κ [.str (sS l),if eV l (nQ l)=true then .int (yN l (nQ l))else .non]=some (.bl true):=by
 have h:=Jv (l:=l) (by omega)
 cases q:eV l (nQ l)with
 | true=>
  rw[q]at h
  rw[if_pos rfl]
  exact Qg (Jx (KY h) (Jw hl q))
 | false=>
  rw[q]at h
  rw[if_neg B8]
  exact yO (uI (Sg h))
theorem wK{ns:List Int}{k j:Int}(hl:ns.length≤63)(h0:0≤k)(h1:k≤63)(j0:0≤j)(j1:j≤2):∃r,fW [jA ns,.int k,.int j]=some (.int r)∧0≤r∧r<2147483629:=by
 have m0:0≤(ns.length:Int)*j:=Q2 (by omega) j0
 have m1:(ns.length:Int)*j≤63*2:=Q3 (by omega) j1 j0 (by decide)
 refine⟨sH ns (k+ns.length*j),nF rfl ?_,Ce ns _⟩
 have hd:=Cg (k:=k+ns.length*j) hl (by omega) (by omega)
 unfold yI
 exact kJ (bH (aB rfl (aB (aK rfl (aK (jR (aB rfl rfl) (oJ ns)) rfl (nG (CZ (by omega) (by omega)))) (bW _ _)) rfl)) rfl hd)
theorem Qh{ns:List Int}{k:Nat}(hl:ns.length≤63)(hk:k<ns.length):∃l:List Nat,jT [jA ns,.int k]=some (.str (sS l))∧l.length≤62:=by
 suffices hh:∃d,jT [jA ns,.int k]=some d∧∃l:List Nat,d=.str (sS l)∧l.length≤62 by
  obtain⟨d,h1,l,rfl,h2⟩:=hh
  exact⟨l,h1,h2⟩
 obtain⟨r0,hp0,WY,XD⟩:=wK (k:=(k:Int)) (j:=0) hl (by omega) (by omega) (by decide) (by decide)
 obtain⟨r1,hp1,XF,XH⟩:=wK (k:=(k:Int)) (j:=1) hl (by omega) (by omega) (by decide) (by decide)
 have hix:Mw (jA ns) (.int k)=some (.int (ns.getD (k:Int).toNat 0)):=yF (by omega) (by omega)
 have LC:(0:Int)<10 ^ (60:Int).toNat:=Int.pow_pos (by decide)
 refine iT rfl ?_
 unfold yJ
 rw[Pq]
 refine cQ (bH (aB rfl (aB rfl (aB rfl rfl))) rfl hp0) (by exact Nat.le_of_ble_eq_true rfl) ?_
 refine cQ (aK (aK (aK (aK (bH (aB rfl (aB rfl (aB rfl rfl))) rfl hp1) rfl (nH ⟨by decide,by decide,by omega⟩)) rfl (nG (.inr ⟨by decide,by decide⟩))) (aK rfl rfl hix) (bW _ _)) (aK rfl rfl (nH ⟨by decide,by decide,by decide⟩)) (bL LC)) (by exact Nat.le_of_ble_eq_true rfl) ?_
 generalize hx:(r1 ^ (6:Int).toNat*104729+ns.getD (k:Int).toNat 0)%10 ^ (60:Int).toNat=x
 have x0:0≤x:=by rw[←hx];exact F7 _ (by omega)
 have x1:x<10 ^ 60:=by rw[←hx];exact G8 _ LC
 refine cQ (aK rfl (aK (aK rfl rfl (gP (by decide) (by decide))) rfl (bL (by decide))) (bW _ _)) (by exact Nat.le_of_ble_eq_true rfl) ?_
 have fin:∀(sz:Int),0≤sz→Qs (λr=>∃d,r=.ret d∧∃l:List Nat,d=.str (sS l)∧l.length≤62) ((aN (bD 5 (lU (fL xY (aC (f2 cP (f2 zN (fC (.int 10)) (fC (.int 60))) (aG 3)) aO)) (cD (fC (.int 1))) (cD (f2 cP (fC (.int 1)) (aG 4)))))
 (aN (iK (fB (f2 yU (f2 gM (aG 2) (fC (.int 3))) (fC (.int 0)))) (bD 5 (f2 iY (fC (.str (sS [45]))) (aG 5))) bK)
 (iW 5))) [.fro (jA ns),.fro (.int k),.own (.int r0),.own (.int x),.own (.int sz),.no]):=by
  intro sz hsz
  have FN:((10:Int) ^ (60:Int).toNat+x).natAbs<10 ^ 61:=by
   show ((10:Int) ^ 60+x).natAbs<10 ^ 61
   omega
  obtain⟨d1,d2⟩:=Px ((10:Int) ^ (60:Int).toNat+x).natAbs 61 (by decide) FN
  have hstr:xY [.int ((10:Int) ^ (60:Int).toNat+x)]=some (.str (sS (txt ((10:Int) ^ (60:Int).toNat+x)))):=by
   show (if((10:Int) ^ (60:Int).toNat+x).natAbs.log2<1920 then some (D.str (xX ((10:Int) ^ (60:Int).toNat+x)))else none)=_
   have hl2:((10:Int) ^ (60:Int).toNat+x).natAbs.log2<1920:=by
    by_cases c:((10:Int) ^ (60:Int).toNat+x).natAbs=0
    ·rw[c];decide
    ·rw[Nat.log2_lt c]
     exact Nat.lt_trans FN (by decide)
   rw[if_pos hl2,Qa]
  have ht:(txt ((10:Int) ^ (60:Int).toNat+x)).length≤61:=by
   unfold txt
   rw[if_neg (by have:=LC;omega)]
   exact d2
  generalize txt ((10:Int) ^ (60:Int).toNat+x)=T at *
  have hc:=pY T (some 1) (some (1+sz))
  refine cQ (eH (jR (aB (aK (aK rfl rfl (nH ⟨by decide,by decide,by decide⟩)) rfl (bW _ _)) rfl) hstr) (bY rfl) (bY (aK rfl rfl (bW _ _))) (Es (by decide) (by omega) (by omega))) (by exact Nat.le_of_ble_eq_true rfl) ?_
  generalize dG T (some 1) (some (1+sz))=U at *
  refine nJ (bV (aK (aK rfl rfl (bL (by decide))) rfl (pU _ _))) (λhb=>?_) (λhb=>lW ?_)
  ·refine cQ (aK rfl rfl (gW [45] U (by rw[D2];omega))) (by exact Nat.le_of_ble_eq_true rfl) (Af rfl ⟨_,rfl,_,rfl,?_⟩)
   rw[C2,D2]
   omega
  ·exact Af rfl ⟨_,rfl,_,rfl,by omega⟩
 have e1:=F7 (r0/8) (by decide:(60:Int)≠0)
 have e2:=F7 (r0/8) (by decide:(3:Int)≠0)
 refine nJ (bV (aK (aK rfl rfl (bL (by decide))) rfl (gC _ _))) (λhb=>?_) (λhb=>lW ?_)
 ·refine cQ (aK rfl (aK (aK rfl rfl (gP (by decide) (by decide))) rfl (bL (by decide))) (bW _ _)) (by exact Nat.le_of_ble_eq_true rfl) (fin _ (by omega))
 ·exact fin _ (by omega)
theorem LK:(" +-_.,:ax0\t\n" : Str)=sS [32,43,45,95,46,44,58,97,120,48,9,10]:=fJ " +-_.,:ax0\t\n"
abbrev Qi:List (List Nat):=[[],[45],[45,45,49],[43,49],[45,48],[48,48],[49,95,48],[32,49],[49,32],[49,46,48],[48,120,49],[49,101,51]]
theorem LQ:("--1" : Str)=sS [45,45,49]:=fJ "--1"
theorem LR:("+1" : Str)=sS [43,49]:=fJ "+1"
theorem MF:("-0" : Str)=sS [45,48]:=fJ "-0"
theorem MJ:("00" : Str)=sS [48,48]:=fJ "00"
theorem MK:("1_0" : Str)=sS [49,95,48]:=fJ "1_0"
theorem MN:(" 1" : Str)=sS [32,49]:=fJ " 1"
theorem MP:("1 " : Str)=sS [49,32]:=fJ "1 "
theorem MT:("1.0" : Str)=sS [49,46,48]:=fJ "1.0"
theorem NB:("0x1" : Str)=sS [48,120,49]:=fJ "0x1"
theorem NK:("1e3" : Str)=sS [49,101,51]:=fJ "1e3"
theorem Ey{ns:List Int}{k:Nat}{T:List Nat}(hl:ns.length≤63)(hk:k<ns.length)(hT:T.length≤62):∃l:List Nat,fX [jA ns,.int k,.str (sS T)]=some (.str (sS l))∧l.length≤100:=by
 suffices hh:∃d,fX [jA ns,.int k,.str (sS T)]=some d∧∃l:List Nat,d=.str (sS l)∧l.length≤100 by
  obtain⟨d,h1,l,rfl,h2⟩:=hh
  exact⟨l,h1,h2⟩
 obtain⟨r,hp,p0,p1⟩:=wK (k:=(k:Int)) (j:=2) hl (by omega) (by omega) (by decide) (by decide)
 refine iT rfl ?_
 unfold rQ
 rw[LK,KR,Pq,LQ,LR,MF,MJ,MK,MN,MP,MT,NB,NK]
 refine cQ (bH (aB rfl (aB rfl (aB rfl rfl))) rfl hp) (by exact Nat.le_of_ble_eq_true rfl) ?_
 have cp:(0:Int)<(T.length:Int)+1:=by omega
 refine cQ (aK (aK rfl rfl (gP (by decide) (by decide))) (aK (jR (aB rfl rfl) (sI T (by omega))) rfl (bW _ _)) (bL cp)) (by exact Nat.le_of_ble_eq_true rfl) ?_
 have a0:=F7 (r/8) (show (T.length:Int)+1≠0 by omega)
 generalize r/8%((T.length:Int)+1)=a at *
 have s0:=F7 (r/1024) (by decide:(12:Int)≠0)
 have s1:=G8 (r/1024) (by decide:(0:Int)<12)
 refine cQ (aK rfl (aK (aK rfl rfl (gP (by decide) (by decide))) rfl (bL (by decide))) (wI s0 (yG (d:=0) (by show (r/1024%12).toNat<12;omega)) (by decide))) (by exact Nat.le_of_ble_eq_true rfl) ?_
 generalize ([32,43,45,95,46,44,58,97,120,48,9,10]:List Nat).getD (r/1024%12).toNat 0=c at *
 have c1:=pY T none (some a)
 have c2:=pY T (some a) none
 have c3:=pY T (some (a+1)) none
 refine nJ (bV (aK (aK rfl rfl (bL (by decide))) rfl (gC _ _))) (λhb=>?_) (λhb=>lW ?_)
 ·rw[nD (El (i:=2) rfl rfl)]
  exact⟨_,rfl,T,rfl,by omega⟩
 refine nJ (bV (aK (aK rfl rfl (bL (by decide))) rfl (gC _ _))) (λhb=>?_) (λhb=>lW ?_)
 ·refine lJ (aK (aK (eH rfl rfl (bY rfl) (pX a0 (by omega))) rfl (gW _ [c] (by rw[D2];omega))) (eH rfl (bY rfl) rfl (gZ a0 (by omega))) (gW _ _ (by rw[C2,D2];omega))) ⟨_,rfl,_,rfl,?_⟩
  rw[C2,C2,D2]
  have:(dG T none (some a)).length+(dG T (some a) none).length≤T.length+T.length:=by omega
  have key:(dG T none (some a)).length≤a.toNat∧(dG T (some a) none).length≤T.length-a.toNat:=by
   constructor
   ·unfold dG
    rw[dM _ _ a0,F8]
    show min (min a.toNat T.length-0) _≤_
    omega
   ·unfold dG
    rw[dM _ _ a0,F8,K3]
    omega
  omega
 refine nJ (bV (aK (aK rfl rfl (bL (by decide))) rfl (gC _ _))) (λhb=>?_) (λhb=>lW ?_)
 ·refine lJ (aK (aK (eH rfl rfl (bY rfl) (pX a0 (by omega))) rfl (gW _ [c] (by rw[D2];omega))) (eH rfl (bY (aK rfl rfl (bW _ _))) rfl (gZ (by omega) (by omega))) (gW _ _ (by rw[C2,D2];omega))) ⟨_,rfl,_,rfl,?_⟩
  rw[C2,C2,D2]
  have key:(dG T none (some a)).length≤a.toNat∧(dG T (some (a+1)) none).length≤T.length-a.toNat:=by
   constructor
   ·unfold dG
    rw[dM _ _ a0,F8]
    show min (min a.toNat T.length-0) _≤_
    omega
   ·unfold dG
    rw[dM _ _ (by omega),F8,K3]
    omega
  omega
 refine nJ (bV (aK (aK rfl rfl (bL (by decide))) rfl (pU _ _))) (λhb=>?_) (λhb=>lW ?_)
 ·refine lJ (aK (eH rfl rfl (bY rfl) (pX a0 (by omega))) (eH rfl (bY (aK rfl rfl (bW _ _))) rfl (gZ (by omega) (by omega))) (gW _ _ (by omega))) ⟨_,rfl,_,rfl,?_⟩
  rw[C2]
  have key:(dG T none (some a)).length≤a.toNat∧(dG T (some (a+1)) none).length≤T.length-a.toNat:=by
   constructor
   ·unfold dG
    rw[dM _ _ a0,F8]
    show min (min a.toNat T.length-0) _≤_
    omega
   ·unfold dG
    rw[dM _ _ (by omega),F8,K3]
    omega
  omega
 refine cQ (d:=.lst (Qi.map λl=>D.str (sS l))) (dI (aB rfl (aB rfl (aB rfl (aB rfl (aB rfl (aB rfl (aB rfl (aB rfl (aB rfl (aB rfl (aB rfl (aB rfl rfl)))))))))))) (by decide)) (by exact Nat.le_of_ble_eq_true rfl) ?_
 have o0:=F7 (r/8) (by decide:(12:Int)≠0)
 have o1:=G8 (r/8) (by decide:(0:Int)<12)
 have hg:(Qi.map λl=>D.str (sS l))[(r/8%12).toNat]?=some (.str (sS (Qi.getD (r/8%12).toNat []))):=by
  rw[C8,yG (d:=[]) (by show (r/8%12).toNat<12;omega)]
  rfl
 refine vZ (pR (aK rfl (aK (aK rfl rfl (gP (by decide) (by decide))) rfl (bL (by decide))) (Bv o0 hg)) rfl) ⟨_,rfl,_,rfl,?_⟩
 have:∀i:Nat,i<12→(Qi.getD i []).length≤3:=by decide
 have:=this (r/8%12).toNat (by omega)
 omega
abbrev FQ:List D:=[.non,.int 7,.bl true,.lst [.str "1"],.tup [.str "1"],.dk [.inr "1"] [.int 1],.int (-3)]
theorem Jz(κ:Nat→Addr)(ns:List Int)(hl:ns.length≤63)(hS:∀k∈ns,Small k):Wx κ [.lst (ns.map D.int)]=some (.bl true):=by
 suffices h:∃d,Wx κ [jA ns]=some d∧d=.bl true by
  obtain⟨d,h1,rfl⟩:=h
  exact h1
 have hd:=Cg (k:=64) hl (by decide) (by decide)
 obtain⟨b0,b1⟩:=Ce ns 64
 generalize sH ns 64=r at *
 have m0:=F7 r (by decide:(7:Int)≠0)
 have m1:=G8 r (by decide:(0:Int)<7)
 obtain⟨d,e1,t,e2,e3⟩:∃d,FQ[(r%7).toNat]?=some d∧∃t,CN d=some t∧Ab t "str" = false:=by
  have hi:(r%7).toNat<7:=by omega
  generalize (r%7).toNat=i at *
  match i,hi with
  | 0,_=>exact⟨_,rfl,_,rfl,by decide⟩
  | 1,_=>exact⟨_,rfl,_,rfl,by decide⟩
  | 2,_=>exact⟨_,rfl,_,rfl,by decide⟩
  | 3,_=>exact⟨_,rfl,_,rfl,by decide⟩
  | 4,_=>exact⟨_,rfl,_,rfl,by decide⟩
  | 5,_=>exact⟨_,rfl,_,rfl,by decide⟩
  | 6,_=>exact⟨_,rfl,_,rfl,by decide⟩
 refine iT rfl ?_
 unfold DX
 refine Wt (d:=d) (aK (a:=.lst FQ) (dI (aB rfl (aB rfl (aB rfl (aB (dI (aB rfl rfl) (by decide)) (aB (Bw (aB rfl rfl) (by decide)) (aB rfl (aB (vY rfl) rfl))))))) (by decide)) (aK (bH (aB rfl (aB rfl rfl)) rfl hd) rfl (bL (by decide))) (Bv m0 e1)) (by exact Nat.le_of_ble_eq_true rfl) ?_
 refine Jl (b:=false) (gB (b:=true) (bV (bH (aB rfl (aB rfl rfl)) rfl (yO (uI (Sg (Xf e2 e3))))))) rfl (lW ?_)
 obtain⟨n,hn,hmin⟩:∃n:Nat,n≤ns.length∧(if(24:Int)<(ns.length:Int)then(24:Int)else(ns.length:Int))=(n:Int):=by
  by_cases c:(24:Int)<(ns.length:Int)
  ·exact⟨24,by omega,by rw[if_pos c];rfl⟩
  ·exact⟨ns.length,C0 _,by rw[if_neg c]⟩
 refine Ph (n:=n) (λk env=>∃v2 v3,env=[.fro (jA ns),.fro d,v2,v3]) (Pj (aB (jR (aB (jR (aB rfl rfl) (oJ ns)) (aB rfl rfl)) ((En _ _).trans (by rw[hmin]))) rfl) (by omega)) ⟨_,_,rfl⟩ ?_ ?_
 ·rintro k env hk ⟨v2,v3,rfl⟩
  refine⟨by walk_at "lt", ?_⟩
  obtain⟨T,hT,VD⟩:=Qh hl (show k<ns.length by omega)
  obtain⟨l,hs,hsl⟩:=Ey (T:=T) hl (show k<ns.length by omega) VD
  refine cQ (bH (aB rfl (aB rfl (aB (bH (aB rfl (aB rfl rfl)) rfl hT) rfl))) rfl hs) (by exact Nat.le_of_ble_eq_true rfl) ?_
  exact Wv (b:=false) (gB (b:=true) (bV (bH (aB rfl (aB (bH (aB rfl rfl) rfl (Xj (l:=l) (by omega))) rfl)) rfl (Jy hsl)))) rfl (DP ⟨_,rfl,_,_,rfl⟩)
 ·rintro env ⟨v2,v3,rfl⟩
  exact vZ rfl ⟨_,rfl,rfl⟩
end Rs

def PySem.W.Fast.tw9905971159459393426:Unit:=()
def PySem.W.Fast.tw7199854789500178645:Unit:=()
def PySem.W.Fast.tw9790474695560666347:Unit:=()
def PySem.W.Fast.tw9861766292370589588:Unit:=()
def PySem.W.Fast.tw15699882972782629332:Unit:=()
def PySem.W.Fast.tw262466029427429936:Unit:=()
def PySem.W.Fast.tw16088721133417823311:Unit:=()
def PySem.W.Fast.tw12418799333439049606:Unit:=()
def PySem.W.Fast.tw10076893893198729686:Unit:=()
def PySem.W.Fast.tw9578499007345615231:Unit:=()
def PySem.W.Fast.tw11775206956546242995:Unit:=()
def PySem.W.Fast.tw11303449513324097539:Unit:=()
def PySem.W.Fast.tw767160889184628033:Unit:=()
def PySem.W.Fast.tw10284553045350160791:Unit:=()
def PySem.W.Fast.tw1696259756733320882:Unit:=()
def PySem.W.Fast.tw6361452554715137869:Unit:=()
namespace Rs
open PySem L2
theorem Qj{K:aA}{f:Addr}{oc:Value}{od:Option Addr}{fd:FuncData}{sl:Array (Option Value)}(l:K.lookup f=some ⟨oc,od,.func fd,sl⟩):G1 K (.ref f)=true:=by
 unfold G1
 dsimp only
 rw[l]
theorem NP{K:aA}{h:Heap}{mg:Str→Option Value}{x:Str}{st:Stmt}{f:Addr}{oc:Value}{od an:Option Addr}{osl:Array (Option Value)}{kV doc pm cdv ct:Value}(X:K.In h)(G:h.Ns mainGlobals mg)(a:D7 K mainGlobals x=some (some (.ref f)))(l:K.lookup f=some ⟨oc,od,.func (D4 x x (cH st) (bF st) (aH st) .none kV doc pm an cdv ct),osl⟩)(c:K0 K cdv x=true):Raw K mg x st:=Us X G a l c (Qj l)
theorem Qk{K:aA}{a b:Value}{v:Bool}(h:B0 K a b=some v):L6 K a b=some v:=by
 unfold B0 at h
 split at h
 ·exact h
 ·cases h
theorem FW{K:aA}{C:Addr}{v:Value}(h:L9 K C v=some true):(M0 K C).isSome=true:=by
 unfold L9 at h
 cases q:M0 K C with
 | none=>rw[q]at h;cases h
 | some c=>rfl
theorem VF{K:aA}{h:Heap}{mg:Str→Option Value}(X:K.In h)(G:h.Ns mainGlobals mg){E0 E1 E2 E3 E4 E5 E6 E7 E8 E9 E10:Addr}(a0:D7 K mainGlobals "NoText" = some (some (.ref E0))) (a1:D7 K mainGlobals "StoneError" = some (some (.ref E1))) (a2:D7 K mainGlobals "NoPlace" = some (some (.ref E2))) (a3:D7 K mainGlobals "NoChange" = some (some (.ref E3))) (a4:D7 K mainGlobals "Full" = some (some (.ref E4))) (a5:D7 K mainGlobals "Twice" = some (some (.ref E5))) (a6:D7 K mainGlobals "NoWorth" = some (some (.ref E6))) (a7:D7 K mainGlobals "NoKey" = some (some (.ref E7))) (a8:D7 K mainGlobals "BadStone" = some (some (.ref E8))) (a9:D7 K mainGlobals "NoDeed" = some (some (.ref E9))) (a10:D7 K mainGlobals "NoRow" = some (some (.ref E10))) (b0:D9 K E0 gO "ValueError.__new__" = true) (b1:D9 K E1 gO "ValueError.__new__" = true) (b2:D9 K E2 gO "ValueError.__new__" = true) (b3:D9 K E3 gO "ValueError.__new__" = true) (b4:D9 K E4 gO "ValueError.__new__" = true) (b5:D9 K E5 gO "ValueError.__new__" = true) (b6:D9 K E6 gO "ValueError.__new__" = true) (b7:D9 K E7 gO "ValueError.__new__" = true) (b8:D9 K E8 gO "ValueError.__new__" = true) (b9:D9 K E9 gO "ValueError.__new__" = true) (b10:D9 K E10 gO "ValueError.__new__" = true) (Ka:B0 K (.ref E0) (.ref E0)=some true) (Kc:B0 K (.ref E0) (.ref E1)=some true) (Kd:B0 K (.ref E0) (.ref E2)=some false) (Ke:B0 K (.ref E0) (.ref E3)=some false) (Kf:B0 K (.ref E0) (.ref E4)=some false) (Kg:B0 K (.ref E0) (.ref E5)=some false) (Kh:B0 K (.ref E0) (.ref E6)=some false) (Kl:B0 K (.ref E0) (.ref E7)=some false) (Km:B0 K (.ref E0) (.ref E8)=some false) (Ko:B0 K (.ref E0) (.ref E9)=some false) (yQ:B0 K (.ref E0) (.ref E10)=some false) (v0:B0 K (.ref E0) (.type "ValueError")=some true) (Xk:F0 K (.ref E0) "__getattribute__" = some (some (.builtin "BaseException.__getattribute__"))) (Xl:F0 K (.ref E0) "__getattr__" = some none) (Xm:F0 K (.ref E0) "__class__" = some (some (.builtin "object.__class__"))) (Xn:L7 K (.builtin "object.__class__") "__get__" = some (some (.builtin "getset_descriptor.__get__"))) (Xo:P1 K (.builtin "object.__class__")=some true) (Ql:L9 K E0 (.type "object")=some true) (Xp:T6 K (.ref E0) (.type "BaseException")=some true):∃E0 E1 E2 E3 E4 E5 E6 E7 E8 E9 E10:Addr,iZ K mg "NoText" E0∧iZ K mg "StoneError" E1∧iZ K mg "NoPlace" E2∧iZ K mg "NoChange" E3∧iZ K mg "Full" E4∧iZ K mg "Twice" E5∧iZ K mg "NoWorth" E6∧iZ K mg "NoKey" E7∧iZ K mg "BadStone" E8∧iZ K mg "NoDeed" E9∧iZ K mg "NoRow" E10∧B0 K (.ref E0) (.ref E0)=some true∧B0 K (.ref E0) (.ref E1)=some true∧B0 K (.ref E0) (.ref E2)=some false∧B0 K (.ref E0) (.ref E3)=some false∧B0 K (.ref E0) (.ref E4)=some false∧B0 K (.ref E0) (.ref E5)=some false∧B0 K (.ref E0) (.ref E6)=some false∧B0 K (.ref E0) (.ref E7)=some false∧B0 K (.ref E0) (.ref E8)=some false∧B0 K (.ref E0) (.ref E9)=some false∧B0 K (.ref E0) (.ref E10)=some false∧B0 K (.ref E0) (.type "ValueError")=some true∧rF K E0:=⟨E0,E1,E2,E3,E4,E5,E6,E7,E8,E9,E10,⟨D5 X G a0,b0⟩,⟨D5 X G a1,b1⟩,⟨D5 X G a2,b2⟩,⟨D5 X G a3,b3⟩,⟨D5 X G a4,b4⟩,⟨D5 X G a5,b5⟩,⟨D5 X G a6,b6⟩,⟨D5 X G a7,b7⟩,⟨D5 X G a8,b8⟩,⟨D5 X G a9,b9⟩,⟨D5 X G a10,b10⟩,Ka,Kc,Kd,Ke,Kf,Kg,Kh,Kl,Km,Ko,yQ,v0,⟨Xk,Xl,Xm,Xn,Xo,Ql,Xp,FW Ql⟩⟩
theorem walk{l:S9}{q:Program}{loose:List Str}{XP:(Str→Option Value)→Heap→Prop}{YP:World→Heap→Prop}{d:DefRec}{K:Params→aA}(hn:l.most=some 63)(hdf:d.params.defaults=[])(hdn:d.name = "law")
  (hY:∀(w:World)(h:Heap),YP w h→(K w.params).In h)
  (F:∀(w:World)(mg:Str→Option Value)(h:Heap),(K w.params).In h→h.Ns mainGlobals mg→(∃E0 E1 E2 E3 E4 E5 E6 E7 E8 E9 E10:Addr,iZ (K w.params) mg "NoText" E0∧iZ (K w.params) mg "StoneError" E1∧iZ (K w.params) mg "NoPlace" E2∧iZ (K w.params) mg "NoChange" E3∧iZ (K w.params) mg "Full" E4∧iZ (K w.params) mg "Twice" E5∧iZ (K w.params) mg "NoWorth" E6∧iZ (K w.params) mg "NoKey" E7∧iZ (K w.params) mg "BadStone" E8∧iZ (K w.params) mg "NoDeed" E9∧iZ (K w.params) mg "NoRow" E10∧B0 (K w.params) (.ref E0) (.ref E0)=some true∧B0 (K w.params) (.ref E0) (.ref E1)=some true∧B0 (K w.params) (.ref E0) (.ref E2)=some false∧B0 (K w.params) (.ref E0) (.ref E3)=some false∧B0 (K w.params) (.ref E0) (.ref E4)=some false∧B0 (K w.params) (.ref E0) (.ref E5)=some false∧B0 (K w.params) (.ref E0) (.ref E6)=some false∧B0 (K w.params) (.ref E0) (.ref E7)=some false∧B0 (K w.params) (.ref E0) (.ref E8)=some false∧B0 (K w.params) (.ref E0) (.ref E9)=some false∧B0 (K w.params) (.ref E0) (.ref E10)=some false∧B0 (K w.params) (.ref E0) (.type "ValueError")=some true∧rF (K w.params) E0)∧Raw (K w.params) mg "is_number" kO∧Raw (K w.params) mg "read_number" gD∧Raw (K w.params) mg "_law_asked" oM∧Raw (K w.params) mg "_law_good" rM∧Raw (K w.params) mg "_law_draw" rO∧Raw (K w.params) mg "_law_pick" rP∧Raw (K w.params) mg "_law_spoilt" lX∧Raw (K w.params) mg "_law_text" rR∧Raw (K w.params) mg "_law_due" wA∧Raw (K w.params) mg "law" Ww∧mg "len" = none∧mg "all" = none∧mg "isinstance" = none∧mg "str" = none∧mg "int" = none∧mg "ValueError" = none∧mg "bool" = none∧mg "min" = none∧mg "range" = none∧pA mg "MINUS" "-" ∧ Bk mg "MOST_FIGURES" (60)∧pA mg "FIGURES" "0123456789" ∧ pA mg "ZERO" "0") :
  T5 q loose XP YP l.row.toRowW d [] (λf vs=>S8 f vs):=by
 refine L2.Dz (n:=63) (k:=5) (x := "script") (CX:=λ_=>Fd) (sp:=λw=>JT (K w.params)) hn (by decide) hdf ⟨rfl,by decide,by decide⟩ hY ?_ (λ_ _ a ns hl hb _ hS=>⟨a,ns,rfl,hS,hl,hb,λ_=>rfl⟩) λ_ _ _ _ _ z=>z
 intro w mg fa h KX G hmg
 obtain⟨⟨E0,E1,E2,E3,E4,E5,E6,E7,E8,E9,E10,kW,jW,sE,oU,Jp,Aj,rZ,Ai,oR,wC,Ah,Ka,Kc,Kd,Ke,Kf,Kg,Kh,Kl,Km,Ko,yQ,v0,xc0⟩,RIsNumber,RReadNumber,RLawAsked,RLawGood,RLawDraw,RLawPick,RLawSpoilt,RLawText,RLawDue,RLaw,gH,Wy,aP,wB,Eo,jX,Jq,Xa,Ao,Ag,iU,rW,Ca⟩:=F w mg h KX G
 obtain⟨κ,e0,e1,e2,e3,e4,e5,e6,e7,e8,e9,e10⟩:∃κ:Nat→Addr,κ 0=E0∧κ 1=E1∧κ 2=E2∧κ 3=E3∧κ 4=E4∧κ 5=E5∧κ 6=E6∧κ 7=E7∧κ 8=E8∧κ 9=E9∧κ 10=E10:=⟨(λn=>match n with | 0=>E0 | 1=>E1 | 2=>E2 | 3=>E3 | 4=>E4 | 5=>E5 | 6=>E6 | 7=>E7 | 8=>E8 | 9=>E9 | 10=>E10 | _=>E0),rfl,rfl,rfl,rfl,rfl,rfl,rfl,rfl,rfl,rfl,rfl⟩
 subst e0 e1 e2 e3 e4 e5 e6 e7 e8 e9 e10
 have XM:∀i j,i<1→j<11→B0 (K w.params) (.ref (κ i)) (.ref (κ j))=some (oK i j):=λi j hi hj=>match i,j,hi,hj with
  | 0,0,_,_=>Ka
  | 0,1,_,_=>Kc
  | 0,2,_,_=>Kd
  | 0,3,_,_=>Ke
  | 0,4,_,_=>Kf
  | 0,5,_,_=>Kg
  | 0,6,_,_=>Kh
  | 0,7,_,_=>Kl
  | 0,8,_,_=>Km
  | 0,9,_,_=>Ko
  | 0,10,_,_=>yQ
  | n+1,_,h,_=>absurd h (by omega)
  | _,n+11,_,h=>absurd h (by omega)
 have XV:∀i,i<1→L6 (K w.params) (.ref (κ i)) (.type "ValueError")=some true:=λi hi=>match i,hi with
  | 0,_=>Qk v0
  | n+1,h=>absurd h (by omega)
 have XC:∀i,i<1→rF (K w.params) (κ i):=λi hi=>match i,hi with
  | 0,_=>xc0
  | n+1,h=>absurd h (by omega)
 obtain⟨f,fd,FL,m⟩:=RLaw.ex
 rw[hdn]at hmg
 have e:=hmg.symm.trans m
 cases e
 refine⟨fd,zV FL (λ_ _ _ _ _ _ u=>rfl),λbase _ _=>?_⟩
 have fO:=yK (P:=l.prog) (w:=w) (mg:=mg) (base:=base) RIsNumber  gH Wy Ag iU rW Ca
 have jU:=tD (P:=l.prog) (w:=w) (mg:=mg) (base:=base) RReadNumber fO  aP wB Eo
 have jV:=rY (P:=l.prog) (w:=w) (mg:=mg) (base:=base) RReadNumber fO kW aP wB
 have oW:=yL (P:=l.prog) (w:=w) (mg:=mg) (base:=base) RLawAsked jU jV jW Ah oR wC Ai rZ Aj Jp oU sE kW XM XC XV aP jX
 have nP:=Ak (P:=l.prog) (w:=w) (mg:=mg) (base:=base) RLawGood oW  aP Jq Eo
 have gU:=Al (P:=l.prog) (w:=w) (mg:=mg) (base:=base) RLawDraw  gH
 have fY:=Am (P:=l.prog) (w:=w) (mg:=mg) (base:=base) RLawPick gU  gH
 have lY:=wD (P:=l.prog) (w:=w) (mg:=mg) (base:=base) RLawSpoilt fY  gH
 have sG:=An (P:=l.prog) (w:=w) (mg:=mg) (base:=base) RLawText fY  wB
 have wF:=Er (P:=l.prog) (w:=w) (mg:=mg) (base:=base) RLawDue  gH
 exact Wz FL gU nP sG lY wF  gH Xa Ao (Jz κ)
end Rs
open PySem PySem.W PyProof.Rows
set_option maxRecDepth 100000 in
set_option maxHeartbeats 0 in
theorem PySem.Challenge.cw_ripestone_k53_odd_numbers_holds : PySem.Challenge.rw_ripestone_k53_odd_numbers.Holds := by
 w_on;o_law;k_head;(case hw=>w_witness2)
 k_fill
 refine Rs.walk (l:=PySem.Challenge.rw_ripestone_k53_odd_numbers) rfl rfl rfl (λw h Y=>PySem.W.kIn_of Y) ?F
 case F=>
  intro w mg h KX G
  refine⟨?_,?_,?_,?_,?_,?_,?_,?_,?_,?_,?_,F1 KX G ?_,F1 KX G ?_,F1 KX G ?_,F1 KX G ?_,F1 KX G ?_,F1 KX G ?_,F1 KX G ?_,F1 KX G ?_,F1 KX G ?_,?_,?_,?_,?_⟩
  ·refine' Rs.VF KX G ?a0 ?a1 ?a2 ?a3 ?a4 ?a5 ?a6 ?a7 ?a8 ?a9 ?a10 ?b0 ?b1 ?b2 ?b3 ?b4 ?b5 ?b6 ?b7 ?b8 ?b9 ?b10 ?Ka ?Kc ?Kd ?Ke ?Kf ?Kg ?Kh ?Kl ?Km ?Ko ?yQ ?v0 ?Xk ?Xl ?Xm ?Xn ?Xo ?Ql ?Xp
   (case a0=>k_is);(case a1=>k_is);(case a2=>k_is);(case a3=>k_is);(case a4=>k_is);(case a5=>k_is);(case a6=>k_is);(case a7=>k_is);(case a8=>k_is);(case a9=>k_is);(case a10=>k_is);(case b0=>k_exc);(case b1=>k_exc);(case b2=>k_exc);(case b3=>k_exc);(case b4=>k_exc);(case b5=>k_exc);(case b6=>k_exc);(case b7=>k_exc);(case b8=>k_exc);(case b9=>k_exc);(case b10=>k_exc);(case Ka=>kts_exm);(case Kc=>kts_exm);(case Kd=>kts_exm);(case Ke=>kts_exm);(case Kf=>kts_exm);(case Kg=>kts_exm);(case Kh=>kts_exm);(case Kl=>kts_exm);(case Km=>kts_exm);(case Ko=>kts_exm);(case yQ=>kts_exm);(case v0=>kts_exm);(case Xk=>k_is);(case Xl=>k_is);(case Xm=>k_is);(case Xn=>k_is);(case Xo=>k_is);(case Ql=>k_is);(case Xp=>k_is)
  iterate 10
   ·refine' Rs.NP KX G ?a ?l ?c
    (case a=>k_is);(case l=>k_is);(case c=>k_is)
  iterate 9
   ·k_is
  ·refine' L2.rC KX G ?a
   (case a=>k_is)
  ·refine' L2.Ho KX G ?a
   (case a=>k_is)
  ·refine' L2.rC KX G ?a
   (case a=>k_is)
  ·refine' L2.rC KX G ?a
   (case a=>k_is)
#print axioms PySem.Challenge.cw_ripestone_k53_odd_numbers_holds
