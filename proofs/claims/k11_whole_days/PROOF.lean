import PyProof.Rows.All
import Wide.All
import OpenK.AllK
import Wide.FinOn
import Lean
import PyProof.EqAt
import PyProof.EqKinds
import PyProof.TupleCall
import PyProof.NeKinds
import KE.KTryMore
import PySem.Challenge.RW_quillhouse_k11_whole_days
set_option Elab.async false
set_option linter.all false
set_option maxRecDepth 100000
set_option maxHeartbeats 0
open List (any_append any_cons any_eq_true any_map append_nil drop_length drop_succ_cons drop_zero filter_cons filter_sublist find?_cons find?_cons_of_neg find?_eq_none find?_some foldl_append foldl_cons getD_eq_getElem?_getD getElem?_append_left getElem?_append_right getElem?_eq_getElem getElem?_eq_none getElem?_map getElem?_of_mem getElem?_reverse getElem?_set_ne getElem?_set_self length_append length_cons length_drop length_filter_le length_map length_nil length_replicate length_reverse length_set length_singleton length_take lookup_cons map_append map_congr_left map_cons map_map map_nil map_take mem_append mem_append_left mem_append_right mem_cons mem_cons_of_mem mem_cons_self mem_filter mem_filterMap mem_map mem_of_find?_eq_some mem_of_getElem? mem_of_mem_take mem_reverse mem_singleton nodup_append nodup_cons nodup_nil not_mem_nil of_mem_zip size_toArray sum_append sum_cons take_add_one take_append_of_le_length take_length take_nil take_of_length_le)
open Nat (le_of_ble_eq_true le_of_eq le_of_lt le_refl le_succ le_succ_of_le le_trans lt_irrefl lt_of_le_of_lt lt_of_lt_of_le ne_of_gt ne_of_lt not_lt_zero sub_self sub_zero zero_add zero_le)
open PySem.W (emptyDict excIn exmOne findIn hideAll instObj keepIn kia_one kitOne)
open PySem.F (excBase_ValueError plainAttrs_list slot_dict_get slot_list_extend type_list_extend)
open PySem.Heap (get?_push_of_some get?_push_size get?_update_other get?_update_self lt_size size_push)
open Bool (and_eq_true)
namespace L2
open PySem PySem.Spec PyProof.Rows
abbrev Key:=Sum Int Str
def uD:Key→Value→Bool
 | .inl k,v=>Value.isInt k v
 | .inr x,v=>Value.isStrOf x v
def Y8 (w:World):Key→Int
 | .inl k=>hashInt k
 | .inr x=>hashStr w x
theorem ox:∀{k:Key}{v:Value},uD k v=true→(∃i t,k=Sum.inl i∧v=Value.int i t)∨(∃x t,k=Sum.inr x∧v=Value.str x t)
 | .inl i,v,h=>by
  obtain⟨t,e⟩:=Value.isInt_shape (k:=i) (v:=v) h
  exact .inl ⟨i,t,rfl,e⟩
 | .inr x,v,h=>by
  obtain⟨t,e⟩:=Value.isStrOf_shape (x:=x) (v:=v) h
  exact .inr ⟨x,t,rfl,e⟩
theorem Uu (i:Int) (t:Tok):uD (.inl i) (.int i t)=true:=by simp[uD,Value.isInt]
theorem Ut (x:Str) (t:Tok):uD (.inr x) (.str x t)=true:=by simp[uD,Value.isStrOf]
theorem Xd (a b:Int):decide ((Sum.inl a:Key)=Sum.inl b)=(a == b):=by
 by_cases e:a=b
 ·subst e;simp
 ·have h:¬(Sum.inl a:Key)=Sum.inl b:=fun q=>e (Sum.inl.inj q)
  rw[decide_eq_false h]
  exact (beq_eq_false_iff_ne.mpr e).symm
theorem Xa (a b:Str):decide ((Sum.inr a:Key)=Sum.inr b)=decide (a=b):=by
 by_cases e:a=b
 ·subst e;simp
 ·have h:¬(Sum.inr a:Key)=Sum.inr b:=fun q=>e (Sum.inr.inj q)
  rw[decide_eq_false h,decide_eq_false e]
theorem Xc (a:Int) (b:Str):decide ((Sum.inl a:Key)=Sum.inr b)=false:=decide_eq_false (fun q=>nomatch q)
theorem Xb (a:Str) (b:Int):decide ((Sum.inr a:Key)=Sum.inl b)=false:=decide_eq_false (fun q=>nomatch q)
def iw (prog:Program) (w:World):PySem.KeyKind prog w Key where
 is:=uD
 hash:=Y8 w
 inj:=fun v a b bo aa=>by
  rcases ox bo with ⟨i,t,rfl,rfl⟩ | ⟨x,t,rfl,rfl⟩
  ·rcases ox aa with ⟨j,u,rfl,e⟩ | ⟨y,u,rfl,e⟩
   ·injection e with aG _;rw[aG]
   ·exact nomatch e
  ·rcases ox aa with ⟨j,u,rfl,e⟩ | ⟨y,u,rfl,e⟩
   ·exact nomatch e
   ·injection e with aG _;rw[aG]
 byValue:=fun k v h=>by
  rcases ox h with ⟨i,t,rfl,rfl⟩ | ⟨x,t,rfl,rfl⟩ <;> rfl
 pyHash:=fun aX h=>by
  rcases ox aX with ⟨i,t,rfl,rfl⟩ | ⟨x,t,rfl,rfl⟩
  ·exact wpAny_pyHash_int h
  ·exact wpAny_pyHash_str h
 eqBool:=fun bq aX h=>by
  rcases ox bq with ⟨i,t,rfl,rfl⟩ | ⟨x,t,rfl,rfl⟩
  ·rcases ox aX with ⟨j,u,rfl,rfl⟩ | ⟨y,u,rfl,rfl⟩
   ·rw[Xd]at h;exact wpAny_eqBool_int h
   ·rw[Xc]at h;exact SeqAt.EqAt.int_str i t y u _ _ _ _ h
  ·rcases ox aX with ⟨j,u,rfl,rfl⟩ | ⟨y,u,rfl,rfl⟩
   ·rw[Xb]at h;exact SeqAt.EqAt.str_int x t j u _ _ _ _ h
   ·rw[Xa]at h;exact wpAny_eqBool_str h
 «strs» := fun k x t v h=>by
  rcases ox h with ⟨i,u,rfl,e⟩ | ⟨y,u,rfl,e⟩
  ·exact nomatch e
  ·injection e with aG _
   subst aG
   cases v <;> rfl
theorem Ti (prog:Program) (w:World) (i:Int) (t:Tok):(iw prog w).is (.inl i) (.int i t)=true:=Uu i t
theorem Th (prog:Program) (w:World) (x:Str) (t:Tok):(iw prog w).is (.inr x) (.str x t)=true:=Ut x t
inductive V where
 | cS | b0 (b:Bool) | int (i:Int) | str (x:Str) | m9 (b:Array UInt8) | rp (b:UInt64) | ref (a:Addr) | ty (n:String)
 deriving DecidableEq
def RelV:V→Value→Prop
 | .cS,u=>u=Value.none
 | .b0 b,u=>u=Value.bool b
 | .int i,u=>∃t,u=Value.int i t
 | .str x,u=>∃t,u=Value.str x t
 | .m9 b,u=>∃t,u=Value.bytes b t
 | .rp b,u=>∃t,u=Value.float b t
 | .ref a,u=>u=Value.ref a
 | .ty n,u=>u=Value.type n
abbrev Vals:List V→List Value→Prop:=Paired RelV
theorem Vals.length {xs:List V}{us:List Value}(r:Vals xs us):xs.length=us.length:=Paired.length r
theorem Vals.get:∀{xs:List V}{us:List Value}{i:Nat}{x:V},Vals xs us→xs[i]?=some x→∃u,us[i]?=some u∧RelV x u
 | _,_,_,_,.nil,e=>by simp at e
 | _,_,0,_,.cons r _,e=>by simp at e;subst e;exact⟨_,rfl,r⟩
 | _,_,i+1,x,.cons _ t,e=>by
  obtain⟨u,aj,az⟩:=Vals.get (i:=i) (x:=x) t (by simpa using e)
  exact⟨u,by simpa using aj,az⟩
theorem Vals.set {x:V}{u:Value}(r:RelV x u):∀{xs:List V}{us:List Value}(i:Nat),Vals xs us→Vals (xs.set i x) (us.set i u)
 | _,_,_,.nil=>.nil
 | _,_,0,.cons _ t=>.cons r t
 | _,_,i+1,.cons q t=>.cons q (Vals.set r i t)
theorem Vals.append:∀{xs ys:List V}{us ws:List Value},Vals xs us→Vals ys ws→Vals (xs++ys) (us++ws)
 | _,_,_,_,.nil,s=>s
 | _,_,_,_,.cons r t,s=>.cons r (Vals.append t s)
theorem Vals.take:∀{xs:List V}{us:List Value}(n:Nat),Vals xs us→Vals (xs.take n) (us.take n)
 | _,_,0,_=>.nil
 | _,_,_+1,.nil=>.nil
 | _,_,n+1,.cons r t=>.cons r (Vals.take n t)
theorem Vals.drop:∀{xs:List V}{us:List Value}(n:Nat),Vals xs us→Vals (xs.drop n) (us.drop n)
 | _,_,0,r=>r
 | _,_,_+1,.nil=>.nil
 | _,_,n+1,.cons _ t=>Vals.drop n t
def i1:Option V→Option Value→Prop
 | some v,some u=>RelV v u
 | none,none=>True
 | _,_=>False
def fY {κ:Type}:List (κ × V)→List (κ × Value)→Prop:=Paired fun (p:κ × V) (q:κ × Value)=>p.1=q.1∧RelV p.2 q.2
def eu:Key→V
 | .inl i=>.int i
 | .inr x=>.str x
inductive fH where
 | lst (xs:List V)
 | tup (xs:List V)
 | bR (kvs:List (Key × V)) | gS (kvs:List (List Key × V))
 | set (S:Int→Bool) (n:Nat)
 | ins (C dx:Addr) (bQ:List (Str × V))
 | own (x:Addr)
 | Bt (bQ:List (Str × V))
 | met (f x:Addr)
 | i2 (lo aP:Int)
 | jJ (o:Obj) (u:fH)
 | q5 (ps:Array Value)
 | ext (φ:Heap→Prop)
abbrev ao:=Addr→Option fH
def upd (H:ao) (a:Addr) (o:fH):ao:=fun b=>if b=a then some o else H b
theorem aV {H:ao}{a:Addr}{o:fH}:upd H a o a=some o:=by unfold upd;rw[if_pos rfl]
theorem aB {H:ao}{a b:Addr}{o:fH}(h:b≠a):upd H a o b=H b:=by unfold upd;rw[if_neg h]
theorem r0 {H:ao}{a:Addr}{o u:fH}:upd (upd H a o) a u=upd H a u:=by
 funext b;unfold upd;split <;> rfl
theorem dt {H:ao}{a b:Addr}{o u:fH}(h:H a=some o) (h':H b=some u) (d:o≠u):a≠b:=by
 intro e;subst e;rw[h]at h';exact d (Option.some.inj h')
theorem ct {H:ao}{a b:Addr}{o:fH}(h:H a=some o) (h':H b=none):a≠b:=by
 intro e;subst e;rw[h]at h';cases h'
section
variable (P:Program) (w:World)
def fR (H:ao) (h:Heap) (a:Addr):fH→Prop
 | .lst xs=>xs.length≤sizeLine∧∃(its:List Value) (n:Nat),Vals xs its∧h.get? a=some { cls:=.type "list",data:=.seq its.toArray n }
 | .tup xs=>xs.length≤sizeLine∧∃its:List Value,Vals xs its∧IsTup h a its.toArray
 | .bR kvs=>kvs.length≤sizeLine∧(a == sysModules)=false∧∃vs,fY kvs vs∧h.DictOf (iw P w) a vs
 | .gS kvs=>kvs.length≤sizeLine∧(a == sysModules)=false∧∃xs:List (List Key × Addr × Value),
   Paired (fun (p:List Key × V) (q:List Key × Addr × Value)=>p.1=q.1∧H q.2.1=some (.tup (p.1.map eu))∧RelV p.2 q.2.2) kvs xs ∧
   ∃o aA cu,h.get? a=some o∧o.ExactDict∧o.data=.dict aA cu∧aA.toList=xs.map (entryOfKey (tupleKind (iw P w)))∧(xs.map (·.1)).Nodup
 | .set S n=>h.SetOf (intKind P w) a S n
 | .ins C dx bQ=>H dx=some (.own a)∧bQ.length≤1000∧dx≠a∧h.get? a=some (instObj C dx) ∧
   ∃d7,h.Ns1 dx d7∧(∀f,i1 (bQ.lookup f) (d7 f))∧PySem.Within d7 (bQ.map (·.1))
 | .own _=>∃o,h.get? a=some o
 | .Bt bQ=>∃d7,h.Ns1 a d7∧∀f,i1 (bQ.lookup f) (d7 f)
 | .i2 lo aP=>∃t u v,h.get? a=some { cls:=.type "range",data:=.fields #[.int lo t,.int aP u,.int 1 v] }
 | .jJ o u=>h.get? a=some o∧fR H h a u
 | .q5 ps=>h.get? a=some { cls:=.none,data:=.fields ps }
 | .met f x=>h.get? a=some (PySem.W.methodObj (.ref f) (.ref x))
 | .ext φ=>φ h∧(∃o,h.get? a=some o)∧∀aj az:Heap,φ aj→(∀o,aj.get? a=some o→az.get? a=some o)→φ az
def fm (H:ao) (h:Heap):Prop:=∀a o,H a=some o→fR P w H h a o
end
section
variable {P:Program}{w:World}{H af:ao}{h h':Heap}{a:Addr}{o:fH}
theorem fR.lt (x:fR P w H h a o):a<h.objs.size:=by
 cases o with
 | lst xs=>obtain⟨_,_,_,_,e⟩:=x;exact lt_size e
 | tup xs=>obtain⟨_,_,_,p⟩:=x;exact p.lt
 | bR kvs=>obtain⟨_,_,_,_,o,_,_,e,_⟩:=x;exact lt_size e
 | gS kvs=>obtain⟨_,_,_,_,o,_,_,e,_⟩:=x;exact lt_size e
 | set S n=>obtain⟨o,_,_,_,e,_⟩:=x;exact lt_size e
 | ins C dx bQ=>obtain⟨_,_,_,e,_⟩:=x;exact lt_size e
 | own y=>obtain⟨_,e⟩:=x;exact lt_size e
 | Bt bQ=>obtain⟨_,⟨_,_,_,e,_⟩,_⟩:=x;exact lt_size e
 | i2 lo aP=>obtain⟨_,_,_,e⟩:=x;exact lt_size e
 | jJ b1 u=>obtain⟨e,_⟩:=x;exact lt_size e
 | q5 ps=>exact lt_size (show h.get? a=some _ from x)
 | met f y=>exact lt_size (show h.get? a=some _ from x)
 | ext φ=>obtain⟨_,⟨_,e⟩,_⟩:=x;exact lt_size e
theorem Paired.EC {α β:Type}{F G:α→β→Prop}:∀{R2:List α}{R1:List β},Paired F R2 R1→(∀a b,F a b→G a b)→Paired G R2 R1
 | _,_,.nil,_=>.nil
 | _,_,.cons r t,f=>.cons (f _ _ r) (Paired.EC t f)
theorem fR.j5 (x:fR P w H h a o) (k:∀b u,(b=a∨H b=some (.own a))→h.get? b=some u→h'.get? b=some u)
  (aD:∀b,H b=some (.own a)→af b=some (.own a)) (bF:∀b xs,H b=some (.tup xs)→af b=some (.tup xs)):fR P w af h' a o:=by
 induction o with
 | lst xs=>obtain⟨z,its,n,r,e⟩:=x;exact⟨z,its,n,r,k _ _ (.inl rfl) e⟩
 | tup xs=>obtain⟨z,its,r,b1,e,c⟩:=x;exact⟨z,its,r,b1,k _ _ (.inl rfl) e,c⟩
 | bR kvs=>obtain⟨z,y,vs,r,b1,aA,cu,e,c⟩:=x;exact⟨z,y,vs,r,b1,aA,cu,k _ _ (.inl rfl) e,c⟩
 | gS kvs =>
  obtain⟨z,y,xs,r,b1,aA,cu,e,c⟩:=x
  exact⟨z,y,xs,Paired.EC r fun p q z=>⟨z.1,bF _ _ z.2.1,z.2.2⟩,b1,aA,cu,k _ _ (.inl rfl) e,c⟩
 | set S n=>obtain⟨b1,aA,cu,t,e,c⟩:=x;exact⟨b1,aA,cu,t,k _ _ (.inl rfl) e,c⟩
 | ins C dx bQ =>
  obtain⟨d,z,ne,e,d7,⟨fj,aA,cu,aL,c⟩,r⟩:=x
  exact⟨aD _ d,z,ne,k _ _ (.inl rfl) e,d7,⟨fj,aA,cu,k _ _ (.inr d) aL,c⟩,r⟩
 | own y=>obtain⟨b1,e⟩:=x;exact⟨b1,k _ _ (.inl rfl) e⟩
 | Bt bQ=>obtain⟨d7,⟨fj,aA,cu,e,c⟩,r⟩:=x;exact⟨d7,⟨fj,aA,cu,k _ _ (.inl rfl) e,c⟩,r⟩
 | i2 lo aP=>obtain⟨t,u,v,e⟩:=x;exact⟨t,u,v,k _ _ (.inl rfl) e⟩
 | jJ b1 u b3=>obtain⟨e,q⟩:=x;exact⟨k _ _ (.inl rfl) e,b3 q⟩
 | q5 ps =>
  have e:h.get? a=some { cls:=.none,data:=.fields ps }:=x
  show h'.get? a=some { cls:=.none,data:=.fields ps }
  exact k a _ (.inl rfl) e
 | met f y =>
  have e:h.get? a=some (PySem.W.methodObj (.ref f) (.ref y)):=x
  show h'.get? a=some (PySem.W.methodObj (.ref f) (.ref y))
  exact k a _ (.inl rfl) e
 | ext φ=>obtain⟨p,⟨o,e⟩,st⟩:=x;exact⟨st _ _ p fun o q=>k _ _ (.inl rfl) q,⟨o,k _ _ (.inl rfl) e⟩,st⟩
theorem fm.lt (x:fm P w H h) (e:H a=some o):a<h.objs.size:=(x a o e).lt
theorem fm.fresh (x:fm P w H h) (e:h.objs.size≤a):H a=none:=by
 cases q:H a with
 | none=>rfl
 | some u=>exact absurd (lt_of_lt_of_le (x.lt q) e) (lt_irrefl _)
theorem fm.kept (x:fm P w H h) (k:∀b u,h.get? b=some u→h'.get? b=some u):fm P w H h':=fun a o e =>
 (x a o e).j5 (fun b u _ q=>k b u q) (fun _ q=>q) fun _ _ q=>q
theorem fm.laid (x:fm P w H h) (k:∀b u,h.get? b=some u→h'.get? b=some u) (aF:h.objs.size≤a) (new:fR P w (upd H a o) h' a o):fm P w (upd H a o) h':=fun b u e=>by
 have aR:=x.fresh aF
 by_cases aa:b=a
 ·subst aa;rw[aV]at e;cases e;exact new
 ·rw[aB aa]at e
  exact (x b u e).j5 (fun c v _ q=>k c v q) (fun c q=>by rw[aB (ct q aR)];exact q) fun c xs q=>by rw[aB (ct q aR)];exact q
end
def ou (H:ao) (a:Addr) (u:fH):Prop:=H a=some u∨∃o,H a=some (.jJ o u)
theorem ou.ok {P:Program}{w:World}{H:ao}{h:Heap}{a:Addr}{u:fH}(r:ou H a u) (x:fm P w H h):fR P w H h a u:=by
 rcases r with r | ⟨o,r⟩
 ·exact x a u r
 ·obtain⟨_,q⟩:=x a _ r
  exact q
def x9:Option fH→Prop
 | some (.lst _)=>True
 | some (.bR _)=>True
 | some (.gS _)=>True
 | some (.set _ _)=>True
 | some (.ins _ _ _)=>True
 | some (.ext _)=>True
 | _=>False
section
variable {P:Program}{w:World}{H:ao}{h h':Heap}{x e:Addr}{fB:fH}
theorem fm.write (ok:fm P w H h) (lM:x9 (H x)) (he:e=x∨H e=some (.own x)) (k:∀b u,b≠e→h.get? b=some u→h'.get? b=some u) (rj:∃u,h'.get? e=some u)
  (new:fR P w (upd H x fB) h' x fB):fm P w (upd H x fB) h':=fun b u q=>by
 have Nb:∀c y,H c=some (.own y)→c≠x:=fun c y r z=>by subst z;rw[r]at lM;exact lM
 have YU:∀c xs,H c=some (.tup xs)→c≠x:=fun c xs r z=>by subst z;rw[r]at lM;exact lM
 by_cases aa:b=x
 ·subst aa;rw[aV]at q;cases q;exact new
 ·rw[aB aa]at q
  by_cases hbe:b=e
  ·have ni:H b=some (.own x):=by
    rcases he with z | z
    ·exact absurd (hbe.trans z) aa
    ·rw[hbe];exact z
   rw[q]at ni;cases ni
   obtain⟨v,aX⟩:=rj
   exact⟨v,by rw[hbe];exact aX⟩
  ·refine (ok b u q).j5 (fun c v ai r=>k c v ?_ r) (fun c r=>by rw[aB (Nb c b r)];exact r) fun c xs r=>by rw[aB (YU c xs r)];exact r
   rcases ai with rfl | ai
   ·exact hbe
   ·rintro rfl
    rcases he with z | z
    ·exact Nb c b ai z
    ·rw[ai]at z;cases z;exact aa rfl
end
structure hC (bQ ex:List Addr) (H af:ao) (h h':Heap):Prop where
 keep:∀b o,h.get? b=some o→H b=none→b∉bQ→b∉ex→h'.get? b=some o
 slot:∀b o,h.get? b=some o→H b=none→b∈bQ→b∉ex→∃d5,h'.get? b=some { o with slots:=d5 }
 free:∀b o,h.get? b=some o→H b=none→b∉ex→af b=none
 there:∀b o,h.get? b=some o→b∉ex→∃fB,h'.get? b=some fB
 pS:∀b xs,H b=some (.tup xs)→af b=some (.tup xs)
 oF:∀b o u,H b=some (.jJ o u)→af b=some (.jJ o u)
 pT:∀b ps,H b=some (.q5 ps)→∃more,af b=some (.q5 (ps++more))
section
variable {bQ u6 ex aeb:List Addr}{H H1 av:ao}{h aj az h':Heap}{a x e:Addr}{o:fH}
theorem hC.any (u:hC bQ ex H H1 h aj) {b:Addr}{b1:Obj}(q:h.get? b=some b1) (n:H b=none) (bh:b∉ex):∃d5,aj.get? b=some { b1 with slots:=d5 }:=by
 by_cases aa:b∈bQ
 ·exact u.slot b b1 q n aa bh
 ·exact⟨b1.slots,u.keep b b1 q n aa bh⟩
theorem hC.kept (k:∀b u,h.get? b=some u→h'.get? b=some u):hC bQ ex H H h h' :=
 ⟨fun b b1 q _ _ _=>k b b1 q,fun b b1 q _ _ _=>⟨b1.slots,k b b1 q⟩,fun _ _ _ n _=>n,fun b b1 q _=>⟨b1,k b b1 q⟩,fun _ _ q=>q,fun _ _ _ q=>q,fun _ ps q=>⟨#[],by rw[q];simp⟩⟩
theorem hC.refl:hC bQ ex H H h h:=hC.kept fun _ _ q=>q
theorem hC.laid (k:∀b u,h.get? b=some u→h'.get? b=some u) (aF:h.objs.size≤a) (aR:H a=none):hC bQ ex H (upd H a o) h h' where
 keep:=fun b u q _ _ _=>k b u q
 slot:=fun b u q _ _ _=>⟨u.slots,k b u q⟩
 free:=fun b u q n _=>by rw[aB (ne_of_lt (lt_of_lt_of_le (lt_size q) aF))];exact n
 there:=fun b u q _=>⟨u,k b u q⟩
 pS:=fun b xs q=>by rw[aB (ct q aR)];exact q
 oF:=fun b u xs q=>by rw[aB (ct q aR)];exact q
 pT:=fun b ps q=>⟨#[],by rw[aB (ct q aR),q];simp⟩
theorem hC.write (lM:x9 (H x)) (he:e=x∨H e=some (.own x)) (k:∀b u,b≠e→h.get? b=some u→h'.get? b=some u) (rj:∃u,h'.get? e=some u):hC bQ ex H (upd H x o) h h':=by
 have bh:∀b,H b=none→b≠x:=fun b n z=>by subst z;rw[n]at lM;exact lM
 have aa:∀b,H b=none→b≠e:=fun b n z=>by
  subst z
  rcases he with r | r
  ·exact bh b n r
  ·rw[n]at r;cases r
 have hm:∀b u,H b=some u→¬x9 (some u)→b≠x:=fun b u q nm z=>by subst z;rw[q]at lM;exact nm lM
 refine⟨fun b u q n _ _=>k b u (aa b n) q,fun b u q n _ _=>⟨u.slots,k b u (aa b n) q⟩,fun b u q n _=>by rw[aB (bh b n)];exact n,fun b u q _=>?_,
  fun b xs q=>by rw[aB (hm b _ q fun z=>z)];exact q,fun b u xs q=>by rw[aB (hm b _ q fun z=>z)];exact q,fun b ps q=>⟨#[],by rw[aB (hm b _ q fun z=>z),q];simp⟩⟩
 by_cases hbe:b=e
 ·subst hbe;exact rj
 ·exact⟨u,k b u hbe q⟩
end
def AE (h:Heap) (H:ao):List Addr:=(List.range h.objs.size).filter fun a=>(H a).isSome
def pY (h:Heap) (H:ao):Heap:=hideAll h (AE h H)
theorem Uz (h:Heap) (H:ao):(pY h H).objs.size=h.objs.size:=PySem.W.hideAll_size _ _
theorem VE {h:Heap}{H:ao}{b:Addr}{o:Obj}(e:h.get? b=some o) (n:H b=none):(pY h H).get? b=some o :=
 PySem.W.hideAll_get _ e fun hm=>by
  have q:(H b).isSome=true:=(mem_filter.mp hm).2
  rw[n]at q;simp at q
theorem Wf {h:Heap}{H:ao}{b:Addr}{o:Obj}(e:(pY h H).get? b=some o):h.get? b=some o∧H b=none:=by
 have cF:h.get? b=some o:=PySem.W.of_hideAll (AE h H) e
 refine⟨cF,?_⟩
 cases q:H b with
 | none=>rfl
 | some x =>
  have hm:b∈AE h H:=mem_filter.mpr ⟨List.mem_range.mpr (lt_size cF),by simp[q]⟩
  have z:(pY h H).get? b=none:=PySem.W.hideAll_none (AE h H) hm
  rw[z]at e;cases e
structure Mod (K:PySem.W.Frag) (mg:Str→Option Value) (base:Heap):Prop where
 uW:K.In base
 glob:base.Ns mainGlobals mg
 blt:∃nt,base.Ns builtinsNs nt∧∀x:Str,x≠"__name__"→nt x=bootBuiltins x
 nolimit:base.NoLimit
structure bI where
 prog:Program
 w:World
 K:PySem.W.Frag
 mg:Str→Option Value
 base:Heap
 A:Around
 N:List Str
 fT:Shared
 y1:ao
 env:Env
 outer:List Env
 stack:List Env
 ex:List Addr
 fn:Str→Bool
 calm:Bool
 bL:List (Addr × Obj)
 dS:Value→Shared→Prop
def gY (l:List Env):List Addr:=l.filterMap (·.frame)
abbrev bI.bQ (X:bI):List Addr:=gY X.outer
def Gl (sc:Scope) (x:Str):Prop:=sc.names.lookup x=some .local∨sc.names.lookup x=some .cell∨sc.names.lookup x=some .free
def Loc (sc:Scope) (x:Str):Prop:=sc.names.lookup x=some .local∨sc.names.lookup x=some .cell
def Look (env:Env) (h:Heap) (m:Str→Option Value) (x:Str) (u:Value):Prop :=
 (env.kindOf x=some .local∧m x=some u)∨((env.kindOf x=some .cell∨env.kindOf x=some .free)∧∃c,env.cells.lookup x=some c∧h.IsCell c (some u))
structure bI.Ok (X:bI):Prop where
 mod:Mod X.K X.mg X.base
 kind:X.env.scope.kind=.function
 glob:X.env.globals=mainGlobals
 blt:X.env.builtins=builtinsNs
 above:X.fT.heap.objs.size≤X.env.locals
 inj:∀x y c,X.env.cells.lookup x=some c→X.env.cells.lookup y=some c→x=y
 has:∀x,(X.env.kindOf x=some .cell∨X.env.kindOf x=some .free)→∃c,X.env.cells.lookup x=some c
 qe:∀x c,X.fn x=true→X.env.cells.lookup x=some c→X.fT.heap.objs.size≤c
 hd:X.calm=true→X.A.handled=none
 frames:X.A.frames=some X.stack
 nM:X.stack=X.outer∨(X.stack=X.env::X.outer∧X.env.frame=some X.env.locals)
 qc:∀b∈X.ex,b≠X.env.locals∧∀x c,X.env.cells.lookup x=some c→c≠b
 bs:∀b o,X.base.get? b=some o→X.fT.heap.get? b=some o∧X.y1 b=none
 lG:X.base.objs.size≤X.fT.heap.objs.size
 nI:∀b o,X.base.get? b=some o→b∉X.ex
 q2:∀b∈X.ex,b∉X.bQ
 j7:X.fT.heap.FunFrames X.base X.outer
 nZ:∀b∈X.bQ,X.y1 b=none
structure Inv (X:bI) (pins:List (Addr × Obj)) (σ:List (Option V)) (H:ao) (s:Shared):Prop where
 ok:X.Ok
 os:s.os=X.fT.os
 bare:AllBare s.gens
 base:hC X.bQ X.ex X.y1 H X.fT.heap s.heap
 loc:∃m,s.heap.Ns X.env.locals m∧∀(i:Nat) (x:Str) (v:V),X.N[i]?=some x→σ[i]?=some (some v)→Gl X.env.scope x→∃u,RelV v u∧Look X.env s.heap m x u
 cell:∀x c,X.env.cells.lookup x=some c→∃v,s.heap.IsCell c v
 free:H X.env.locals=none
 jE:∀x c,X.env.cells.lookup x=some c→H c=none
 pin:∀p∈X.bL++pins,s.heap.get? p.1=some p.2∧H p.1=none∧p.1≠X.env.locals∧p.1∉X.bQ∧∀v,p.2.data≠.cell v
 bM:fm X.prog X.w H s.heap
 len:σ.length=X.N.length
section
variable {X:bI}{pins:List (Addr × Obj)}{σ:List (Option V)}{H af:ao}{s:Shared}{h':Heap}
theorem bI.Ok.YW (ok:X.Ok) {b:Addr}{o:Obj}(e:X.base.get? b=some o):b∉X.bQ:=fun aa=>by
 have:=(ok.j7.mem aa).1
 rw[e]at this;cases this
theorem Inv.bs (I:Inv X pins σ H s):∀b o,X.base.get? b=some o→s.heap.get? b=some o∧H b=none:=fun b o e =>
 ⟨I.base.keep b o (I.ok.bs b o e).1 (I.ok.bs b o e).2 (I.ok.YW e) (I.ok.nI b o e),I.base.free b o (I.ok.bs b o e).1 (I.ok.bs b o e).2 (I.ok.nI b o e)⟩
theorem Inv.iu (I:Inv X pins σ H s):∀b o,X.base.get? b=some o→s.heap.get? b=some o:=fun b o e=>(I.bs b o e).1
theorem Inv.mod (I:Inv X pins σ H s):Mod X.K X.mg X.base:=I.ok.mod
theorem Inv.gW (I:Inv X pins σ H s):X.K.In s.heap:=I.ok.mod.uW.keeps I.iu
theorem Inv.lt (I:Inv X pins σ H s):X.env.locals<s.heap.objs.size:=let ⟨_,aR,_⟩:=I.loc;aR.lt
theorem Inv.ef (I:Inv X pins σ H s):X.fT.heap.objs.size≤s.heap.objs.size:=le_trans I.ok.above (le_of_lt I.lt)
theorem Inv.YV (I:Inv X pins σ H s) {a:Addr}(h:s.heap.objs.size≤a):a∉X.bQ:=fun aa=>by
 obtain⟨_,o,aD,_⟩:=I.ok.j7.mem aa
 exact absurd (lt_of_lt_of_le (lt_size aD) (le_trans I.ef h)) (lt_irrefl _)
theorem Inv.tc (I:Inv X pins σ H s):∀x c,X.env.cells.lookup x=some c→c≠X.env.locals:=fun x c e z=>by
 obtain⟨v,o,aD,hd⟩:=I.cell x c e
 obtain⟨m,⟨fB,aA,cu,nU,F2,_⟩,_⟩:=I.loc
 rw[z,nU]at aD;cases aD;rw[F2]at hd;cases hd
theorem Inv.j7 (I:Inv X pins σ H s):s.heap.FunFrames X.base X.outer:=by
 have all:∀(l:List Env),(∀b∈gY l,b∈X.bQ)→X.fT.heap.FunFrames X.base l→s.heap.FunFrames X.base l:=by
  intro l
  induction l with
  | nil=>intro _ _;trivial
  | cons env r b3 =>
   intro aJ aC
   obtain⟨aQ,⟨L,o,hf,aR,aD,hd⟩,aE⟩:=aC
   have eX:L∈X.bQ:=aJ L (by unfold gY;rw[List.filterMap_cons,hf];exact mem_cons_self)
   obtain⟨d5,e⟩:=I.base.slot L o aD (I.ok.nZ L eX) eX fun z=>I.ok.q2 L z eX
   exact⟨aQ,⟨L,_,hf,aR,e,hd⟩,b3 (fun b aa=>aJ b (by unfold gY;rw[List.filterMap_cons,hf];exact mem_cons_of_mem _ aa)) aE⟩
 exact all X.outer (fun _ aa=>aa) I.ok.j7
theorem Inv.stack (I:Inv X pins σ H s):s.heap.FunFrames X.base X.stack:=by
 rcases I.ok.nM with e | ⟨e,hf⟩
 ·rw[e];exact I.j7
 ·rw[e]
  obtain⟨m,aR,_⟩:=I.loc
  refine .cons (by rw[I.ok.kind];decide) hf aR ?_ I.j7
  exact Heap.get?_none_of_le (le_trans I.ok.lG I.ok.above)
theorem Inv.uv (I:Inv X pins σ H s):∀b∈gY X.stack,b∈X.env.locals::X.bQ:=fun b aa=>by
 rcases I.ok.nM with e | ⟨e,hf⟩
 ·rw[e]at aa;exact mem_cons_of_mem _ aa
 ·rw[e]at aa
  unfold gY at aa
  rw[List.filterMap_cons,hf]at aa
  exact aa
theorem Inv.v9 (I:Inv X pins σ H s):∀b∈gY X.stack,H b=none:=fun b aa=>by
 rcases mem_cons.mp (I.uv b aa) with e | aa
 ·rw[e];exact I.free
 ·obtain⟨_,o,aD,_⟩:=I.ok.j7.mem aa
  exact I.base.free b o aD (I.ok.nZ b aa) fun z=>I.ok.q2 b z aa
theorem Inv.step {g':Array GenState}{t':Nat}{d':Drawn}{ch:List Addr}(I:Inv X pins σ H s)
  (kO:∀b∈ch,(b∈X.ex∨X.fT.heap.objs.size≤b)∧b≠X.env.locals∧(∀x c,X.env.cells.lookup x=some c→c≠b)∧∀p∈X.bL++pins,p.1≠b)
  (keep:∀b o,b≠X.env.locals→b∉X.bQ→b∉ch→s.heap.get? b=some o→H b=none→h'.get? b=some o)
  (slot:∀b o,b≠X.env.locals→b∈X.bQ→b∉ch→s.heap.get? b=some o→H b=none→∃d5,h'.get? b=some { o with slots:=d5 }) (free:∀b o,b∉ch→s.heap.get? b=some o→H b=none→af b=none)
  (there:∀b o,b∉ch→s.heap.get? b=some o→∃fB,h'.get? b=some fB)
  (pS:∀b xs,H b=some (.tup xs)→af b=some (.tup xs)) (oF:∀b o u,H b=some (.jJ o u)→af b=some (.jJ o u)) (pT:∀b ps,H b=some (.q5 ps)→∃more,af b=some (.q5 (ps++more)))
  (ns:∀m,s.heap.Ns X.env.locals m→h'.Ns X.env.locals m) (bM:fm X.prog X.w af h') (cO:AllBare g') :
  Inv X pins σ af { s with heap:=h',gens:=g',drawn:=d',toks:=t' }:=by
 have AS:∀b o,X.fT.heap.get? b=some o→b≠X.env.locals:=fun b o e=>ne_of_lt (lt_of_lt_of_le (lt_size e) I.ok.above)
 have AU:∀b o,X.fT.heap.get? b=some o→b∉X.ex→b∉ch:=fun b o e bh aa=>by
  rcases (kO b aa).1 with z | z
  ·exact bh z
  ·exact absurd (lt_of_lt_of_le (lt_size e) z) (lt_irrefl _)
 have cellK:∀x c,X.env.cells.lookup x=some c→∀v,s.heap.IsCell c v→h'.IsCell c v:=fun x c e v ⟨o,aD,hd⟩=>by
  have m2:c∉ch:=fun z=>(kO c z).2.2.1 x c e rfl
  by_cases ai:c∈X.bQ
  ·obtain⟨d5,q⟩:=slot c o (I.tc x c e) ai m2 aD (I.jE x c e)
   exact⟨_,q,hd⟩
  ·exact⟨o,keep c o (I.tc x c e) ai m2 aD (I.jE x c e),hd⟩
 refine⟨I.ok,I.os,cO,⟨fun b o e n aa bh=>?_,fun b o e n aa bh=>?_,fun b o e n bh=>?_,fun b o e bh=>?_,fun b xs e=>pS b xs (I.base.pS b xs e),fun b o xs e=>oF b o xs (I.base.oF b o xs e),fun b ps e=>?_⟩,?_,fun x c e=>?_,?_,fun x c e=>?_,fun p aF=>?_,bM,I.len⟩
 ·exact keep b o (AS b o e) aa (AU b o e bh) (I.base.keep b o e n aa bh) (I.base.free b o e n bh)
 ·obtain⟨d5,aG⟩:=I.base.slot b o e n aa bh
  obtain⟨ES,aL⟩:=slot b _ (AS b o e) aa (AU b o e bh) aG (I.base.free b o e n bh)
  exact⟨ES,aL⟩
 ·obtain⟨fB,aG⟩:=I.base.there b o e bh
  exact free b fB (AU b o e bh) aG (I.base.free b o e n bh)
 ·obtain⟨fB,aG⟩:=I.base.there b o e bh
  exact there b fB (AU b o e bh) aG
 ·obtain⟨cp,aG⟩:=I.base.pT b ps e
  obtain⟨cy,aL⟩:=pT b _ aG
  exact⟨cp++cy,by rw[aL,Array.append_assoc]⟩
 ·obtain⟨m,aR,aC⟩:=I.loc
  refine⟨m,ns m aR,fun i x v aG aL bH=>?_⟩
  obtain⟨u,r,l⟩:=aC i x v aG aL bH
  refine⟨u,r,?_⟩
  rcases l with l | ⟨k,c,e,z⟩
  ·exact .inl l
  ·exact .inr ⟨k,c,e,cellK x c e _ z⟩
 ·obtain⟨v,z⟩:=I.cell x c e
  exact⟨v,cellK x c e v z⟩
 ·obtain⟨m,⟨o,_,_,aD,_⟩,_⟩:=I.loc
  exact free _ o (fun z=>(kO _ z).2.1 rfl) aD I.free
 ·obtain⟨v,o,aD,hd⟩:=I.cell x c e
  exact free c o (fun z=>(kO c z).2.2.1 x c e rfl) aD (I.jE x c e)
 ·obtain⟨e,n,ne,kU,d⟩:=I.pin p aF
  have m2:p.1∉ch:=fun z=>(kO p.1 z).2.2.2 p aF rfl
  exact⟨keep p.1 p.2 ne kU m2 e n,free p.1 p.2 m2 e n,ne,kU,d⟩
theorem Inv.un {t':Nat}(I:Inv X pins σ H s) (u:hC X.bQ [] H af s.heap h') (bM:fm X.prog X.w af h'):Inv X pins σ af { s with heap:=h',toks:=t' }:=by
 obtain⟨m,⟨o,aA,cu,aD,r⟩,_⟩:=id I.loc
 obtain⟨d5,eX⟩:=u.any aD I.free (by simp)
 exact I.step (g':=s.gens) (d':=s.drawn) (ch:=[]) (fun _ z=>nomatch z) (fun b o _ aa _ e n=>u.keep b o e n aa (by simp)) (fun b o _ aa _ e n=>u.slot b o e n aa (by simp)) (fun b o _ e n=>u.free b o e n (by simp)) (fun b o _ e=>u.there b o e (by simp)) u.pS u.oF u.pT (fun gb hm=>by
  obtain⟨fB,xZ,Gd,nU,f_⟩:=hm
  rw[aD]at nU;cases nU
  exact⟨_,xZ,Gd,eX,f_⟩) bM I.bare
theorem Inv.call {g':Array GenState}{t':Nat}{d':Drawn}{ch:List Addr}(I:Inv X pins σ H s) (u:hC (gY X.stack) ch H af s.heap h') (bM:fm X.prog X.w af h') (cO:AllBare g')
  (kO:∀b∈ch,(b∈X.ex∨X.fT.heap.objs.size≤b)∧b≠X.env.locals∧(∀x c,X.env.cells.lookup x=some c→c≠b)∧∀p∈X.bL++pins,p.1≠b) :
  Inv X pins σ af { s with heap:=h',gens:=g',drawn:=d',toks:=t' }:=by
 obtain⟨m,⟨o,aA,cu,aD,r⟩,_⟩:=id I.loc
 obtain⟨d5,eX⟩:=u.any aD I.free fun z=>(kO _ z).2.1 rfl
 exact I.step (ch:=ch) kO (fun b o eX aa ai e n=>u.keep b o e n (fun z=>(mem_cons.mp (I.uv b z)).elim eX aa) ai) (fun b o _ _ ai e n=>u.any e n ai) (fun b o ai e n=>u.free b o e n ai) (fun b o ai e=>u.there b o e ai) u.pS u.oF u.pT (fun gb hm=>by
  obtain⟨fB,xZ,Gd,nU,f_⟩:=hm
  rw[aD]at nU;cases nU
  exact⟨_,xZ,Gd,eX,f_⟩) bM cO
theorem Inv.turned {t':Nat}{it:Addr}(I:Inv X pins σ H s) (k:∀b o,b≠it→s.heap.get? b=some o→h'.get? b=some o) (aR:H it=none) (eX:it≠X.env.locals)
  (aj:it∈X.ex∨X.fT.heap.objs.size≤it) (az:∀x c,X.env.cells.lookup x=some c→c≠it) (ck:∀p∈X.bL++pins,p.1≠it):Inv X pins σ H { s with heap:=h',toks:=t' }:=by
 have AQ:∀b u,H b=some u→b≠it:=fun b u e z=>by rw[z,aR]at e;cases e
 refine I.step (g':=s.gens) (d':=s.drawn) (ch:=[it]) (fun b aa=>?_) (fun b o _ _ ai e _=>k b o (fun z=>ai (by simp[z])) e) (fun b o _ _ ai e _=>⟨o.slots,k b o (fun z=>ai (by simp[z])) e⟩) (fun _ _ _ _ n=>n)
  (fun b o ai e=>⟨o,k b o (fun z=>ai (by simp[z])) e⟩) (fun _ _ e=>e) (fun _ _ _ e=>e) (fun b ps e=>⟨#[],by rw[e];simp⟩) (fun m hm=>?_) (fun b u e=>?_) I.bare
 ·have e:b=it:=by simpa using aa
  subst e
  exact⟨aj,eX,az,ck⟩
 ·obtain⟨o,aA,cu,aD,r⟩:=hm
  exact⟨o,aA,cu,k _ o (Ne.symm eX) aD,r⟩
 ·refine (I.bM b u e).j5 (fun c v ai q=>k c v ?_ q) (fun _ q=>q) fun _ _ q=>q
  rcases ai with z | z
  ·rw[z];exact AQ b u e
  ·exact AQ c _ z
theorem Inv.tok (I:Inv X pins σ H s) (t:Nat):Inv X pins σ H { s with toks:=t }:=I.un (h':=s.heap) (t':=t) hC.refl I.bM
theorem Inv.kept {t':Nat}(I:Inv X pins σ H s) (k:∀b u,s.heap.get? b=some u→h'.get? b=some u):Inv X pins σ H { s with heap:=h',toks:=t' }:=I.un (hC.kept k) (I.bM.kept k)
theorem Inv.laid {a:Addr}{o:fH}{t':Nat}(I:Inv X pins σ H s) (k:∀b u,s.heap.get? b=some u→h'.get? b=some u) (aF:s.heap.objs.size≤a) (new:fR X.prog X.w (upd H a o) h' a o) :
  Inv X pins σ (upd H a o) { s with heap:=h',toks:=t' }:=I.un (hC.laid k aF (I.bM.fresh aF)) (I.bM.laid k aF new)
theorem Inv.write {x e:Addr}{o:fH}{t':Nat}(I:Inv X pins σ H s) (lM:x9 (H x)) (he:e=x∨H e=some (.own x)) (k:∀b u,b≠e→s.heap.get? b=some u→h'.get? b=some u) (rj:∃u,h'.get? e=some u)
  (new:fR X.prog X.w (upd H x o) h' x o):Inv X pins σ (upd H x o) { s with heap:=h',toks:=t' }:=I.un (hC.write lM he k rj) (I.bM.write lM he k rj new)
theorem Inv.Lb {Mh:List (Addr × Obj)}(I:Inv X pins σ H s) (h:∀p∈Mh,s.heap.get? p.1=some p.2∧H p.1=none∧p.1≠X.env.locals∧p.1∉X.bQ∧∀v,p.2.data≠.cell v):Inv X Mh σ H s :=
 ⟨I.ok,I.os,I.bare,I.base,I.loc,I.cell,I.free,I.jE,fun p aF=>(mem_append.mp aF).elim (fun z=>I.pin p (mem_append_left _ z)) (h p),I.bM,I.len⟩
theorem Kg {N:List Str}(fV:N.Nodup) {i j:Nat}{x:Str}(a:N[i]?=some x) (b:N[j]?=some x):i=j:=by
 obtain⟨aj,aG⟩:=List.getElem?_eq_some_iff.mp a
 obtain⟨az,aL⟩:=List.getElem?_eq_some_iff.mp b
 exact (List.getElem_inj fV).mp (aG.trans aL.symm)
theorem zp {M:Model}{A:Around}{E:Value→Shared→Prop}{i:Nat}{x:Str}{v:V}{u:Value}{Q:Unit→Shared→Prop}(I:Inv X pins σ H s) (fV:X.N.Nodup) (aP:X.N[i]?=some x) (bh:Loc X.env.scope x) (r:RelV v u)
  (h:∀aI,Inv X pins (σ.set i (some v)) H aI→(∃a,Heap.SameBut a s.heap aI.heap∧(a=X.env.locals∨X.env.cells.lookup x=some a))→Q () aI) (hf:X.fn x=true∨X.env.scope.names.lookup x=some .local:=by first | exact .inl rfl | exact .inr rfl | assumption):wpAny M A (storeName X.env x u) Q E s:=by
 obtain⟨m,aR,aC⟩:=id I.loc
 have Zn:(X.env.scope.kind == .class || (X.env.scope.kind == .module && X.env.locals != X.env.globals))=false:=by rw[I.ok.kind];rfl
 have PT:i<σ.length:=by rw[I.len];exact (List.getElem?_eq_some_iff.mp aP).1
 have tc:=I.tc
 have tracked:∀{a:Addr} {h':Heap},(∃o,s.heap.get? a=some o∧H a=none)→Heap.SameBut a s.heap h'→fm X.prog X.w H h':=fun {a h'} bo aJ b b1 e=>by
  obtain⟨_,_,iz⟩:=bo
  refine (I.bM b b1 e).j5 (fun c ec ai q=>(aJ.2 c ?_).trans q) (fun _ q=>q) fun _ _ q=>q
  rintro rfl
  rcases ai with rfl | ai
  ·rw[iz]at e;cases e
  ·rw[iz]at ai;cases ai
 rcases bh with aQ | aQ
 ·refine wpAny_storeName_local aQ aR (fun h' aaR aJ=>?_) Zn
  obtain⟨G_,_,_,aaL,_⟩:=id aR
  refine h _ ⟨I.ok,I.os,I.bare,⟨fun b o e n aa bh=>?_,fun b o e n aa bh=>?_,I.base.free,fun b o e bh=>?_,I.base.pS,I.base.oF,I.base.pT⟩,⟨_,aaR,fun j y md aG aL bH=>?_⟩,fun y c e=>?_,I.free,I.jE,fun p aF=>?_,tracked ⟨G_,aaL,I.free⟩ aJ,by simpa using I.len⟩ ⟨_,aJ,.inl rfl⟩
  ·exact (aJ.2 b (ne_of_lt (lt_of_lt_of_le (lt_size e) I.ok.above))).trans (I.base.keep b o e n aa bh)
  ·obtain⟨d5,aG⟩:=I.base.slot b o e n aa bh
   exact⟨d5,(aJ.2 b (ne_of_lt (lt_of_lt_of_le (lt_size e) I.ok.above))).trans aG⟩
  ·obtain⟨fB,aG⟩:=I.base.there b o e bh
   exact⟨fB,(aJ.2 b (ne_of_lt (lt_of_lt_of_le (lt_size e) I.ok.above))).trans aG⟩
  ·by_cases cD:j=i
   ·subst cD
    rw[aP]at aG;cases aG
    rw[getElem?_set_self PT]at aL
    cases aL
    exact⟨u,r,.inl ⟨aQ,by simp⟩⟩
   ·rw[getElem?_set_ne (Ne.symm cD)]at aL
    obtain⟨o2,f_,q⟩:=aC j y md aG aL bH
    refine⟨o2,f_,?_⟩
    rcases q with ⟨k,e⟩ | ⟨k,c,e,z⟩
    ·refine .inl ⟨k,?_⟩
     have:y≠x:=fun e=>cD (Kg fV aG (e ▸ aP))
     simp[this,e]
    ·exact .inr ⟨k,c,e,z.sameBut aJ (tc y c e)⟩
  ·obtain⟨ec,z⟩:=I.cell y c e
   exact⟨ec,z.sameBut aJ (tc y c e)⟩
  ·obtain⟨e,n,ne,kU,d⟩:=I.pin p aF
   exact⟨(aJ.2 p.1 ne).trans e,n,ne,kU,d⟩
 ·have FZ:X.fn x=true:=by
   rcases hf with z | z
   ·exact z
   ·rw[z]at aQ;cases aQ
  obtain⟨c,ai⟩:=I.ok.has x (.inl aQ)
  obtain⟨ec,z⟩:=I.cell x c ai
  refine wpAny_storeName_cell I.ok.kind aQ ai z (fun h' P4 aJ=>?_)
  obtain⟨nj,PM,Zc⟩:=id z
  refine h { s with heap:=h' } ⟨I.ok,I.os,I.bare,⟨fun b o e n aa bh=>?_,fun b o e n aa bh=>?_,I.base.free,fun b o e bh=>?_,I.base.pS,I.base.oF,I.base.pT⟩,⟨m,aR.sameBut aJ (Ne.symm (tc x c ai)),fun j y md aG aL bH=>?_⟩,fun y fO e=>?_,I.free,I.jE,fun p aF=>?_,tracked ⟨nj,PM,I.jE x c ai⟩ aJ,by simpa using I.len⟩ ⟨c,aJ,.inr ai⟩
  ·exact (aJ.2 b (ne_of_lt (lt_of_lt_of_le (lt_size e) (I.ok.qe x c FZ ai)))).trans (I.base.keep b o e n aa bh)
  ·obtain⟨d5,aG⟩:=I.base.slot b o e n aa bh
   exact⟨d5,(aJ.2 b (ne_of_lt (lt_of_lt_of_le (lt_size e) (I.ok.qe x c FZ ai)))).trans aG⟩
  ·obtain⟨fB,aG⟩:=I.base.there b o e bh
   exact⟨fB,(aJ.2 b (ne_of_lt (lt_of_lt_of_le (lt_size e) (I.ok.qe x c FZ ai)))).trans aG⟩
  ·by_cases cD:j=i
   ·subst cD
    rw[aP]at aG;cases aG
    rw[getElem?_set_self PT]at aL
    cases aL
    exact⟨u,r,.inr ⟨.inl aQ,c,ai,P4⟩⟩
   ·rw[getElem?_set_ne (Ne.symm cD)]at aL
    obtain⟨o2,f_,q⟩:=aC j y md aG aL bH
    refine⟨o2,f_,?_⟩
    rcases q with q | ⟨k,fO,e,iD⟩
    ·exact .inl q
    ·refine .inr ⟨k,fO,e,iD.sameBut aJ ?_⟩
     rintro rfl
     exact cD (Kg fV aG (I.ok.inj _ _ _ e ai ▸ aP))
  ·by_cases P0:fO=c
   ·subst P0;exact⟨_,P4⟩
   ·obtain⟨eG,dK⟩:=I.cell y fO e
    exact⟨eG,dK.sameBut aJ P0⟩
  ·obtain⟨e,n,ne,kU,d⟩:=I.pin p aF
   refine⟨(aJ.2 p.1 ?_).trans e,n,ne,kU,d⟩
   intro q
   rw[q,PM]at e
   have ni:nj=p.2:=Option.some.inj e
   exact d ec (by rw[←ni];exact Zc)
theorem J7 {M:Model}{A:Around}{E:Value→Shared→Prop}{i:Nat}{x:Str}{v:V}{u:Value}{Q:Unit→Shared→Prop}(I:Inv X pins σ H s) (fV:X.N.Nodup) (aP:X.N[i]?=some x) (bh:Loc X.env.scope x) (r:RelV v u)
  (h:∀aI,Inv X pins (σ.set i (some v)) H aI→Q () aI) (hf:X.fn x=true∨X.env.scope.names.lookup x=some .local:=by first | exact .inl rfl | exact .inr rfl | assumption):wpAny M A (storeName X.env x u) Q E s :=
 zp I fV aP bh r (fun aI fk _=>h aI fk) hf
theorem Inv.z7 {aI:Shared}{ch:List Addr}(I:Inv X pins σ H s) (aD:aI.os=s.os) (u:hC (gY X.stack) ch H af s.heap aI.heap) (bM:fm X.prog X.w af aI.heap) (cO:AllBare aI.gens)
  (kO:∀b∈ch,(b∈X.ex∨X.fT.heap.objs.size≤b)∧b≠X.env.locals∧(∀x c,X.env.cells.lookup x=some c→c≠b)∧∀p∈X.bL++pins,p.1≠b):Inv X pins σ af aI:=by
 obtain⟨h',g',d',t',fB⟩:=aI
 have e:fB=s.os:=aD
 subst e
 exact I.call (g':=g') (t':=t') (d':=d') u bM cO kO
end
abbrev hB:=Value→Option Addr→ao→Prop
abbrev St:=List (Option V)
abbrev cG:=V→ao→Prop
abbrev TE:=St→ao→cG→Prop
abbrev TT:=St→ao→(Bool→ao→Prop)→Prop
abbrev iV:=St→ao→(List V→ao→Prop)→Prop
structure Ends where
 dk:St→ao→Prop
 n_:cG
 iu:St→ao→Prop:=fun _ _=>False
 fG:St→ao→Prop:=fun _ _=>False
abbrev fX:=Ends→St→ao→Prop
def hK (X:bI) (pins:List (Addr × Obj)) (σ:St) (Q:cG) (u:Value) (aI:Shared):Prop:=∃v af,Inv X pins σ af aI∧RelV v u∧Q v af
def Sn (X:bI) (pins:List (Addr × Obj)) (σ:St) (Q:Bool→ao→Prop) (b:Bool) (aI:Shared):Prop:=∃af,Inv X pins σ af aI∧Q b af
def adm (X:bI) (pins:List (Addr × Obj)) (σ:St) (Q:List V→ao→Prop) (us:List Value) (aI:Shared):Prop:=∃vs af,Inv X pins σ af aI∧Vals vs us∧Q vs af
def oq (X:bI) (pins:List (Addr × Obj)) (D:Ends) (f:Flow) (aI:Shared):Prop :=
 match f with
 | .next=>∃bz af,Inv X pins bz af aI∧D.dk bz af
 | .brk=>∃bz af,Inv X pins bz af aI∧D.iu bz af
 | .cont=>∃bz af,Inv X pins bz af aI∧D.fG bz af
 | .ret u=>∃v bz af,Inv X pins bz af aI∧RelV v u∧D.n_ v af
def b8 (X:bI) (e:Expr) (t:TE):Prop :=
 ∀(pins:List (Addr × Obj)) (s:Shared) (σ:St) (H:ao) (Q:cG),Inv X pins σ H s→t σ H Q→wpAny (model X.prog X.w) X.A (eval e X.env) (hK X pins σ Q) X.dS s
def h5 (X:bI) (e:Expr) (t:TT):Prop :=
 ∀(pins:List (Addr × Obj)) (s:Shared) (σ:St) (H:ao) (Q:Bool→ao→Prop),Inv X pins σ H s→t σ H Q→wpAny (model X.prog X.w) X.A (isTrue e X.env (eval e X.env)) (Sn X pins σ Q) X.dS s
def rP (X:bI) (e:Expr) (t:TT):Prop :=
 ∀(whole:Sem Value) (pins:List (Addr × Obj)) (s:Shared) (σ:St) (H:ao) (Q:Bool→ao→Prop),Inv X pins σ H s→t σ H Q→wpAny (model X.prog X.w) X.A (isTrue e X.env whole) (Sn X pins σ Q) X.dS s
theorem rP.pt {X:bI}{e:Expr}{t:TT}(h:rP X e t):h5 X e t:=h _
def mD (X:bI) (aA:List Expr) (t:iV):Prop :=
 ∀(pos:Pos) (pins:List (Addr × Obj)) (s:Shared) (σ:St) (H:ao) (Q:List V→ao→Prop),Inv X pins σ H s→t σ H Q→wpAny (model X.prog X.w) X.A (spliced (backTo pos (starEach aA X.env))) (adm X pins σ Q) X.dS s
def jV (X:bI) (st:Stmt) (t:fX):Prop :=
 ∀(pins:List (Addr × Obj)) (s:Shared) (σ:St) (H:ao) (D:Ends),Inv X pins σ H s→t D σ H→wpAny (model X.prog X.w) X.A (exec st X.env) (oq X pins D) X.dS s
def hR (X:bI) (st:List Stmt) (t:fX):Prop :=
 ∀(pins:List (Addr × Obj)) (s:Shared) (σ:St) (H:ao) (D:Ends),Inv X pins σ H s→t D σ H→wpAny (model X.prog X.w) X.A (execs st X.env) (oq X pins D) X.dS s
theorem bT {α:Type}{t:Sem α}{Q vE:α→Shared→Prop}{M:Model}{A:Around}{E:Value→Shared→Prop}{s:Shared}(h:wpAny M A t Q E s) (qp:∀a s,Q a s→vE a s):wpAny M A t vE E s:=wpAny_mono h qp fun _ _ x=>x
section
variable {X:bI}
theorem bin {a b:Expr}{dB d4:TE}(bo:b8 X a dB) (aa:b8 X b d4) {pins:List (Addr × Obj)}{s:Shared}{σ:St}{H:ao}{R:V→V→ao→Prop}(I:Inv X pins σ H s) (h:dB σ H fun x H1=>d4 σ H1 fun y av=>R x y av)
  {α:Type} {Q:α→Shared→Prop} {f:Value→Value→Sem α}
  (hf:∀v u s2 x y av,Inv X pins σ av s2→RelV x v→RelV y u→R x y av→wpAny (model X.prog X.w) X.A (f v u) Q X.dS s2) :
  wpAny (model X.prog X.w) X.A (eval a X.env) (fun v dw=>wpAny (model X.prog X.w) X.A (eval b X.env) (fun u iR=>wpAny (model X.prog X.w) X.A (f v u) Q X.dS iR) X.dS dw) X.dS s:=by
 refine bT (bo pins s σ H _ I h) fun v s1 ⟨x,H1,a_,bE,bu⟩=>?_
 refine bT (aa pins s1 σ H1 _ a_ bu) fun u s2 ⟨y,av,cK,b4,aW⟩=>?_
 exact hf v u s2 x y av cK bE b4 aW
def MJ (i:Nat):TE:=fun σ H Q=>∃v,σ[i]?=some (some v)∧Q v H
def Bx (v:V):TE:=fun _ H Q=>Q v H
theorem WV {i:Nat}{x:Str}{pos:Pos}(fV:X.N[i]?=some x) (aX:Gl X.env.scope x) (hd:(x == ("__debug__":Str))=false:=by decide) (lD:(x == ("__classdict__":Str))=false:=by decide):b8 X (.Name x pos) (MJ i):=by
 intro pins s σ H Q I h
 obtain⟨v,e,h⟩:=h
 obtain⟨m,aR,aC⟩:=I.loc
 obtain⟨u,r,l⟩:=aC i x v fV e aX
 have fin:hK X pins σ Q u s:=⟨v,H,I,r,h⟩
 rcases l with ⟨aQ,hm⟩ | ⟨aQ,c,ai,jh⟩
 ·exact wpAny_Name (wpAny_loadName_local I.ok.kind aQ aR hm fin) hd
 ·rcases aQ with aQ | aQ
  ·exact wpAny_Name (wpAny_loadName_cell I.ok.kind aQ ai jh fin) hd
  ·exact wpAny_Name (wpAny_loadName_free I.ok.kind aQ ai jh fin lD) hd
theorem aZ {i j pos}:b8 X (.Constant (.int i) j pos) (Bx (.int i)):=fun _ _ _ H _ I h=>wpAny_Constant_int ⟨.int i,H,I.tok _,⟨_,rfl⟩,h⟩
theorem lp {b j pos}:b8 X (.Constant (.bool b) j pos) (Bx (.b0 b)):=fun _ _ _ H _ I h=>Constant_bool ⟨.b0 b,H,I,rfl,h⟩
theorem bJ {x j pos}:b8 X (.Constant (.str x) j pos) (Bx (.str x)):=fun _ _ _ H _ I h=>Calls.Constant_str ⟨.str x,H,I.tok _,⟨_,rfl⟩,h⟩
def lX (X:bI) (x:Str):Prop:=X.env.kindOf x=some .globalImplicit
theorem zN {E:Value→Shared→Prop}{pins:List (Addr × Obj)}{s:Shared}{σ:St}{H:ao}{x:Str}{u:Value}{pos:Pos}{Q:Value→Shared→Prop}(I:Inv X pins σ H s) (cO:lX X x) (hm:X.mg x=some u) (h:Q u s)
  (hd:(x == ("__debug__":Str))=false:=by decide):wpAny (model X.prog X.w) X.A (eval (.Name x pos) X.env) Q E s :=
 Calls.Name_function_global I.ok.kind cO (Calls.loadGlobal_global (by rw[I.ok.glob];exact I.mod.glob.keeps I.iu) hm h) hd
theorem qR {E:Value→Shared→Prop}{pins:List (Addr × Obj)}{s:Shared}{σ:St}{H:ao}{x:Str}{u:Value}{pos:Pos}{Q:Value→Shared→Prop}(I:Inv X pins σ H s) (cO:lX X x) (hm:X.mg x=none) (aX:bootBuiltins x=some u) (h:Q u s)
  (aR:x≠"__name__":=by decide) (hd:(x == ("__debug__":Str))=false:=by decide):wpAny (model X.prog X.w) X.A (eval (.Name x pos) X.env) Q E s:=by
 obtain⟨nt,aj,az⟩:=I.mod.blt
 exact Calls.Name_function_global I.ok.kind cO (Calls.loadGlobal_builtin (by rw[I.ok.glob];exact I.mod.glob.keeps I.iu) hm (by rw[I.ok.blt];exact aj.keeps I.iu) ((az x aR).trans aX) h) hd
theorem lg {x:Str}{v:V}{u:Value}{pos:Pos}(cO:lX X x) (hm:X.mg x=none) (aX:bootBuiltins x=some u) (r:RelV v u) (aR:x≠"__name__":=by decide) (hd:(x == ("__debug__":Str))=false:=by decide):b8 X (.Name x pos) (Bx v) :=
 fun _ _ _ H _ I h=>qR I cO hm aX ⟨v,H,I,r,h⟩ aR hd
variable {a b:Expr}{dB d4:TE}{pos:Pos}
def HP (X:bI) (op:CmpOp) (a b:Expr) (t:TE):Prop :=
 ∀(pins:List (Addr × Obj)) (s:Shared) (σ:St) (H:ao) (Q:cG),Inv X pins σ H s→t σ H Q →
  wpAny (model X.prog X.w) X.A (eval a X.env) (fun v dw=>wpAny (model X.prog X.w) X.A (eval b X.env) (fun u iR=>wpAny (model X.prog X.w) X.A (compareOp op v u) (hK X pins σ Q) X.dS iR) X.dS dw) X.dS s
def RS (t:TE):TT:=fun σ H Q=>t σ H fun x H1=>∃c,x=.b0 c∧Q c H1
theorem uw {op:CmpOp}{t:TE}(h:HP X op a b t) (aj:behindInMarks op b=false:=by first | exact adq _ (by decide) (by decide) | rfl):h5 X (.Compare a [op] [b] pos) (RS t):=by
 intro pins s σ H Q I hw
 refine wpAny_isTrue_Compare1 (bT (h pins s σ H _ I hw) fun v s1 aj=>bT aj fun u s2 az=>bT az fun c s3 ⟨x,H1,a_,bE,bu⟩=>?_) aj
 obtain⟨d,rfl,q⟩:=bu
 cases bE
 exact wpAny_truthy_bool ⟨H1,a_,q⟩
theorem jZ {e:Expr}{t:TE}(h:b8 X e t) (he:∀whole,isTrue e X.env whole=(do let v ← whole;standAt e.pos;holding [v] (truthy v)):=by intro _;rfl):h5 X e (RS t):=by
 intro pins s σ H Q I hw
 refine isTrue_plain (bT (h pins s σ H _ I hw) fun v s1 ⟨x,H1,a_,bE,bu⟩=>?_) (he _)
 obtain⟨d,rfl,q⟩:=bu
 cases bE
 exact wpAny_truthy_bool ⟨H1,a_,q⟩
variable {kS p2:TT}{rest:List Expr}
def MM (t u:TT):TT:=fun σ H Q=>t σ H fun c H1=>if c=true then u σ H1 Q else Q false H1
def NR (t u:TT):TT:=fun σ H Q=>t σ H fun c H1=>if c=true then Q true H1 else u σ H1 Q
def Yn (t:TT):TT:=fun σ H Q=>t σ H fun c H1=>Q (!c) H1
theorem pw_and1 (bo:h5 X a kS):rP X (.BoolOp .And [a] pos) kS:=by
 intro ym pins s σ H Q I h
 refine isTrue_and (bT (bo pins s σ H Q I h) fun c s1 e=>?_)
 cases c with
 | true=>exact isTrue_and_nil e
 | false=>exact e
theorem pw_or1 (bo:h5 X a kS):rP X (.BoolOp .Or [a] pos) kS:=by
 intro ym pins s σ H Q I h
 refine isTrue_or (bT (bo pins s σ H Q I h) fun c s1 e=>?_)
 cases c with
 | false=>exact isTrue_or_nil e
 | true=>exact e
theorem pw_and (bo:h5 X a kS) (aa:rP X (.BoolOp .And (b::rest) pos) p2):rP X (.BoolOp .And (a::b::rest) pos) (MM kS p2):=by
 intro ym pins s σ H Q I h
 refine isTrue_and (bT (bo pins s σ H _ I h) fun c s1 ⟨H1,a_,bu⟩=>?_)
 cases c with
 | true=>exact aa ym pins s1 σ H1 Q a_ bu
 | false=>exact⟨H1,a_,bu⟩
theorem pw_or (bo:h5 X a kS) (aa:rP X (.BoolOp .Or (b::rest) pos) p2):rP X (.BoolOp .Or (a::b::rest) pos) (NR kS p2):=by
 intro ym pins s σ H Q I h
 refine isTrue_or (bT (bo pins s σ H _ I h) fun c s1 ⟨H1,a_,bu⟩=>?_)
 cases c with
 | true=>exact⟨H1,a_,bu⟩
 | false=>exact aa ym pins s1 σ H1 Q a_ bu
theorem pO (bo:h5 X a kS):h5 X (.UnaryOp .Not a pos) (Yn kS):=by
 intro pins s σ H Q I h
 exact isTrue_not (bo pins s σ H (fun c H1=>Q (!c) H1) I h)
def XE (dB d4:TE):TE:=fun σ H Q=>dB σ H fun x H1=>∃c,x=.b0 c∧if c=true then d4 σ H1 Q else Q (.b0 false) H1
def Xv (dB:TE):TE:=fun σ H Q=>dB σ H fun x H1=>∃c,x=.b0 c∧Q (.b0 (!c)) H1
theorem DO {op} {t:TE}(h:b8 X a t):b8 X (.BoolOp op [a] pos) t:=fun pins s σ H Q I hw=>BoolOp_one (h pins s σ H Q I hw)
theorem DP (bo:b8 X a dB) (aa:b8 X (.BoolOp .And (b::rest) pos) d4):b8 X (.BoolOp .And (a::b::rest) pos) (XE dB d4):=by
 intro pins s σ H Q I h
 refine BoolOp_and (bT (bo pins s σ H _ I h) fun v s1 ⟨x,H1,a_,bE,bu⟩=>?_)
 obtain⟨c,rfl,bu⟩:=bu
 cases bE
 refine wpAny_truthy_bool ?_
 cases c with
 | true=>exact aa pins s1 σ H1 Q a_ bu
 | false=>exact⟨.b0 false,H1,a_,rfl,bu⟩
theorem LQ (bo:b8 X a dB):b8 X (.UnaryOp .Not a pos) (Xv dB):=by
 intro pins s σ H Q I h
 refine UnaryOp_ (bT (bo pins s σ H _ I h) fun v s1 ⟨x,H1,a_,bE,bu⟩=>?_)
 obtain⟨c,rfl,bu⟩:=bu
 cases bE
 exact not_of (wpAny_truthy_bool ⟨.b0 (!c),H1,a_,rfl,bu⟩)
end
def aM (K:PySem.W.Frag) (H:ao) (a:Addr) (xs:List V):Prop :=
 ou H a (.lst xs) ∨
  ∃(o:Obj) (its:Array Value) (n:Nat),K.lookup a=some o∧o.cls=.type "list"∧o.dict=none∧o.data=.seq its n∧its.size≤sizeLine∧Vals xs its.toList
def aO (K:PySem.W.Frag) (H:ao) (a:Addr) (xs:List V):Prop :=
 ou H a (.tup xs) ∨
  ∃(o:Obj) (its:Array Value) (n:Nat),K.lookup a=some o∧o.cls=.type "tuple"∧o.data=.seq its n∧its.size≤sizeLine∧Vals xs its.toList
def Zt:Value→Option V
 | .none=>some .cS
 | .bool b=>some (.b0 b)
 | .int i _=>some (.int i)
 | .str x _=>some (.str x)
 | .bytes b _=>some (.m9 b)
 | .float b _=>some (.rp b)
 | .ref a=>some (.ref a)
 | .type n=>some (.ty n)
 | _=>none
theorem RelV.abs {x:V}{u:Value}(r:RelV x u):Zt u=some x:=by
 cases x with
 | cS=>cases r;rfl
 | b0 _=>cases r;rfl
 | int _=>obtain⟨t,rfl⟩:=r;rfl
 | str _=>obtain⟨t,rfl⟩:=r;rfl
 | m9 _=>obtain⟨t,rfl⟩:=r;rfl
 | rp _=>obtain⟨t,rfl⟩:=r;rfl
 | ref _=>cases r;rfl
 | ty _=>cases r;rfl
theorem RelV.inj {x y:V}{u:Value}(r:RelV x u) (q:RelV y u):x=y:=Option.some.inj (r.abs.symm.trans q.abs)
theorem Vals.inj:∀{xs ys:List V}{us:List Value},Vals xs us→Vals ys us→xs=ys
 | _,_,_,.nil,.nil=>rfl
 | _,_,_,.cons r t,.cons f_ t'=>by rw[r.inj f_,Vals.inj t t']
section
variable {X:bI}{pins:List (Addr × Obj)}{σ:St}{H:ao}{s:Shared}{a:Addr}{xs ys:List V}
theorem aM.of {K:PySem.W.Frag}(h:H a=some (.lst xs)):aM K H a xs:=.inl (.inl h)
theorem aO.of {K:PySem.W.Frag}(h:H a=some (.tup xs)):aO K H a xs:=.inl (.inl h)
theorem Inv.list (I:Inv X pins σ H s) (h:aM X.K H a xs):∃its:List Value,Vals xs its∧PlainL s.heap a its.toArray∧xs.length≤sizeLine:=by
 rcases h with h | ⟨o,its,n,aQ,ai,hd,aJ,hz,r⟩
 ·obtain⟨z,its,n,r,e⟩:=h.ok I.bM
  exact⟨its,r,⟨_,n,e,rfl,rfl,rfl⟩,z⟩
 ·refine⟨its.toList,r,⟨o,n,I.gW a o aQ,ai,hd,by simpa using aJ⟩,?_⟩
  have e:=r.length
  simp only[Array.length_toList]at e
  omega
theorem Inv.tuple (I:Inv X pins σ H s) (h:aO X.K H a xs):∃its:List Value,Vals xs its∧IsTup s.heap a its.toArray∧xs.length≤sizeLine:=by
 rcases h with h | ⟨o,its,n,aQ,ai,aJ,hz,r⟩
 ·obtain⟨z,its,r,p⟩:=h.ok I.bM
  exact⟨its,r,p,z⟩
 ·refine⟨its.toList,r,⟨o,I.gW a o aQ,ai,n,by simpa using aJ⟩,?_⟩
  have e:=r.length
  simp only[Array.length_toList]at e
  omega
theorem Inv.CJ (I:Inv X pins σ H s) (h:aM X.K H a xs) (h':aM X.K H a ys):xs=ys:=by
 obtain⟨its,r,⟨o,n,e,_,_,d⟩,_⟩:=I.list h
 obtain⟨its',f_,⟨fB,kj,cF,_,_,d'⟩,_⟩:=I.list h'
 rw[e]at cF;cases cF
 rw[d]at d'
 injection d' with gg _
 have:its=its':=by simpa using congrArg Array.toList gg
 subst this
 exact r.inj f_
end
abbrev bI.mU (X:bI) (E:Value→Shared→Prop):bI:={ X with dS:=E }
abbrev bI.mZ (X:bI):bI:=X.mU fun _ _=>False
theorem bI.Ok.mU {X:bI}(ok:X.Ok) (E:Value→Shared→Prop):(X.mU E).Ok :=
 ⟨ok.mod,ok.kind,ok.glob,ok.blt,ok.above,ok.inj,ok.has,ok.qe,ok.hd,ok.frames,ok.nM,ok.qc,ok.bs,ok.lG,ok.nI,ok.q2,ok.j7,ok.nZ⟩
theorem bI.Ok.pM {X:bI}{E:Value→Shared→Prop}(ok:(X.mU E).Ok):X.Ok :=
 ⟨ok.mod,ok.kind,ok.glob,ok.blt,ok.above,ok.inj,ok.has,ok.qe,ok.hd,ok.frames,ok.nM,ok.qc,ok.bs,ok.lG,ok.nI,ok.q2,ok.j7,ok.nZ⟩
section
variable {X:bI}{pins:List (Addr × Obj)}{σ:St}{H:ao}{s:Shared}{E:Value→Shared→Prop}
theorem Inv.mU (I:Inv X pins σ H s) (E:Value→Shared→Prop):Inv (X.mU E) pins σ H s:=⟨I.ok.mU E,I.os,I.bare,I.base,I.loc,I.cell,I.free,I.jE,I.pin,I.bM,I.len⟩
theorem Inv.pM (I:Inv (X.mU E) pins σ H s):Inv X pins σ H s:=⟨I.ok.pM,I.os,I.bare,I.base,I.loc,I.cell,I.free,I.jE,I.pin,I.bM,I.len⟩
theorem oq.pM {D:Ends}{f:Flow}{aI:Shared}(h:oq (X.mU E) pins D f aI):oq X pins D f aI:=by
 cases f with
 | next=>obtain⟨bz,af,I,q⟩:=h;exact⟨bz,af,I.pM,q⟩
 | brk=>obtain⟨bz,af,I,q⟩:=h;exact⟨bz,af,I.pM,q⟩
 | cont=>obtain⟨bz,af,I,q⟩:=h;exact⟨bz,af,I.pM,q⟩
 | ret u=>obtain⟨v,bz,af,I,r,q⟩:=h;exact⟨v,bz,af,I.pM,r,q⟩
theorem hR.mZ {st:List Stmt}{t:fX}(h:hR X.mZ st t):hR X st t:=fun pins s σ H D I hw =>
 wpAny_mono (h pins s σ H D (I.mU _) hw) (fun _ _ q=>q.pM) fun _ _ z=>False.elim z
end
section
variable {X:bI}{st:Stmt}{rest:List Stmt}{t u:fX}{e:Expr}{bY:TE}{pos:Pos}
def Xw:fX:=fun D σ H=>D.dk σ H
def Yl (t u:fX):fX:=fun D σ H=>t { D with dk:=u D } σ H
theorem dZ:hR X [] Xw:=fun _ _ σ H _ I h=>wpAny_execs_nil ⟨σ,H,I,h⟩
theorem bg (aj:jV X st t) (az:hR X rest u):hR X (st::rest) (Yl t u):=by
 intro pins s σ H D I h
 refine wpAny_execs_cons (bT (aj pins s σ H { D with dk:=u D } I h) fun f s1 q=>?_)
 cases f with
 | next =>
  obtain⟨bz,af,fk,q⟩:=q
  exact az pins s1 bz af D fk q
 | ret v=>exact q
 | brk=>exact q
 | cont=>exact q
theorem bl (aj:jV X st t):hR X [st] t:=by
 intro pins s σ H D I h
 refine wpAny_execs_cons (bT (aj pins s σ H D I h) fun f s1 q=>?_)
 cases f with
 | next=>exact wpAny_execs_nil q
 | ret v=>exact q
 | brk=>exact q
 | cont=>exact q
theorem Inv.quiet {pins:List (Addr × Obj)}{σ:St}{H:ao}{s:Shared}(I:Inv X pins σ H s):interactive X.env=false:=by simp[interactive,I.ok.kind]
def Xy (bY:TE):fX:=fun D σ H=>bY σ H fun _ H1=>D.dk σ H1
theorem dD (he:b8 X e bY) (aJ:swapsWith e none pos.line X.env=pure false:=by rfl):jV X (.Expr e pos) (Xy bY):=by
 intro pins s σ H D I h
 exact wpAny_Expr_any (bT (he pins s σ H _ I h) fun v s1 ⟨x,H1,a_,bE,bu⟩=>⟨σ,H1,a_,bu⟩) I.quiet aJ
def Ym (bY:TE):fX:=fun D σ H=>bY σ H D.n_
theorem dH (he:b8 X e bY):jV X (.Return (some e) pos) (Ym bY):=by
 intro pins s σ H D I h
 exact wpAny_Return_some (bT (he pins s σ H _ I h) fun v s1 ⟨x,H1,a_,bE,bu⟩=>⟨x,σ,H1,a_,bE,bu⟩)
def Yp (c:TT) (t u:fX):fX:=fun D σ H=>c σ H fun b H1=>if b=true then t D σ H1 else u D σ H1
theorem c_ {c:Expr}{a b:List Stmt}{tn:TT}(ai:h5 X c tn) (bo:hR X a t) (aa:hR X b u):jV X (.If c a b pos) (Yp tn t u):=by
 intro pins s σ H D I h
 refine wpAny_If (bT (ai pins s σ H _ I h) fun d s1 ⟨H1,a_,bu⟩=>?_)
 cases d with
 | true=>exact bo pins s1 σ H1 D a_ bu
 | false=>exact aa pins s1 σ H1 D a_ bu
end
abbrev iU:=V→St→ao→(St→ao→Prop)→Prop
abbrev rt:=List V→St→ao→(St→ao→Prop)→Prop
def pq (X:bI) (target:Expr) (t:iU):Prop :=
 ∀(pins:List (Addr × Obj)) (s:Shared) (σ:St) (H:ao) (v:V) (u:Value) (Q:St→ao→Prop),Inv X pins σ H s→RelV v u→t v σ H Q →
  wpAny (model X.prog X.w) X.A (assign target X.env u) (fun _ aI=>∃bz af,Inv X pins bz af aI∧Q bz af) X.dS s
def x8 (X:bI) (aT:List Expr) (t:rt):Prop :=
 ∀(pins:List (Addr × Obj)) (s:Shared) (σ:St) (H:ao) (vs:List V) (us:List Value) (Q:St→ao→Prop),Inv X pins σ H s→Vals vs us→t vs σ H Q →
  wpAny (model X.prog X.w) X.A (assignInOrder ((assignEach aT X.env).map (·.2)) us) (fun _ aI=>∃bz af,Inv X pins bz af aI∧Q bz af) X.dS s
abbrev EM:=V→V→V→ao→(ao→Prop)→Prop
def NB (X:bI) (t:EM):Prop :=
 ∀(pins:List (Addr × Obj)) (s:Shared) (σ:St) (H:ao) (o i v:V) (b2 i7 u:Value) (Q:ao→Prop),Inv X pins σ H s→RelV o b2→RelV i i7→RelV v u→t o i v H Q →
  wpAny (model X.prog X.w) X.A (setItem b2 i7 u) (fun _ aI=>∃af,Inv X pins σ af aI∧Q af) X.dS s
section
variable {X:bI}{pos:Pos}
def wI (i:Nat):iU:=fun v σ H Q=>Q (σ.set i (some v)) H
theorem fQ {i:Nat}{x:Str}(fV:X.N.Nodup) (aP:X.N[i]?=some x) (bh:Loc X.env.scope x) (hf:X.fn x=true∨X.env.scope.names.lookup x=some .local:=by first | exact .inl rfl | exact .inr rfl | assumption):pq X (.Name x pos) (wI i):=by
 intro pins s σ H v u Q I r h
 exact wpAny_assign_Name (J7 I fV aP bh r (fun aI fk=>⟨_,H,fk,h⟩) hf)
def Nu:rt:=fun vs σ H Q=>vs=[]∧Q σ H
def Em (t:iU) (u:rt):rt:=fun vs σ H Q=>∃v r,vs=v::r∧t v σ H fun bz af=>u r bz af Q
theorem r3:x8 X [] Nu:=by
 intro pins s σ H vs us Q I r h
 obtain⟨e,h⟩:=h
 subst e
 cases r
 exact assignInOrder_nil ⟨σ,H,I,h⟩
theorem kA {e:Expr}{aA:List Expr}{t:iU}{u:rt}(aj:pq X e t) (az:x8 X aA u)
  (aJ:(assignEach (e::aA) X.env).map (·.2)=assign e X.env::(assignEach aA X.env).map (·.2):=by rfl):x8 X (e::aA) (Em t u):=by
 intro pins s σ H vs us Q I r h
 obtain⟨v,ae7,aG,h⟩:=h
 subst aG
 cases r with
 | cons r ts =>
  rw[aJ]
  refine assignInOrder_cons (bT (aj pins s σ H _ _ _ I r h) fun _ s1 ⟨jK,H1,a_,bu⟩=>?_)
  exact az pins s1 jK H1 _ _ Q a_ ts bu
def EJ (K:PySem.W.Frag) (n:Nat) (t:rt):iU:=fun v σ H Q=>∃a xs,v=.ref a∧aO K H a xs∧xs.length=n∧t xs σ H Q
theorem r_ {aA:List Expr}{k:Nat}{t:rt}{n:Nat}(ai:X.calm=true) (h:x8 X aA t)
  (aR:(assignEach aA X.env).length=n:=by rfl) (i3:(assignEach aA X.env).findIdx? (·.1)=none:=by rfl):pq X (.Tuple aA k pos) (EJ X.K n t):=by
 intro pins s σ H v u Q I r hw
 obtain⟨a,xs,aG,bk,aC,hw⟩:=hw
 subst aG
 cases r
 obtain⟨its,bX,bF,hz⟩:=I.tuple bk
 refine assign_Tuple_tuple (I.ok.hd ai) bF (by simp[aR,←aC,bX.length]) i3 fun h' bh=>?_
 have a_:Inv X pins σ H { s with heap:=h' }:=I.kept (t':=s.toks) fun b o e=>bh b o (ne_of_lt (lt_size e)) e
 exact h pins _ σ H xs _ Q a_ (by simpa using bX) hw
def Zo (to Bv:TE) (t:EM):iU:=fun v σ H Q=>to σ H fun o H1=>Bv σ H1 fun i av=>t o i v av fun aS=>Q σ aS
theorem sa {o i:Expr}{to Bv:TE}{t:EM}(aD:b8 X o to) (aP:b8 X i Bv) (aJ:NB X t)
  (bo:∀v,assign (.Subscript o i pos) X.env v=(do
   let b2 ← holding [v] (eval o X.env)
   let i7 ← holding [v,b2] (eval i X.env)
   standAt pos
   holding [v,b2,i7] (setItem b2 i7 v)
   release [v,b2,i7] []):=by intro _;rfl):pq X (.Subscript o i pos) (Zo to Bv t):=by
 intro pins s σ H v u Q I r h
 rw[bo]
 refine wpAny_bind (wpAny_holding (bT (aD pins s σ H _ I h) fun b2 s1 ⟨x,H1,a_,bE,bu⟩=>?_))
 refine wpAny_bind (wpAny_holding (bT (aP pins s1 σ H1 _ a_ bu) fun i7 s2 ⟨y,av,cK,b4,aW⟩=>?_))
 refine wpAny_bind (wpAny_standAt (wpAny_bind (wpAny_holding (bT (aJ pins s2 σ av x y v b2 i7 u _ cK bE b4 r aW) fun _ s3 ⟨aS,cE,fs⟩=>?_))))
 exact wpAny_release ⟨σ,aS,cE,fs⟩
def ML (bY:TE) (g:iU):fX:=fun D σ H=>bY σ H fun x H1=>g x σ H1 D.dk
theorem r9 {eS e:Expr}{bY:TE}{g:iU}(he:b8 X e bY) (cO:pq X eS g) (aJ:swapsWithSole [eS] e pos.line X.env=pure false:=by rfl) (hw:swappedStores [eS] e X.env=pure none:=by rfl)
  (aj:(assignEach [eS] X.env).map (·.2)=[assign eS X.env]:=by rfl):jV X (.Assign [eS] e pos) (ML bY g):=by
 intro pins s σ H D I h
 refine wpAny_Assign_stores (bT (he pins s σ H _ I h) fun v s1 ⟨x,H1,a_,bE,bu⟩=>?_) aJ hw
 rw[aj]
 exact bT (cO pins s1 σ H1 x v _ a_ bE bu) fun _ s2 q=>q
theorem cJ {i:Nat}{x:Str}{e:Expr}{bY:TE}{pos':Pos}(fV:X.N.Nodup) (aP:X.N[i]?=some x) (bh:Loc X.env.scope x) (he:b8 X e bY) (aJ:swapsWith e (some (.Name x pos')) pos.line X.env=pure false:=by rfl) (hf:X.fn x=true∨X.env.scope.names.lookup x=some .local:=by first | exact .inl rfl | exact .inr rfl | assumption) :
  jV X (.Assign [.Name x pos'] e pos) (ML bY (wI i)):=by
 intro pins s σ H D I h
 refine wpAny_Assign_Name (bT (he pins s σ H _ I h) fun v s1 ⟨y,H1,a_,bE,bu⟩=>?_) aJ
 exact J7 a_ fV aP bh bE (fun s2 cK=>⟨_,H1,cK,bu⟩) hf
end
section
variable {X:bI}{pos:Pos}
def Wz (c:TT) (d4:fX):fX:=fun D σ H=>∃W:Nat→St→ao→Prop,(∃m,W m σ H)∧∀m σ H,W m σ H →
 c σ H fun b H1=>if b=true then ∃N:St→ao→Prop,(∀bz af,N bz af→∃gb,gb<m∧W gb bz af)∧d4 { D with dk:=N,fG:=N,iu:=D.dk } σ H1 else D.dk σ H1
theorem U6 {c:Expr}{body:List Stmt}{tn:TT}{d4:fX}(aF:PassesOwn (model X.prog X.w) X.A X.env X.dS) (ai:h5 X c tn) (aa:hR X body d4):jV X (.While c body [] pos) (Wz tn d4):=by
 intro pins s σ H D I h
 obtain⟨W,⟨m0,qi⟩,turn⟩:=h
 refine wpAny_While (codeAny_whileLoop (fun n aI=>∃bz af,Inv X pins bz af aI∧W n bz af) ?_ m0 ⟨σ,H,I,qi⟩)
 rintro n s1 ⟨jK,H1,a_,fh⟩
 refine wpAny_passesOwn aF (bT (ai pins s1 jK H1 _ a_ (turn n jK H1 fh)) fun b s2 ⟨av,cK,aW⟩=>?_)
 cases b with
 | true =>
  obtain⟨N,fV,aW⟩:=aW
  rw[if_pos rfl]
  refine wpAny_passesOwn aF (bT (aa pins s2 jK av _ cK aW) fun f s3 fs=>?_)
  cases f with
  | next =>
   obtain⟨n5,aS,cE,eV⟩:=fs
   obtain⟨gb,hm,jq⟩:=fV n5 aS eV
   exact⟨gb,hm,n5,aS,cE,jq⟩
  | cont =>
   obtain⟨n5,aS,cE,eV⟩:=fs
   obtain⟨gb,hm,jq⟩:=fV n5 aS eV
   exact⟨gb,hm,n5,aS,cE,jq⟩
  | brk=>exact fs
  | ret v=>exact fs
 | false =>
  rw[if_neg Bool.false_ne_true]
  exact wpAny_execs_nil ⟨jK,av,cK,aW⟩
end
structure kr where
 go:Nat→ao→Prop
 oH:Nat→ao→V→ao→Prop
 stop:Nat→ao→Prop
def l4 (X:bI) (pins:List (Addr × Obj)) (H:ao) (b:Addr):Prop :=
 H b=none∧b≠X.env.locals∧b∉X.bQ∧(b∈X.ex∨X.fT.heap.objs.size≤b)∧(∀x c,X.env.cells.lookup x=some c→c≠b)∧∀p∈X.bL++pins,p.1≠b
theorem Inv.uR {X:bI}{pins:List (Addr × Obj)}{σ:St}{H af:ao}{s:Shared}{b:Addr}(I:Inv X pins σ H s) (aa:s.heap.objs.size≤b) (aR:af b=none):l4 X pins af b:=by
 refine⟨aR,ne_of_gt (lt_of_lt_of_le I.lt aa),I.YV aa,.inr (le_trans I.ef aa),fun x c e z=>?_,fun p aF z=>?_⟩
 ·obtain⟨v,q⟩:=I.cell x c e
  exact absurd (lt_of_lt_of_le q.lt (by rw[z];exact aa)) (lt_irrefl _)
 ·exact absurd (lt_of_lt_of_le (lt_size (I.pin p aF).1) (by rw[z];exact aa)) (lt_irrefl _)
structure Turn (P:Program) (w:World) (K:PySem.W.Frag) (eS:Expr) (J:kr) (bG:List Addr) (it:Addr) (eo:Nat→Heap→Prop):Prop where
 mem:it∈bG
 obj:∀i h,eo i h→∀b∈bG,∃o,h.get? b=some o∧∀v,o.data≠.cell v
 keep:∀i h h',eo i h→(∀b∈bG,∀o,h.get? b=some o→h'.get? b=some o)→eo i h'
 item:∀(X:bI),X.prog=P→X.w=w→X.K=K→X.calm=true→∀(i:Nat) (pins:List (Addr × Obj)) (s:Shared) (σ:St) (H:ao) (E:Value→Shared→Prop),Inv X pins σ H s→(∀b∈bG,l4 X pins H b)→eo i s.heap→J.go i H →
  wpAny (model P w) X.A (pyNext (.ref it)) (fun r s1=>∃u,r=some u ∧
   wpAny (model P w) X.A (letOwnedTupleGo eS (.ref it) u) (fun _ s2=>∃x af,Inv X pins σ af s2∧RelV x u∧J.oH i H x af∧eo (i+1) s2.heap∧∀b∈bG,af b=none) E s1) E s
 done:∀(X:bI),X.prog=P→X.w=w→X.K=K→X.calm=true→∀(i:Nat) (pins:List (Addr × Obj)) (s:Shared) (σ:St) (H:ao) (E:Value→Shared→Prop),Inv X pins σ H s→(∀b∈bG,l4 X pins H b)→eo i s.heap→J.stop i H →
  wpAny (model P w) X.A (pyNext (.ref it)) (fun r s1=>r=none∧Inv X pins σ H s1) E s
 self:∀(A:Around) (i:Nat) (s:Shared) (Q:Value→Shared→Prop) (E:Value→Shared→Prop),eo i s.heap→Q (.ref it) s→wpAny (model P w) A (pyIter (.ref it)) Q E s
abbrev TI:=St→ao→(kr→ao→Prop)→Prop
def Rp (X:bI) (pins:List (Addr × Obj)) (σ:St) (eS:Expr) (R:kr→ao→Prop) (sP:Value) (s2:Shared):Prop :=
 ∃(it:Addr) (bG:List Addr) (eo:Nat→Heap→Prop) (J:kr) (af:ao),sP=.ref it∧Inv X pins σ af s2∧Turn X.prog X.w X.K eS J bG it eo∧eo 0 s2.heap∧(∀b∈bG,l4 X pins af b)∧R J af
def pn (X:bI) (eS iter:Expr) (fM:TI):Prop :=
 ∀(pins:List (Addr × Obj)) (s:Shared) (σ:St) (H:ao) (R:kr→ao→Prop),Inv X pins σ H s→fM σ H R →
  wpAny (model X.prog X.w) X.A (eval iter X.env) (fun v s1=>wpAny (model X.prog X.w) X.A (pyIter v) (Rp X pins σ eS R) X.dS s1) X.dS s
theorem El {M:Model}{A:Around}{E:Value→Shared→Prop}{s:Shared}{eS:Expr}{it:Addr}{u:Value}{o:Obj}{n:String}{vs:Array Value}{Q:Unit→Shared→Prop}(aD:s.heap.get? it=some o) (ai:o.cls=.type n) (hd:o.data=.fields vs)
  (aR:["enumerate","zip","dict_itemiterator","dict_reverseitemiterator","odict_iterator","itertools.zip_longest","itertools.pairwise"].contains n=false) (qp:Q () s):wpAny M A (letOwnedTupleGo eS (.ref it) u) Q E s:=by
 unfold letOwnedTupleGo
 cases eS <;> first
  | exact wpAny_pure qp
  | (cases u <;> first
    | exact wpAny_pure qp
    | (refine wpAny_bind (wpAny_load aD ?_);rw[ai,hd];show wpAny M A (if (["enumerate","zip","dict_itemiterator","dict_reverseitemiterator","odict_iterator","itertools.zip_longest","itertools.pairwise"].contains n && vs[0]? == some (rawInt _))=true then _ else _) Q E s;rw[if_neg (by intro h;rw[aR,Bool.false_and]at h;cases h)];exact wpAny_pure qp))
def oZ (K:PySem.W.Frag) (a:Addr):kr :=
 ⟨fun i H=>∃xs x,aM K H a xs∧xs[i]?=some x,fun i H x af=>af=H∧∀xs,aM K H a xs→xs[i]?=some x,fun i H=>∃xs,aM K H a xs∧xs.length≤i⟩
def rx (lo:Int) (n:Nat):kr:=⟨fun i _=>i<n,fun i H x af=>af=H∧x=.int (lo+i),fun i _=>n≤i⟩
theorem TY {P:Program}{w:World}{K:PySem.W.Frag}{eS:Expr}(a it:Addr):Turn P w K eS (oZ K a) [it] it (fun i h=>h.IsListIter it a i) where
 mem:=by simp
 obj:=fun i h st b aa=>by
  have e:b=it:=by simpa using aa
  subst e
  obtain⟨o,e,c,d⟩:=st
  exact⟨o,e,fun v z=>by rw[d]at z;cases z⟩
 keep:=fun i h h' st k=>st.at fun o e=>k it (by simp) o e
 item:=by
  intro X h1 hw i_ ai i pins s σ H E I hf st cO
  subst h1 hw i_
  obtain⟨xs,x,bk,bh⟩:=cO
  obtain⟨its,bX,p,hz⟩:=I.list bk
  obtain⟨u,bq,eT⟩:=bX.get bh
  obtain⟨f0,f1,f2,gc,f4,hk⟩:=hf it (by simp)
  refine wpAny_pyNext_list_item st p.isList (x:=u) (by simpa using bq) fun h' hE jM=>?_
  have a_:Inv X pins σ H { s with heap:=h' }:=I.turned (t':=s.toks) (fun b o aa e=>(jM.2 b aa).trans e) f0 f1 gc f4 hk
  obtain⟨o,e,c,d⟩:=id hE
  exact⟨u,rfl,El (s:={ s with heap:=h' }) e c d (by decide) ⟨x,H,a_,eT,⟨rfl,fun ys b6=>by rw[I.CJ b6 bk];exact bh⟩,hE,fun b aa=>(hf b aa).1⟩⟩
 done:=by
  intro X h1 hw i_ ai i pins s σ H E I hf st cO
  subst h1 hw i_
  obtain⟨xs,bk,bh⟩:=cO
  obtain⟨its,bX,p,hz⟩:=I.list bk
  obtain⟨f0,f1,f2,gc,f4,hk⟩:=hf it (by simp)
  have aC:=bX.length
  exact wpAny_pyNext_list_end (I.ok.hd ai) st p.isList (by simp;omega) fun h' ej=>⟨rfl,I.turned (t':=s.toks) (fun b o aa e=>ej b o aa e) f0 f1 gc f4 hk⟩
 self:=fun _ _ _ _ _ st h=>wpAny_pyIter_listiter st h
theorem Tz {P:Program}{w:World}{K:PySem.W.Frag}{eS:Expr}(it:Addr) (lo:Int) (n:Nat):Turn P w K eS (rx lo n) [it] it (fun i h=>IsRangeIter h it (lo+(i:Nat) * 1) ((n:Int) - (i:Nat)) 1) where
 mem:=by simp
 obj:=fun i h st b aa=>by
  have e:b=it:=by simpa using aa
  subst e
  exact⟨_,st,fun v z=>by
   have iD:Data.fields _=Data.cell v:=z
   cases iD⟩
 keep:=fun i h h' st k=>k it (by simp) _ st
 item:=by
  intro X h1 hw i_ ai i pins s σ H E I hf st cO
  subst h1 hw i_
  obtain⟨f0,f1,f2,gc,f4,hk⟩:=hf it (by simp)
  have W:=Walks.range (prog:=X.prog) (w:=X.w) (I.ok.hd ai) it lo 1 n
  refine W.item i s _ _ cO st fun v h' bB aX hE nv=>?_
  obtain⟨t,rfl⟩:=aX
  have a_:Inv X pins σ H { s with heap:=h',toks:=bB }:=I.turned (fun b o aa e=>nv b o (by simpa using aa) e) f0 f1 gc f4 hk
  refine⟨_,rfl,El (s:={ s with heap:=h',toks:=bB }) (n:="range_iterator") hE rfl rfl (by decide) ⟨.int (lo+i),H,a_,⟨t,?_⟩,⟨rfl,rfl⟩,hE,fun b aa=>(hf b aa).1⟩⟩
  rw[Int.mul_one]
 done:=by
  intro X h1 hw i_ ai i pins s σ H E I hf st cO
  subst h1 hw i_
  obtain⟨f0,f1,f2,gc,f4,hk⟩:=hf it (by simp)
  exact wpAny_pyNext_range_end (I.ok.hd ai) st (by have:n≤i:=cO;omega) fun h' ej=>⟨rfl,I.turned (t':=s.toks) (fun b o aa e=>ej b o aa e) f0 f1 gc f4 hk⟩
 self:=fun _ _ _ _ _ st h=>wpAny_pyIter_rangeiter st h
section
variable {X:bI}{eS:Expr}
def X8 (K:PySem.W.Frag) (kg:TE):TI:=fun σ H R=>kg σ H fun x H1=>∃a,x=.ref a∧(∃xs,aM K H1 a xs)∧R (oZ K a) H1
theorem jf {l:Expr}{kg:TE}(aC:b8 X l kg):pn X eS l (X8 X.K kg):=by
 intro pins s σ H R I h
 refine bT (aC pins s σ H _ I h) fun v s1 ⟨x,H1,a_,bE,bu⟩=>?_
 obtain⟨a,e,⟨xs,bk⟩,q⟩:=bu
 subst e
 cases bE
 obtain⟨its,bX,p,hz⟩:=a_.list bk
 refine wpAny_pyIter_list p.isList ?_
 refine⟨s1.heap.objs.size,[s1.heap.objs.size],_,_,H1,rfl,a_.kept (t':=s1.toks) fun b o e=>get?_push_of_some _ e,TY a _,⟨_,get?_push_size _ rfl,rfl,rfl⟩,fun b aa=>?_,q⟩
 have e:b=s1.heap.objs.size:=by simpa using aa
 subst e
 exact a_.uR (le_refl _) (a_.bM.fresh (le_refl _))
theorem U1 {pins:List (Addr × Obj)}{σ:St}{H:ao}{s:Shared}{R:kr→ao→Prop}{E:Value→Shared→Prop}{lo aP:Int}{t u v:Tok}{bB:Nat}(I:Inv X pins σ H s) (aj : -(2 ^ 62)≤lo) (az:lo<2 ^ 62) (ck : -(2 ^ 62)≤aP) (dv:aP<2 ^ 62)
  (q:R (rx lo (aP - lo).toNat) H):wpAny (model X.prog X.w) X.A (pyIter (.ref s.heap.objs.size)) (Rp X pins σ eS R) E { s with heap:=s.heap.push { cls:=.type "range",data:=.fields #[.int lo t,.int aP u,.int 1 v] },toks:=bB }:=by
 refine wpAny_pyIter_range (IsRange.new ..) (small_one aj az ck dv) ?_
 have a_:Inv X pins σ H { s with heap:=s.heap.push { cls:=.type "range",data:=.fields #[.int lo t,.int aP u,.int 1 v] },toks:=bB }:=I.kept fun b o e=>get?_push_of_some _ e
 refine⟨(s.heap.push { cls:=.type "range",data:=.fields #[.int lo t,.int aP u,.int 1 v] }).objs.size,[(s.heap.push { cls:=.type "range",data:=.fields #[.int lo t,.int aP u,.int 1 v] }).objs.size],_,_,H,rfl,
  a_.kept (t':=bB) fun b o e=>get?_push_of_some _ e,Tz _ lo (aP - lo).toNat,?_,fun b aa=>?_,q⟩
 ·have aG:lo+((0:Nat):Int) * 1=lo:=by simp
  have aL:(((aP - lo).toNat:Nat):Int) - ((0:Nat):Int)=Builtin.Range.rangeSize lo aP 1:=by rw[rangeSize_one];split <;> omega
  show IsRangeIter _ _ (lo+((0:Nat):Int) * 1) ((((aP - lo).toNat:Nat):Int) - ((0:Nat):Int)) 1
  rw[aG,aL]
  exact get?_push_size _ rfl
 ·have e:b=(s.heap.push { cls:=.type "range",data:=.fields #[.int lo t,.int aP u,.int 1 v] }).objs.size:=by simpa using aa
  subst e
  exact a_.uR (le_refl _) (a_.bM.fresh (le_refl _))
def X7 (dB:iV):TI:=fun σ H R=>dB σ H fun vs H1=>∃j:Int,vs=[.int j] ∧ -(2 ^ 62)≤j∧j<2 ^ 62∧R (rx 0 j.toNat) H1
theorem pF {a:Expr}{dB:iV}{p pos:Pos}(cO:lX X "range") (hm:X.mg "range"=none) (bo:mD X [a] dB) (aJ:starEach [a] X.env=[(false,eval a X.env)]:=by rfl):pn X eS (.Call (.Name "range" p) [a] [] pos) (X7 dB):=by
 intro pins s σ H R I h
 refine Call_ (qR I cO hm boot_range (PyProof.Rows.callWith_type1 (bT (bo pos pins s σ H _ I h) fun us s1 ⟨vs,H1,a_,bE,bu⟩=>?_) aJ rfl))
 obtain⟨j,e,bu,aW,q⟩:=bu
 subst e
 cases bE with
 | cons r ts =>
  cases ts
  obtain⟨t,rfl⟩:=r
  exact call_range_1 (U1 a_ (by omega) (by omega) bu aW (by simpa using q))
def Yq (fM:TI) (g:iU) (d4:fX):fX:=fun D σ H=>fM σ H fun J H1=>∃W:Nat→Nat→St→ao→Prop,(∃m,W 0 m σ H1)∧∀i m σ H,W i m σ H →
 (J.stop i H∧D.dk σ H)∨(J.go i H∧∃N:St→ao→Prop,(∀bz af,N bz af→∃gb,gb<m∧W (i+1) gb bz af)∧∀x af,J.oH i H x af→g x σ af fun hy av=>d4 { D with dk:=N,fG:=N,iu:=D.dk } hy av)
def ux (bG:List Addr) (h:Heap):List (Addr × Obj):=bG.filterMap fun b=>(h.get? b).map fun o=>(b,o)
theorem qJ {bG:List Addr}{h:Heap}{b:Addr}{o:Obj}(aa:b∈bG) (e:h.get? b=some o):(b,o)∈ux bG h:=mem_filterMap.mpr ⟨b,aa,by rw[e];rfl⟩
theorem Un {bG:List Addr}{h:Heap}{p:Addr × Obj}(aF:p∈ux bG h):p.1∈bG∧h.get? p.1=some p.2:=by
 obtain⟨b,aa,e⟩:=mem_filterMap.mp aF
 cases q:h.get? b with
 | none=>rw[q]at e;cases e
 | some o =>
  rw[q]at e
  have cF:(b,o)=p:=Option.some.inj e
  subst cF
  exact⟨aa,q⟩
theorem Inv.pinned {pins:List (Addr × Obj)}{σ:St}{H:ao}{s:Shared}{bG:List Addr}(I:Inv X pins σ H s) (hf:∀b∈bG,l4 X pins H b) (aD:∀b∈bG,∃o,s.heap.get? b=some o∧∀v,o.data≠.cell v):Inv X (pins++ux bG s.heap) σ H s :=
 I.Lb fun p aF=>(mem_append.mp aF).elim (fun z=>I.pin p (mem_append_right _ z)) fun z=>by
  obtain⟨aa,e⟩:=Un z
  obtain⟨f0,f1,f2,_⟩:=hf p.1 aa
  obtain⟨o,cF,d⟩:=aD p.1 aa
  rw[e]at cF;cases cF
  exact⟨e,f0,f1,f2,d⟩
theorem Inv.ua {pins pl:List (Addr × Obj)}{σ:St}{H:ao}{s:Shared}(I:Inv X (pins++pl) σ H s):Inv X pins σ H s:=I.Lb fun p aF=>I.pin p (mem_append_right _ (mem_append_left _ aF))
theorem hM {iter:Expr}{body:List Stmt}{fM:TI}{g:iU}{d4:fX}{pos:Pos}(aF:PassesOwn (model X.prog X.w) X.A X.env X.dS) (ai:X.calm=true) (aP:pn X eS iter fM) (cO:pq X eS g) (aa:hR X body d4)
  (aJ:∀x,foldedSetIterable iter X.env x=pure x:=by intro _;rfl):jV X (.For eS iter body [] pos) (Yq fM g d4):=by
 intro pins s σ H D I h
 refine wpAny_For (bT (aP pins s σ H _ I h) fun v s1 aj=>bT aj fun sP s2 az=>?_) aJ
 obtain⟨it,bG,eo,J,av,e,cK,T,nN,f2,W,⟨m0,qi⟩,turn⟩:=az
 subst e
 have kE:∀{af:ao},(∀b∈bG,af b=none)→∀b∈bG,l4 X pins af b:=fun aR b aa=>⟨aR b aa,(f2 b aa).2⟩
 refine codeAny_forLoop_any (fun n aI=>∃i bz af,Inv X pins bz af aI∧eo i aI.heap∧(∀b∈bG,af b=none)∧W i n bz af) ?_ m0 ⟨0,σ,av,cK,nN,fun b aa=>(f2 b aa).1,qi⟩
 rintro n s3 ⟨i,n5,aS,cE,kH,oU,jq⟩
 rcases turn i n n5 aS jq with ⟨stop,G7⟩ | ⟨go,N,fV,step⟩
 ·refine wpAny_passesOwn aF (bT (T.done X rfl rfl rfl ai i pins s3 n5 aS X.dS cE (kE oU) kH stop) fun r s4 ⟨aE,jX⟩=>?_)
  subst aE
  exact wpAny_execs_nil ⟨n5,aS,jX,G7⟩
 ·refine wpAny_passesOwn aF (bT (T.item X rfl rfl rfl ai i pins s3 n5 aS X.dS cE (kE oU) kH go) fun r s4 ⟨u,aE,dv⟩=>?_)
  subst aE
  refine wpAny_passesOwn aF (bT dv fun _ s5 ⟨x,dr,qA,mh,tg,kG,s8⟩=>?_)
  have te:=qA.pinned (kE s8) (T.obj _ _ kG)
  refine wpAny_passesOwn aF (bT (cO _ s5 n5 dr x u _ te mh (step x dr tg)) fun _ nh ⟨Br,dO,tR,yv⟩=>?_)
  refine wpAny_passesOwn aF (bT (aa _ nh Br dO _ tR yv) fun f fz ob=>?_)
  have again:∀{n4:St} {dR:ao},Inv X (pins++ux bG s5.heap) n4 dR fz→N n4 dR→∃m,m<n∧∃i bz af,Inv X pins bz af fz∧eo i fz.heap∧(∀b∈bG,af b=none)∧W i m bz af:=fun {n4 dR} jW gQ=>by
   obtain⟨gb,hm,n8⟩:=fV n4 dR gQ
   refine⟨gb,hm,i+1,n4,dR,jW.ua,T.keep _ _ _ kG fun b aa o e=>(jW.pin (b,o) (mem_append_right _ (mem_append_right _ (qJ aa e)))).1,fun b aa=>?_,n8⟩
   obtain⟨o,e,d⟩:=T.obj _ _ kG b aa
   exact (jW.pin (b,o) (mem_append_right _ (mem_append_right _ (qJ aa e)))).2.1
  cases f with
  | next=>obtain⟨n4,dR,jW,gQ⟩:=ob;exact again jW gQ
  | cont=>obtain⟨n4,dR,jW,gQ⟩:=ob;exact again jW gQ
  | brk=>obtain⟨n4,dR,jW,ob⟩:=ob;exact⟨n4,dR,jW.ua,ob⟩
  | ret v=>obtain⟨aci,n4,dR,jW,aco,ob⟩:=ob;exact⟨aci,n4,dR,jW.ua,aco,ob⟩
end
theorem mL {K:PySem.W.Frag}{a:Addr}{xs:List V}{g:iU}{d4:fX}{D:Ends}{σ:St}{H:ao}(Pv:Nat→St→ao→Prop) (h0:Pv 0 σ H) (aC:∀i σ H,i≤xs.length→Pv i σ H→aM K H a xs)
  (aJ:∀i x σ H,xs[i]?=some x→Pv i σ H→g x σ H fun hy av=>d4 { D with dk:=Pv (i+1),fG:=Pv (i+1),iu:=D.dk } hy av) (hd:∀σ H,Pv xs.length σ H→D.dk σ H) :
  ∃W:Nat→Nat→St→ao→Prop,(∃m,W 0 m σ H)∧∀i m σ H,W i m σ H →
   ((oZ K a).stop i H∧D.dk σ H)∨((oZ K a).go i H∧∃N:St→ao→Prop,(∀bz af,N bz af→∃gb,gb<m∧W (i+1) gb bz af)∧∀x af,(oZ K a).oH i H x af→g x σ af fun hy av=>d4 { D with dk:=N,fG:=N,iu:=D.dk } hy av):=by
 refine⟨fun i m σ H=>m=xs.length - i∧i≤xs.length∧Pv i σ H,⟨xs.length,by simp,zero_le _,h0⟩,?_⟩
 rintro i m σ H ⟨rfl,aP,p⟩
 have q:=aC i σ H aP p
 by_cases c2:i<xs.length
 ·refine .inr ⟨⟨xs,xs[i],q,by simp[c2]⟩,Pv (i+1),fun bz af eH=>⟨xs.length - (i+1),by omega,rfl,c2,eH⟩,fun x af y=>?_⟩
  obtain⟨e,y⟩:=y
  subst e
  exact aJ i x σ _ (y xs q) p
 ·have e:i=xs.length:=by omega
  subst e
  exact .inl ⟨⟨xs,q,le_refl _⟩,hd σ H p⟩
theorem rY {lo:Int}{n:Nat}{g:iU}{d4:fX}{D:Ends}{σ:St}{H:ao}(Pv:Nat→St→ao→Prop) (h0:Pv 0 σ H)
  (aJ:∀i σ H,i<n→Pv i σ H→g (.int (lo+i)) σ H fun hy av=>d4 { D with dk:=Pv (i+1),fG:=Pv (i+1),iu:=D.dk } hy av) (hd:∀σ H,Pv n σ H→D.dk σ H) :
  ∃W:Nat→Nat→St→ao→Prop,(∃m,W 0 m σ H)∧∀i m σ H,W i m σ H →
   ((rx lo n).stop i H∧D.dk σ H)∨((rx lo n).go i H∧∃N:St→ao→Prop,(∀bz af,N bz af→∃gb,gb<m∧W (i+1) gb bz af)∧∀x af,(rx lo n).oH i H x af→g x σ af fun hy av=>d4 { D with dk:=N,fG:=N,iu:=D.dk } hy av):=by
 refine⟨fun i m σ H=>m=n - i∧i≤n∧Pv i σ H,⟨n,by simp,zero_le _,h0⟩,?_⟩
 rintro i m σ H ⟨rfl,aP,p⟩
 by_cases c2:i<n
 ·refine .inr ⟨c2,Pv (i+1),fun bz af eH=>⟨n - (i+1),by omega,rfl,c2,eH⟩,fun x af y=>?_⟩
  obtain⟨e,y⟩:=y
  subst e y
  exact aJ i σ _ c2 p
 ·have e:i=n:=by omega
  subst e
  exact .inl ⟨le_refl _,hd σ H p⟩
abbrev iW:=V→V→ao→cG→Prop
def hS (X:bI) (f:Value→Value→Sem Value) (r:iW):Prop :=
 ∀(pins:List (Addr × Obj)) (s:Shared) (σ:St) (H:ao) (x y:V) (v u:Value) (Q:cG),Inv X pins σ H s→RelV x v→RelV y u→r x y H Q →
  wpAny (model X.prog X.w) X.A (f v u) (hK X pins σ Q) X.dS s
def Gm (X:bI) (f:Value→Sem Value) (r:V→ao→cG→Prop):Prop :=
 ∀(pins:List (Addr × Obj)) (s:Shared) (σ:St) (H:ao) (x:V) (v:Value) (Q:cG),Inv X pins σ H s→RelV x v→r x H Q →
  wpAny (model X.prog X.w) X.A (f v) (hK X pins σ Q) X.dS s
def lr (X:bI) (f:Value) (r:List V→ao→cG→Prop):Prop :=
 ∀(pins:List (Addr × Obj)) (s:Shared) (σ:St) (H:ao) (xs:List V) (us:List Value) (Q:cG),Inv X pins σ H s→Vals xs us→r xs H Q →
  wpAny (model X.prog X.w) X.A (call f us) (hK X pins σ Q) X.dS s
def AF (r:iW) (dB d4:TE):TE:=fun σ H Q=>dB σ H fun x H1=>d4 σ H1 fun y av=>r x y av Q
def ZE (r:V→ao→cG→Prop) (dB:TE):TE:=fun σ H Q=>dB σ H fun x H1=>r x H1 Q
def yt (C:Int→Int→Prop) (g:Int→Int→V):iW:=fun x y H Q=>∃i j,x=.int i∧y=.int j∧C i j∧Q (g i j) H
def q6 (g:Int→Int→V):iW:=fun x y H Q=>∃i j,x=.int i∧y=.int j∧Q (g i j) H
def RV (g:Int→V):V→ao→cG→Prop:=fun x H Q=>∃i,x=.int i∧Q (g i) H
section
variable {X:bI}{a b c:Expr}{dB d4 tn:TE}{pos:Pos}
theorem EK (bo:b8 X a dB) (aa:b8 X b d4) {pins:List (Addr × Obj)}{s:Shared}{σ:St}{H:ao}{R:V→V→ao→Prop}(I:Inv X pins σ H s)
  (h:dB σ H fun x H1=>d4 σ H1 fun y av=>R x y av) {Q:Value→Shared→Prop} {f:Value→Value→Sem Value}
  (hf:∀v u s2 x y av,Inv X pins σ av s2→RelV x v→RelV y u→R x y av→wpAny (model X.prog X.w) X.A (f v u) Q X.dS s2) :
  wpAny (model X.prog X.w) X.A (eval a X.env) (fun v dw=>wpAny (model X.prog X.w) X.A (eval b X.env) (fun u iR=>wpAny (model X.prog X.w) X.A (f v u) Q X.dS iR) X.dS dw) X.dS s:=by
 refine bT (bo pins s σ H _ I h) fun v s1 ⟨x,H1,a_,bE,bu⟩=>?_
 refine bT (aa pins s1 σ H1 _ a_ bu) fun u s2 ⟨y,av,cK,b4,aW⟩=>?_
 exact hf v u s2 x y av cK bE b4 aW
theorem c0 {op:Operator}{r:iW}(aD:hS X (binaryOp op) r) (bo:b8 X a dB) (aa:b8 X b d4):b8 X (.BinOp a op b pos) (AF r dB d4):=by
 intro pins s σ H Q I h
 exact wpAny_BinOp (EK bo aa I h fun v u s2 x y av cK bN bO q=>aD pins s2 σ av x y v u Q cK bN bO q)
theorem uA {op:UnaryOp}{r:V→ao→cG→Prop}(aD:Gm X (unaryOp op) r) (bo:b8 X a dB):b8 X (.UnaryOp op a pos) (ZE r dB):=by
 intro pins s σ H Q I h
 exact UnaryOp_ (bT (bo pins s σ H _ I h) fun v s1 ⟨x,H1,a_,bE,bu⟩=>aD pins s1 σ H1 x v Q a_ bE bu)
theorem AK {f:Value→Value→Sem Value}{C:Int→Int→Prop}{g:Int→Int→Int}
  (rule:∀(i j:Int) (t u:Tok) (s:Shared) (Q:Value→Shared→Prop) (E:Value→Shared→Prop),C i j→Q (.int (g i j) s.toks) { s with toks:=s.toks+1 }→wpAny (model X.prog X.w) X.A (f (.int i t) (.int j u)) Q E s) :
  hS X f (yt C fun i j=>.int (g i j)):=by
 intro pins s σ H x y v u Q I bN bO h
 obtain⟨i,j,rfl,rfl,ai,q⟩:=h
 obtain⟨t,rfl⟩:=bN
 obtain⟨t',rfl⟩:=bO
 exact rule i j t t' s _ _ ai ⟨.int (g i j),H,I.tok _,⟨_,rfl⟩,q⟩
theorem M5 {f:Value→Value→Sem Value}{g:Int→Int→Int}
  (rule:∀(i j:Int) (t u:Tok) (s:Shared) (Q:Value→Shared→Prop) (E:Value→Shared→Prop),Q (.int (g i j) s.toks) { s with toks:=s.toks+1 }→wpAny (model X.prog X.w) X.A (f (.int i t) (.int j u)) Q E s) :
  hS X f (q6 fun i j=>.int (g i j)):=by
 intro pins s σ H x y v u Q I bN bO h
 obtain⟨i,j,rfl,rfl,q⟩:=h
 obtain⟨t,rfl⟩:=bN
 obtain⟨t',rfl⟩:=bO
 exact rule i j t t' s _ _ ⟨.int (g i j),H,I.tok _,⟨_,rfl⟩,q⟩
theorem Ac {f:Value→Value→Sem Value}{g:Int→Int→Bool}
  (rule:∀(i j:Int) (t u:Tok) (s:Shared) (Q:Value→Shared→Prop) (E:Value→Shared→Prop),Q (.bool (g i j)) s→wpAny (model X.prog X.w) X.A (f (.int i t) (.int j u)) Q E s) :
  hS X f (q6 fun i j=>.b0 (g i j)):=by
 intro pins s σ H x y v u Q I bN bO h
 obtain⟨i,j,rfl,rfl,q⟩:=h
 obtain⟨t,rfl⟩:=bN
 obtain⟨t',rfl⟩:=bO
 exact rule i j t t' s _ _ ⟨.b0 (g i j),H,I,rfl,q⟩
def Zw (i j:Int):Prop:=0<j∧j<1073741824
def Zv (i j:Int):Prop:=0≤j∧j≤1000000∧i.natAbs<2 ^ 64
def EP (i j:Int):Prop:=(-(2 ^ 64)<i∧i<2 ^ 64)∨(-(2 ^ 64)<j∧j<2 ^ 64)
theorem EP.ok {i j:Int}(h:EP i j):IntMulOk i j:=by
 rcases h with ⟨aj,az⟩ | ⟨aj,az⟩
 ·exact .of_left (intBits_le_64 aj az)
 ·exact .of_right (intBits_le_64 aj az)
theorem gI:hS X (binaryOp .Add) (q6 fun i j=>.int (i+j)):=M5 fun _ _ _ _ _ _ _ q=>add_int q
theorem sb:hS X (binaryOp .Sub) (q6 fun i j=>.int (i - j)):=M5 fun _ _ _ _ _ _ _ q=>sub_int q
theorem sd:hS X (binaryOp .Mult) (yt EP fun i j=>.int (i * j)):=AK fun _ _ _ _ _ _ _ ai q=>mul_int q ai.ok
theorem ug:hS X (binaryOp .FloorDiv) (yt Zw fun i j=>.int (i / j)):=AK fun i j _ _ _ _ _ ai q=>by
 have aj:(0:Int)<j:=ai.1
 have az:j<1073741824:=ai.2
 exact floordiv_int (by omega) (by rw[Int.fdiv_eq_ediv_of_nonneg i (by omega)];exact q) (.inl (PyProof.noPylong_small (by omega)))
theorem iZ:hS X (binaryOp .Mod) (yt (fun _ j=>0<j) fun i j=>.int (i % j)):=AK fun i j _ _ _ _ _ ai q=>by
 have aj:(0:Int)<j:=ai
 exact mod_int' (by omega) (by rw[Int.fmod_eq_emod_of_nonneg i (by omega)];exact q)
theorem zS:hS X (binaryOp .Pow) (yt Zv fun i j=>.int (i ^ j.toNat)):=AK fun _ _ _ _ _ _ _ ai q=>pow_int_small ai.1 ai.2.1 ai.2.2 q
theorem Zz {f:Value→Sem Value}{g:Int→Int}
  (rule:∀(i:Int) (t:Tok) (s:Shared) (Q:Value→Shared→Prop) (E:Value→Shared→Prop),Q (.int (g i) s.toks) { s with toks:=s.toks+1 }→wpAny (model X.prog X.w) X.A (f (.int i t)) Q E s) :
  Gm X f (RV fun i=>.int (g i)):=by
 intro pins s σ H x v Q I bN h
 obtain⟨i,rfl,q⟩:=h
 obtain⟨t,rfl⟩:=bN
 exact rule i t s _ _ ⟨.int (g i),H,I.tok _,⟨_,rfl⟩,q⟩
theorem ur:Gm X (unaryOp .USub) (RV fun i=>.int (-i)):=Zz fun _ _ _ _ _ q=>neg_int q
end
def MQ:V→V→Bool
 | .cS,.cS=>true | .cS,.int _=>true | .int _,.cS=>true | .cS,.b0 _=>true | .b0 _,.cS=>true | .cS,.str _=>true | .str _,.cS=>true
 | .int _,.int _=>true | .b0 _,.b0 _=>true | .str _,.str _=>true | .m9 _,.m9 _=>true
 | .int _,.str _=>true | .str _,.int _=>true | .b0 _,.str _=>true | .str _,.b0 _=>true
 | _,_=>false
def ZO:iW:=fun x y H Q=>MQ x y=true∧Q (.b0 (decide (x=y))) H
def ZN:iW:=fun x y H Q=>MQ x y=true∧Q (.b0 (!decide (x=y))) H
theorem Ln {i j:Int}:decide (V.int i=V.int j)=(i == j):=by
 rw[Bool.eq_iff_iff]
 simp
theorem LZ {i j:Bool}:decide (V.b0 i=V.b0 j)=(i == j):=by
 rw[Bool.eq_iff_iff]
 simp
theorem Lm {i j:Str}:decide (V.str i=V.str j)=(i == j):=by
 rw[Bool.eq_iff_iff]
 simp
theorem Lo {i j:Array UInt8}:decide (V.m9 i=V.m9 j)=(i.toList == j.toList):=by
 rw[Bool.eq_iff_iff]
 cases i
 cases j
 simp
section
variable {X:bI}{a b c:Expr}{dB d4 tn:TE}{pos:Pos}
theorem gm {pins:List (Addr × Obj)}{σ:St}{H:ao}{s:Shared}{Q:cG}{k g5:Bool}(I:Inv X pins σ H s) (q:Q (.b0 k) H) (e:k=g5):hK X pins σ Q (.bool g5) s:=by
 subst e
 exact⟨.b0 k,H,I,rfl,q⟩
theorem el:hS X (compareOp .Eq) ZO:=by
 intro pins s σ H x y v u Q I bN bO h
 obtain⟨aJ,q⟩:=h
 cases x with
 | cS =>
  cases bN
  cases y with
  | cS=>cases bO;exact PySem.EqNone.eq_none_none (gm I q (by simp))
  | b0 j=>cases bO;exact PySem.EqNone.eq_none_bool (gm I q (by simp))
  | int j=>obtain⟨t',rfl⟩:=bO;exact PySem.EqNone.eq_none_int (gm I q (by simp))
  | str j=>obtain⟨t',rfl⟩:=bO;exact PySem.EqNone.eq_none_str (gm I q (by simp))
  | _=>exact absurd (show false=true from aJ) Bool.false_ne_true
 | b0 i =>
  cases bN
  cases y with
  | cS=>cases bO;exact PySem.EqNone.eq_bool_none (gm I q (by simp))
  | b0 j=>cases bO;exact eq_bool (gm I q LZ)
  | str j=>obtain⟨t',rfl⟩:=bO;exact PySem.EqMixed.eq_bool_str (gm I q (by simp))
  | _=>exact absurd (show false=true from aJ) Bool.false_ne_true
 | int i =>
  obtain⟨t,rfl⟩:=bN
  cases y with
  | cS=>cases bO;exact PySem.EqNone.eq_int_none (gm I q (by simp))
  | int j=>obtain⟨t',rfl⟩:=bO;exact eq_int (gm I q Ln)
  | str j=>obtain⟨t',rfl⟩:=bO;exact PySem.EqMixed.eq_int_str (gm I q (by simp))
  | _=>exact absurd (show false=true from aJ) Bool.false_ne_true
 | str i =>
  obtain⟨t,rfl⟩:=bN
  cases y with
  | cS=>cases bO;exact PySem.EqNone.eq_str_none (gm I q (by simp))
  | b0 j=>cases bO;exact PySem.EqMixed.eq_str_bool (gm I q (by simp))
  | int j=>obtain⟨t',rfl⟩:=bO;exact PySem.EqMixed.eq_str_int (gm I q (by simp))
  | str j=>obtain⟨t',rfl⟩:=bO;exact eq_str (gm I q Lm)
  | _=>exact absurd (show false=true from aJ) Bool.false_ne_true
 | m9 i =>
  obtain⟨t,rfl⟩:=bN
  cases y with
  | m9 j=>obtain⟨t',rfl⟩:=bO;exact PySem.W.eq_bytes (gm I q Lo)
  | _=>exact absurd (show false=true from aJ) Bool.false_ne_true
 | _=>cases y <;> exact absurd (show false=true from aJ) Bool.false_ne_true
theorem kD:hS X (compareOp .NotEq) ZN:=by
 intro pins s σ H x y v u Q I bN bO h
 obtain⟨aJ,q⟩:=h
 cases x with
 | cS =>
  cases bN
  cases y with
  | cS=>cases bO;exact PySem.EqNone.ne_none_none (gm I q (by simp))
  | b0 j=>cases bO;exact PySem.EqNone.ne_none_bool (gm I q (by simp))
  | int j=>obtain⟨t',rfl⟩:=bO;exact PySem.EqNone.ne_none_int (gm I q (by simp))
  | str j=>obtain⟨t',rfl⟩:=bO;exact PySem.EqNone.ne_none_str (gm I q (by simp))
  | _=>exact absurd (show false=true from aJ) Bool.false_ne_true
 | b0 i =>
  cases bN
  cases y with
  | cS=>cases bO;exact PySem.EqNone.ne_bool_none (gm I q (by simp))
  | b0 j=>cases bO;exact ne_bool (gm I q (congrArg not LZ))
  | str j=>obtain⟨t',rfl⟩:=bO;exact PySem.EqMixed.ne_bool_str (gm I q (by simp))
  | _=>exact absurd (show false=true from aJ) Bool.false_ne_true
 | int i =>
  obtain⟨t,rfl⟩:=bN
  cases y with
  | cS=>cases bO;exact PySem.EqNone.ne_int_none (gm I q (by simp))
  | int j=>obtain⟨t',rfl⟩:=bO;exact ne_int (gm I q (congrArg not Ln))
  | str j=>obtain⟨t',rfl⟩:=bO;exact PySem.EqMixed.ne_int_str (gm I q (by simp))
  | _=>exact absurd (show false=true from aJ) Bool.false_ne_true
 | str i =>
  obtain⟨t,rfl⟩:=bN
  cases y with
  | cS=>cases bO;exact PySem.EqNone.ne_str_none (gm I q (by simp))
  | b0 j=>cases bO;exact PySem.EqMixed.ne_str_bool (gm I q (by simp))
  | int j=>obtain⟨t',rfl⟩:=bO;exact PySem.EqMixed.ne_str_int (gm I q (by simp))
  | str j=>obtain⟨t',rfl⟩:=bO;exact ne_str (gm I q (congrArg not Lm))
  | _=>exact absurd (show false=true from aJ) Bool.false_ne_true
 | m9 i =>
  obtain⟨t,rfl⟩:=bN
  cases y with
  | m9 j=>obtain⟨t',rfl⟩:=bO;exact PySem.W.ne_bytes (gm I q (congrArg not Lo))
  | _=>exact absurd (show false=true from aJ) Bool.false_ne_true
 | _=>cases y <;> exact absurd (show false=true from aJ) Bool.false_ne_true
theorem z5:hS X (compareOp .Lt) (q6 fun i j=>.b0 (decide (i<j))):=Ac fun _ _ _ _ _ _ _ q=>lt_int q
theorem Mi:hS X (compareOp .LtE) (q6 fun i j=>.b0 (decide (i≤j))):=Ac fun _ _ _ _ _ _ _ q=>le_int q
theorem uC:hS X (compareOp .Gt) (q6 fun i j=>.b0 (decide (j<i))):=Ac fun _ _ _ _ _ _ _ q=>gt_int q
theorem Mj:hS X (compareOp .GtE) (q6 fun i j=>.b0 (decide (j≤i))):=Ac fun _ _ _ _ _ _ _ q=>ge_int q
theorem cP (b:Expr) {op:CmpOp}(h:op≠.In:=by decide) (az:op≠.NotIn:=by decide):behindInMarks op b=false:=by
 have aG:(op == CmpOp.In)=false:=by cases op <;> first | rfl | exact absurd rfl h
 have aL:(op == CmpOp.NotIn)=false:=by cases op <;> first | rfl | exact absurd rfl az
 cases b <;> simp[behindInMarks,aG,aL]
theorem uf {op:CmpOp}{r:iW}(aD:hS X (compareOp op) r) (bo:b8 X a dB) (aa:b8 X b d4) (hm:behindInMarks op b=false):b8 X (.Compare a [op] [b] pos) (AF r dB d4):=by
 intro pins s σ H Q I h
 exact wpAny_Compare1 (EK bo aa I h fun v u s2 x y av cK bN bO q=>aD pins s2 σ av x y v u Q cK bN bO q) hm
def Xs (t:TE):TT:=fun σ H Q=>t σ H fun x af=>∃k,x=.b0 k∧Q k af
theorem cX {op:CmpOp}{r:iW}(aD:hS X (compareOp op) r) (bo:b8 X a dB) (aa:b8 X b d4) (hm:behindInMarks op b=false):h5 X (.Compare a [op] [b] pos) (Xs (AF r dB d4)):=by
 intro pins s σ H Q I h
 refine wpAny_isTrue_Compare1 (bT (bo pins s σ H _ I h) fun v s1 ⟨x,H1,a_,bE,bu⟩=>bT (aa pins s1 σ H1 _ a_ bu) fun u s2 ⟨y,av,cK,b4,aW⟩ =>
  bT (aD pins s2 σ av x y v u _ cK bE b4 aW) fun c s3 ⟨z,aS,cE,gZ,k,e,fs⟩=>?_) hm
 subst e
 cases gZ
 exact wpAny_truthy_bool ⟨aS,cE,fs⟩
theorem zU:(sizeLine:Nat)<2 ^ 63:=by rw[sizeLine_eq];decide
theorem vals1 {x:V}{us:List Value}(r:Vals [x] us):∃u,us=[u]∧RelV x u:=by
 cases r with
 | cons bE b4=>cases b4;exact⟨_,rfl,bE⟩
theorem vals2 {x y:V}{us:List Value}(r:Vals [x,y] us):∃u ec,us=[u,ec]∧RelV x u∧RelV y ec:=by
 cases r with
 | cons bE b4 =>
  cases b4 with
  | cons gZ mj=>cases mj;exact⟨_,_,rfl,bE,gZ⟩
theorem UK (ai:X.calm=true):lr X (.builtin "max") (fun xs H Q=>∃i j,xs=[.int i,.int j]∧Q (.int (if j > i then j else i)) H):=by
 intro pins s σ H xs us Q I r h
 obtain⟨i,j,rfl,q⟩:=h
 obtain⟨u,ec,rfl,⟨t,rfl⟩,⟨t',rfl⟩⟩:=vals2 r
 refine max_two_ints (I.ok.hd ai) fun h' bB k=>⟨_,H,I.kept k,?_,q⟩
 by_cases cD:j > i
 ·rw[if_pos cD,if_pos cD];exact⟨_,rfl⟩
 ·rw[if_neg cD,if_neg cD];exact⟨_,rfl⟩
theorem UJ (ai:X.calm=true):lr X (.builtin "min") (fun xs H Q=>∃i j,xs=[.int i,.int j]∧Q (.int (if j<i then j else i)) H):=by
 intro pins s σ H xs us Q I r h
 obtain⟨i,j,rfl,q⟩:=h
 obtain⟨u,ec,rfl,⟨t,rfl⟩,⟨t',rfl⟩⟩:=vals2 r
 refine min_two_ints (I.ok.hd ai) fun h' bB k=>⟨_,H,I.kept k,?_,q⟩
 by_cases cD:j<i
 ·rw[if_pos cD,if_pos cD];exact⟨_,rfl⟩
 ·rw[if_neg cD,if_neg cD];exact⟨_,rfl⟩
theorem JS:lr X (.type "int") (fun xs H Q=>(∃i,xs=[.int i]∧Q (.int i) H)∨∃k,xs=[.b0 k]∧Q (.int (if k then 1 else 0)) H):=by
 intro pins s σ H xs us Q I r h
 rcases h with ⟨i,rfl,q⟩ | ⟨k,rfl,q⟩
 ·obtain⟨u,rfl,t,rfl⟩:=vals1 r
  exact call_int_int ⟨.int i,H,I,⟨_,rfl⟩,q⟩
 ·obtain⟨u,rfl,bE⟩:=vals1 r
  cases bE
  exact call_int_bool ⟨.int (if k then 1 else 0),H,I.tok _,⟨_,rfl⟩,q⟩
end
structure sJ (h:Heap) (x dx C:Addr) (d7:Str→Option Value):Prop where
 obj:h.get? x=some (instObj C dx)
 ns:h.Ns1 dx d7
 ne:dx≠x
theorem Ur {h:Heap}{dx:Addr}{d7:Str→Option Value}(n:h.Ns1 dx d7):∃fj,h.get? dx=some fj∧∀name,PySem.W.lookIn name fj=some (d7 name):=by
 obtain⟨o,aA,cu,aD,hd,aQ,_,hm⟩:=n
 refine⟨o,aD,fun name=>?_⟩
 have e:=hm name
 unfold nsFind findBy at e
 rw[←Array.find?_toList]at e
 unfold PySem.W.lookIn
 rw[hd]
 dsimp only
 split
 ·rename_i y q
  rw[q]at e
  exact congrArg some e
 ·rename_i q
  rw[q]at e
  have a:aA.toList.any (·.refKey)=false:=by
   rw[List.any_eq_false]
   intro y b6
   obtain⟨z,t,Zh⟩:=aQ y (Array.mem_toList_iff.mp b6)
   simp[DictEntry.refKey,Zh]
  have HM:¬aA.toList.any (·.refKey)=true:=by rw[a];exact Bool.false_ne_true
  rw[if_neg HM]
  exact congrArg some e
theorem sJ.look {h:Heap}{x dx C:Addr}{d7:Str→Option Value}(I:sJ h x dx C d7):∃fj,PySem.W.InstAt h x (instObj C dx) C (some fj)∧∀name,PySem.W.lookIn name fj=some (d7 name) :=
 let ⟨fj,aD,aC⟩:=Ur I.ns
 ⟨fj,⟨I.obj,rfl,rfl,aD⟩,aC⟩
section
variable {prog:Program}{w:World}{A:Around}{E:Value→Shared→Prop}{s:Shared}{K:PySem.W.Frag}{x dx C f:Addr}{d7:Str→Option Value}{name:Str}{v:Value}
theorem get_map {expr:Bool}{Q:Value→Shared→Prop}(X:K.In s.heap) (I:sJ s.heap x dx C d7) (cO:PySem.W.plainGet K C name=true) (c5:PySem.W.hasDictIn K C=true)
  (bo:findIn K (.ref C) name=some none) (aX:d7 name=some v) (iP:PySem.W.handedIn v=true) (h:Q v { s with toks:=s.toks+1 }) :
  wpAny (model prog w) A (getAttr (.ref x) name expr) Q E s:=by
 obtain⟨fj,J,aC⟩:=I.look
 exact PySem.W.get_value X J (PySem.W.plainGet_of cO).1 (PySem.W.findObj_own c5 bo rfl (by rw[aC,aX])) iP h
theorem VF {pl:Sem Bool}{Q:Value × List Value→Shared→Prop}(X:K.In s.heap) (I:sJ s.heap x dx C d7) (cO:PySem.W.plainGet K C name=true)
  (hf:findIn K (.ref C) name=some (some (.ref f))) (bF:PySem.W.isFn K (.ref f)=true) (aX:d7 name=none) (h:Q (.ref f,[.ref x]) s) :
  wpAny (model prog w) A (getMethod (.ref x) name pl) Q E s:=by
 obtain⟨fj,J,aC⟩:=I.look
 exact PySem.W.method_fn X J (PySem.W.plainGet_of cO).1 (PySem.W.plainGet_of cO).2 hf (beq_iff_eq.mp bF) (by show (PySem.W.lookIn name fj).map (·.isSome)=some false;rw[aC,aX];rfl) h
theorem VT {ns:List Str}{Q:Unit→Shared→Prop}(X:K.In s.heap) (I:sJ s.heap x dx C d7)
  (aJ:findIn K (.ref C) "__setattr__"=some (some (.builtin "object.__setattr__"))) (aF:PySem.W.plainOver K C=true) (bF:PySem.W.takerIn K C name=some none) (c5:PySem.W.hasDictIn K C=true)
  (hw:PySem.Within d7 ns) (hsz:ns.length≤sizeLine)
  (h:∀h',sJ h' x dx C (fun y=>if y=name then some v else d7 y)→Heap.SameBut dx s.heap h'→Q () { s with heap:=h',toks:=s.toks+2 }) :
  wpAny (model prog w) A (setAttr (.ref x) name v) Q E s:=by
 obtain⟨fj,J,aC⟩:=I.look
 refine PySem.W.set_plain X J aJ (PySem.W.osa_open (s:={ s with toks:=s.toks+1 }) (r:=none) X J aF bF fun b=>?_)
 obtain⟨cd,ai,F2⟩:=PySem.W.any_some c5
 have bh:s.heap.get? x=some ⟨.ref C,some dx,.plain, #[]⟩:=I.obj
 refine wpAny_bind (wpAny_pure (wpAny_bind (wpAny_bind (wpAny_loadPart bh (wpAny_bind (PySem.W.Looks.here (s:={ s with toks:=s.toks+1 }) (PySem.W.looks_clsIn X ai) ?_))))))
 rw[F2]
 refine wpAny_pure (a:=some dx) (wpAny_bind (wpAny_pure (wpAny_bind ?_)))
 refine wpAny_nsSet1 (s:={ s with toks:=s.toks+1 }) I.ns fun h' oS jI=>?_
 obtain⟨ae8,aec,aed,aaM,aa6,aa8⟩:=oS.count (PySem.Within.cons name v hw)
 refine wpAny_bind (wpAny_lookBehind aaM (by rw[aa6];exact pastItsLine_dict (le_trans aa8 (by rw[length_cons];omega))) ?_)
 exact wpAny_pure (h _ ⟨(jI.2 _ (Ne.symm I.ne)).trans I.obj,oS,I.ne⟩ jI)
theorem Vy {R:Result→Shared→Prop}{vs:List Value}{kw:List (Str × Value)}(X:K.In s.heap) (hm:PySem.W.makesIn K C=true)
  (aP:findIn K (.ref C) "__init__"=some (some (.ref f))) (hf:PySem.W.typeIn K (.ref f)=some (.type "function"))
  (h:codeAny (model prog w) (A.under (.builtin "type.__call__" ⟨.ref C::vs,kw⟩)) (.call (.ref f) ⟨.ref (s.heap.objs.size+1)::vs,kw⟩) (PySem.W.InitBack (s.heap.objs.size+1) R)
   { s with heap:=(s.heap.push emptyDict).push (instObj C s.heap.objs.size) }) :
  codeAny (model prog w) A (.call (.ref C) ⟨vs,kw⟩) R s:=by
 obtain⟨c5,g,d,t,os⟩:=s
 exact PySem.W.make_core (PySem.W.makes_of X hm) (PySem.W.looks_findIn X aP) (fun self=>PySem.W.bind_fn X self hf) (.inl rfl) h
end
def d9 (f:Str) (v:V):List (Str × V)→List (Str × V)
 | []=>[(f,v)]
 | (g,x)::r=>if g=f then (g,v)::r else (g,x)::d9 f v r
theorem rU (f g:Str) (v:V):∀bQ:List (Str × V),(d9 f v bQ).lookup g=if g=f then some v else bQ.lookup g
 | []=>by
  show List.lookup g [(f,v)]=_
  by_cases h:g=f
  ·have aa:(g == f)=true:=beq_iff_eq.mpr h
   simp only[List.lookup,aa,if_pos h]
  ·have aa:(g == f)=false:=beq_eq_false_iff_ne.mpr h
   simp only[List.lookup,aa,if_neg h]
 | (k,x)::r=>by
  have b3:=rU f g v r
  rw[show d9 f v ((k,x)::r)=(if k=f then (k,v)::r else (k,x)::d9 f v r) from rfl]
  by_cases aQ:k=f
  ·rw[if_pos aQ]
   by_cases h:g=k
   ·have aa:(g == k)=true:=beq_iff_eq.mpr h
    simp only[List.lookup,aa,if_pos (h.trans aQ)]
   ·have aa:(g == k)=false:=beq_eq_false_iff_ne.mpr h
    simp only[List.lookup,aa,if_neg (fun e:g=f=>h (e.trans aQ.symm))]
  ·rw[if_neg aQ]
   by_cases h:g=k
   ·have aa:(g == k)=true:=beq_iff_eq.mpr h
    simp only[List.lookup,aa,if_neg (fun e:g=f=>aQ (h.symm.trans e))]
   ·have aa:(g == k)=false:=beq_eq_false_iff_ne.mpr h
    simp only[List.lookup,aa]
    exact b3
theorem Cu (f:Str) (v:V):∀bQ:List (Str × V),f∈(d9 f v bQ).map (·.1)∧∀g,g∈bQ.map (·.1)→g∈(d9 f v bQ).map (·.1)
 | []=>⟨by simp[d9],fun g h=>by simp at h⟩
 | (k,x)::r=>by
  obtain⟨i8,nA⟩:=Cu f v r
  rw[show d9 f v ((k,x)::r)=(if k=f then (k,v)::r else (k,x)::d9 f v r) from rfl]
  by_cases aQ:k=f
  ·rw[if_pos aQ]
   subst aQ
   exact⟨by simp,fun g h=>by simpa using h⟩
  ·rw[if_neg aQ]
   refine⟨?_,fun g h=>?_⟩
   ·rw[map_cons]
    exact mem_cons_of_mem _ i8
   ·rw[map_cons]at h ⊢
    rcases mem_cons.mp h with e | e
    ·exact mem_cons.mpr (.inl e)
    ·exact mem_cons_of_mem _ (nA g e)
theorem IJ (f:Str) (v:V):∀bQ:List (Str × V),(d9 f v bQ).length≤bQ.length+1
 | []=>by simp[d9]
 | (k,x)::r=>by
  have b3:=IJ f v r
  rw[show d9 f v ((k,x)::r)=(if k=f then (k,v)::r else (k,x)::d9 f v r) from rfl]
  by_cases aQ:k=f
  ·rw[if_pos aQ,length_cons,length_cons];omega
  ·rw[if_neg aQ,length_cons,length_cons];omega
theorem i1.some_of {v:V}{o:Option Value}(r:i1 (some v) o):∃u,o=some u∧RelV v u:=by
 cases o with
 | none=>exact (show False from r).elim
 | some u=>exact⟨u,rfl,r⟩
theorem i1.none_of {o:Option Value}(r:i1 none o):o=none:=by
 cases o with
 | none=>rfl
 | some u=>exact (show False from r).elim
theorem UA {v:V}{u:Value}(r:RelV v u):PySem.W.handedIn u=true:=by
 cases v with
 | cS=>cases (show u=Value.none from r);rfl
 | b0 b=>cases (show u=Value.bool b from r);rfl
 | int i=>obtain⟨t,e⟩:=(show ∃t,u=Value.int i t from r);cases e;rfl
 | str x=>obtain⟨t,e⟩:=(show ∃t,u=Value.str x t from r);cases e;rfl
 | m9 b=>obtain⟨t,e⟩:=(show ∃t,u=Value.bytes b t from r);cases e;rfl
 | rp b=>obtain⟨t,e⟩:=(show ∃t,u=Value.float b t from r);cases e;rfl
 | ref a=>cases (show u=Value.ref a from r);rfl
 | ty n=>cases (show u=Value.type n from r);rfl
section
variable {P:Program}{w:World}{H af:ao}{h h':Heap}{a C dx:Addr}{bQ u6:List (Str × V)}
theorem we (bM:fm P w H h) (e:H a=some (.ins C dx bQ)):∃d7,sJ h a dx C d7∧(∀f,i1 (bQ.lookup f) (d7 f))∧PySem.Within d7 (bQ.map (·.1))∧bQ.length≤1000∧H dx=some (.own a):=by
 obtain⟨d,z,ne,b1,d7,n,r,q⟩:=(show fR P w H h a (.ins C dx bQ) from bM a _ e)
 exact⟨d7,⟨b1,n,ne⟩,r,q,z,d⟩
end
structure lH (K:PySem.W.Frag) (C:Addr):Prop where
 bP:PySem.W.plainGet K C Str.empty=true
 hd:PySem.W.hasDictIn K C=true
 po:PySem.W.plainOver K C=true
 qj:findIn K (.ref C) "__setattr__"=some (some (.builtin "object.__setattr__"))
theorem lH.get {K:PySem.W.Frag}{C:Addr}(c:lH K C) (f:Str):PySem.W.plainGet K C f=true:=c.bP
def jC (K:PySem.W.Frag) (C:Addr) (f:Str):Prop:=findIn K (.ref C) f=some none
theorem jC.dT {K:PySem.W.Frag}{C:Addr}{f:Str}(n:jC K C f):PySem.W.takerIn K C f=some none:=by
 unfold PySem.W.takerIn
 rw[show findIn K (.ref C) f=some none from n]
 rfl
structure ae2 (K:PySem.W.Frag) (C:Addr) (f:Str) (v:V) (u:Value):Prop where
 at_:findIn K (.ref C) f=some (some u)
 rel:RelV v u
 get:PySem.W.specialIn K u "__get__"=some none
 HE:PySem.W.copiedNames.contains f=false
structure Meth (K:PySem.W.Frag) (C:Addr) (m:Str) (f:Addr):Prop where
 at_:findIn K (.ref C) m=some (some (.ref f))
 fn:PySem.W.isFn K (.ref f)=true
 bw:keepIn K (.ref f)=true
section
variable {X:bI}{pins:List (Addr × Obj)}{σ:St}{H:ao}{s:Shared}{a C dx:Addr}{bQ:List (Str × V)}{f:Str}{v:V}{A:Around}{E:Value→Shared→Prop}
theorem I6 {b:Bool}{Q:Value→Shared→Prop}(I:Inv X pins σ H s) (e:H a=some (.ins C dx bQ)) (c:lH X.K C) (n:jC X.K C f) (l:bQ.lookup f=some v)
  (h:∀u aI,Inv X pins σ H aI→RelV v u→Q u aI):wpAny (model X.prog X.w) A (getAttr (.ref a) f b) Q E s:=by
 obtain⟨d7,O,r,_,_,_⟩:=we I.bM e
 obtain⟨u,bq,eT⟩:=i1.some_of (v:=v) (o:=d7 f) (by rw[←l];exact r f)
 exact get_map I.gW O (c.get f) c.hd n bq (UA eT) (h u _ (I.tok _) eT)
theorem Ce {m:Str}{g:Addr}{pl:Sem Bool}{Q:Value × List Value→Shared→Prop}(I:Inv X pins σ H s) (e:H a=some (.ins C dx bQ)) (c:lH X.K C) (k:Meth X.K C m g) (l:bQ.lookup m=none)
  (h:Q (.ref g,[.ref a]) s):wpAny (model X.prog X.w) A (getMethod (.ref a) m pl) Q E s:=by
 obtain⟨d7,O,r,_,_,_⟩:=we I.bM e
 have aR:d7 m=none:=i1.none_of (by rw[←l];exact r m)
 exact VF I.gW O (c.get m) k.at_ k.fn aR h
theorem IX {y:V}{u:Value}{Q:Unit→Shared→Prop}(I:Inv X pins σ H s) (e:H a=some (.ins C dx bQ)) (c:lH X.K C) (n:jC X.K C f) (aC:bQ.length<1000) (bO:RelV y u)
  (h:∀aI,Inv X pins σ (upd H a (.ins C dx (d9 f y bQ))) aI→Q () aI):wpAny (model X.prog X.w) A (setAttr (.ref a) f u) Q E s:=by
 obtain⟨d7,O,r,fM,_,aD⟩:=we I.bM e
 have hz:(bQ.map (·.1)).length≤sizeLine:=by rw[length_map,sizeLine_eq];omega
 refine VT I.gW O c.qj c.po n.dT c.hd fM hz fun h' HQ jM=>h _ ?_
 have hd:∃o,h'.get? dx=some o:=let ⟨o,_,_,cF,_⟩:=HQ.ns;⟨o,cF⟩
 refine I.write (x:=a) (e:=dx) (by rw[e];exact True.intro) (.inr aD) (fun b q aa z=>(jM.2 b aa).trans z) hd ?_
 refine⟨by rw[aB O.ne];exact aD,?_,O.ne,HQ.obj,_,HQ.ns,fun g=>?_,fun g cO=>?_⟩
 ·have:=IJ f y bQ;omega
 ·show i1 ((d9 f y bQ).lookup g) (if g=f then some u else d7 g)
  rw[rU]
  by_cases q:g=f
  ·rw[if_pos q,if_pos q];exact bO
  ·rw[if_neg q,if_neg q];exact r g
 ·by_cases q:g=f
  ·rw[q];exact (Cu f y bQ).1
  ·refine (Cu f y bQ).2 g (fM g fun z=>cO ?_)
   show (if g=f then some u else d7 g)=none
   rw[if_neg q];exact z
theorem Inv.made (I:Inv X pins σ H s):Inv X pins σ (upd (upd H s.heap.objs.size (.own (s.heap.objs.size+1))) (s.heap.objs.size+1) (.ins C s.heap.objs.size []))
  { s with heap:=(s.heap.push emptyDict).push (instObj C s.heap.objs.size) }:=by
 have aG:(s.heap.push emptyDict).get? s.heap.objs.size=some emptyDict:=get?_push_size s.heap rfl
 have aL:((s.heap.push emptyDict).push (instObj C s.heap.objs.size)).get? (s.heap.objs.size+1)=some (instObj C s.heap.objs.size):=by
  have:=get?_push_size (s.heap.push emptyDict) (o:=instObj C s.heap.objs.size) rfl
  rwa [size_push]at this
 have bH:(s.heap.push emptyDict).Ns s.heap.objs.size (fun _=>none):=⟨emptyDict, #[],_,aG,rfl,(fun e he=>absurd he (by simp)),fun _=>rfl⟩
 have a_:=I.laid (a:=s.heap.objs.size) (o:=.own (s.heap.objs.size+1)) (h':=s.heap.push emptyDict) (t':=s.toks) (fun b u q=>get?_push_of_some _ q) (le_refl _) ⟨_,aG⟩
 refine a_.laid (a:=s.heap.objs.size+1) (o:=.ins C s.heap.objs.size []) (t':=s.toks) (fun b u q=>get?_push_of_some _ q) (le_of_eq (size_push _ _)) ?_
 have ne:s.heap.objs.size≠s.heap.objs.size+1:=ne_of_lt (Nat.lt_succ_self _)
 refine⟨by rw[aB ne,aV],zero_le _,ne,aL,fun _=>none,(Heap.Ns1.of_empty bH).at fun o q=>get?_push_of_some _ q,fun _=>True.intro,fun y b6=>absurd rfl b6⟩
theorem Ww {prog:Program}{w:World}{env:Env}{e:Expr}{f:Str}{pos:Pos}{s:Shared}{Q:Value→Shared→Prop}(aa:attributeBase e f env (eval e env)=eval e env)
  (h:wpAny (model prog w) A (eval e env) (fun o dw=>wpAny (model prog w) A (getAttr o f true) Q E dw) E s):wpAny (model prog w) A (eval (.Attribute e f pos) env) Q E s :=
 Attribute_any_ h (by rw[arm_eval_Attribute,aa])
end
def Ys (K:PySem.W.Frag) (dB:TE) (f:Str):TE:=fun σ H Q=>dB σ H fun x H1=>∃a C dx bQ v,x=.ref a∧H1 a=some (.ins C dx bQ)∧lH K C∧jC K C f∧bQ.lookup f=some v∧Q v H1
def YK (K:PySem.W.Frag) (dB jr:TE) (f:Str):fX:=fun D σ H=>jr σ H fun y H1=>dB σ H1 fun x av=>∃a C dx bQ,x=.ref a∧av a=some (.ins C dx bQ)∧lH K C∧jC K C f∧bQ.length<1000 ∧
 D.dk σ (upd av a (.ins C dx (d9 f y bQ)))
def EO (X:bI) (op:Operator) (i4:V→V→ao→cG→Prop):Prop :=
 ∀(pins:List (Addr × Obj)) (s:Shared) (σ:St) (H:ao) (x y:V) (u v:Value) (Q:cG),Inv X pins σ H s→RelV x u→RelV y v→i4 x y H Q→wpAny (model X.prog X.w) X.A (inplaceOp op u v) (hK X pins σ Q) X.dS s
def VY (K:PySem.W.Frag) (dB jr:TE) (i4:V→V→ao→cG→Prop) (f:Str):fX:=fun D σ H=>dB σ H fun x H1=>∃a C dx bQ v,x=.ref a∧H1 a=some (.ins C dx bQ)∧lH K C∧jC K C f∧bQ.lookup f=some v ∧
 jr σ H1 fun y av=>i4 v y av fun z aS=>∃Gj u6,aS a=some (.ins C Gj u6)∧u6.length<1000∧D.dk σ (upd aS a (.ins C Gj (d9 f z u6)))
section
variable {X:bI}{o e value:Expr}{f:Str}{pos pos' MI:Pos}{dB jr:TE}
theorem fb (he:b8 X e dB) (aa:attributeBase e f X.env (eval e X.env)=eval e X.env):b8 X (.Attribute e f pos) (Ys X.K dB f):=by
 intro pins s σ H Q I h
 refine Ww aa (bT (he pins s σ H _ I h) fun u s1 ⟨x,H1,a_,bN,a,C,dx,bQ,v,ex,aY,c,n,l,q⟩=>?_)
 subst ex
 obtain rfl:u=Value.ref a:=bN
 exact I6 a_ aY c n l fun o2 s2 cK eT=>⟨v,H1,cK,eT,q⟩
theorem nF (bo:b8 X o dB) (aX:b8 X value jr) (aJ:swapsWith value (some (.Attribute o f pos')) pos.line X.env=pure false):jV X (.Assign [.Attribute o f pos'] value pos) (YK X.K dB jr f):=by
 intro pins s σ H D I h
 refine plainObj_wpAny_Assign_Attribute (bT (aX pins s σ H _ I h) fun u s1 ⟨y,H1,a_,bO,q⟩=>bT (bo pins s1 σ H1 _ a_ q) fun b2 s2 ⟨x,av,cK,bN,a,C,dx,bQ,ex,aY,c,n,l,aW⟩=>?_) aJ
 subst ex
 obtain rfl:b2=Value.ref a:=bN
 exact IX cK aY c n l bO fun s3 cE=>⟨σ,_,cE,aW⟩
theorem zr {op:Operator}{i4:V→V→ao→cG→Prop}(bo:b8 X o dB) (aX:b8 X value jr) (nT:EO X op i4):jV X (.AugAssign (.Attribute o f MI) op value pos) (VY X.K dB jr i4 f):=by
 intro pins s σ H D I h
 refine wpAny_AugAssign_AttributeAny (bT (bo pins s σ H _ I h) fun b2 s1 ⟨x,H1,a_,bN,a,C,dx,bQ,v,ex,aY,c,n,l,q⟩=>?_)
 subst ex
 obtain rfl:b2=Value.ref a:=bN
 refine I6 a_ aY c n l fun u s2 cK eT=>bT (aX pins s2 σ H1 _ cK q) fun jq s3 ⟨y,av,cE,bO,fs⟩=>bT (nT pins s3 σ av v y u jq _ cE eT bO fs) fun tk s4 ⟨z,aS,jX,o4,Gj,u6,x5,fD,ju⟩=>?_
 exact IX jX x5 c n fD o4 fun s5 qA=>⟨σ,_,qA,ju⟩
def YS:V→V→ao→cG→Prop:=fun x y H Q=>∃i j,x=.int i∧y=.int j∧Q (.int (i+j)) H
def YN:V→V→ao→cG→Prop:=fun x y H Q=>∃i j,x=.int i∧y=.int j∧Q (.int (i - j)) H
theorem DS:EO X .Add YS:=by
 rintro pins s σ H x y u v Q I bN bO ⟨i,j,rfl,rfl,q⟩
 obtain⟨t,rfl⟩:=(show ∃t,u=Value.int i t from bN)
 obtain⟨t',rfl⟩:=(show ∃t',v=Value.int j t' from bO)
 exact PyProof.Rows.iadd_int ⟨.int (i+j),H,I.tok _,⟨_,rfl⟩,q⟩
theorem Xg:EO X .Sub YN:=by
 rintro pins s σ H x y u v Q I bN bO ⟨i,j,rfl,rfl,q⟩
 obtain⟨t,rfl⟩:=(show ∃t,u=Value.int i t from bN)
 obtain⟨t',rfl⟩:=(show ∃t',v=Value.int j t' from bO)
 exact PyProof.Rows.isub_int ⟨.int (i - j),H,I.tok _,⟨_,rfl⟩,q⟩
theorem ado {pl:Sem Bool}{m:Str}{apos:Pos}{args:List Expr}{pins:List (Addr × Obj)}{s:Shared}{σ:St}{H:ao}{Q:Value→Shared→Prop}{bY:TE}(he:b8 X e bY) (I:Inv X pins σ H s)
  (h:bY σ H fun x H1=>∃a C dx bQ g,x=.ref a∧H1 a=some (.ins C dx bQ)∧lH X.K C∧Meth X.K C m g∧bQ.lookup m=none ∧
   ∀s1,Inv X pins σ H1 s1→wpAny (model X.prog X.w) X.A (callWith pos (.ref g) [.ref a] (backTo pos (starEach args X.env)) (backToKw pos (keywordEach [] X.env))) Q X.dS s1)
  (bF:eval (.Call (.Attribute e m apos) args [] pos) X.env=(do
   let b2 ← eval e X.env
   standAt apos.atName
   let (f,first) ← holding [b2] (getMethod b2 m pl)
   callWith pos f first (backTo pos (starEach args X.env)) (backToKw pos (keywordEach [] X.env)))) :
  wpAny (model X.prog X.w) X.A (eval (.Call (.Attribute e m apos) args [] pos) X.env) Q X.dS s:=by
 refine PySem.W.methodCall_KW (pl:=pl) (bT (he pins s σ H _ I h) fun u s1 ⟨x,H1,a_,bN,a,C,dx,bQ,g,ex,aY,c,k,l,q⟩=>?_) bF
 subst ex
 obtain rfl:u=Value.ref a:=bN
 exact Ce a_ aY c k l (q s1 a_)
end
section
variable {X:bI}{pins:List (Addr × Obj)}{σ:St}{H:ao}{s:Shared}{A:Around}{E:Value→Shared→Prop}{Q:Value→Shared→Prop}{c:Value}{b:Bool}
inductive jG (K:PySem.W.Frag) (H:ao):V→Value→Prop where
 | cS:jG K H .cS (.type "NoneType")
 | b0 (x:Bool):jG K H (.b0 x) (.type "bool")
 | int (i:Int):jG K H (.int i) (.type "int")
 | str (x:Str):jG K H (.str x) (.type "str")
 | rp (x:UInt64):jG K H (.rp x) (.type "float")
 | lst {a:Addr} {xs:List V} (e:H a=some (.lst xs)):jG K H (.ref a) (.type "list")
 | jJ {a:Addr} {o:Obj} {xs:List V} (e:H a=some (.jJ o (.lst xs))):jG K H (.ref a) (.type "list")
 | tup {a:Addr} {xs:List V} (e:H a=some (.tup xs)):jG K H (.ref a) (.type "tuple")
 | bR {a:Addr} {kvs:List (Key × V)} (e:H a=some (.bR kvs)):jG K H (.ref a) (.type "dict")
 | gS {a:Addr} {kvs:List (List Key × V)} (e:H a=some (.gS kvs)):jG K H (.ref a) (.type "dict")
 | ins {a C dx:Addr} {bQ:List (Str × V)} (e:H a=some (.ins C dx bQ)) (cl:lH K C) (bo:findIn K (.ref C) "__class__"=some (some (.builtin "object.__class__")))
   (aR:PySem.W.specialIn K (.builtin "object.__class__") "__get__"=some (some (.builtin "getset_descriptor.__get__"))) (j9:PySem.W.takesIn K (.builtin "object.__class__")=some true)
   (hm:PySem.W.mroIn K C (.type "object")=some true):jG K H (.ref a) (.ref C)
theorem Uv {x:V}{u t:Value}(I:Inv X pins σ H s) (bN:RelV x u) (ty:jG X.K H x t) (e:kitOne X.K t c=some b) (h:∀bB,Q (.bool b) { s with toks:=bB }) :
  wpAny (model X.prog X.w) A (call (.builtin "isinstance") [u,c]) Q E s:=by
 cases ty with
 | cS=>cases (show u=Value.none from bN);exact kia_one PySem.W.kitx_none I.gW True.intro e (fun z=>nomatch z) h
 | b0 y=>cases (show u=Value.bool y from bN);exact kia_one PySem.W.kitx_bool I.gW True.intro e (fun z=>nomatch z) h
 | int i=>obtain⟨t,q⟩:=(show ∃t,u=Value.int i t from bN);cases q;exact kia_one PySem.W.kitx_int I.gW True.intro e (fun z=>nomatch z) h
 | str y=>obtain⟨t,q⟩:=(show ∃t,u=Value.str y t from bN);cases q;exact kia_one PySem.W.kitx_str I.gW True.intro e (fun z=>nomatch z) h
 | rp y=>obtain⟨t,q⟩:=(show ∃t,u=Value.float y t from bN);cases q;exact kia_one PySem.W.kitx_float I.gW True.intro e (fun z=>nomatch z) h
 | @lst a xs aY =>
  cases (show u=Value.ref a from bN)
  obtain⟨_,_,n,_,aj⟩:=(show fR X.prog X.w H s.heap a (.lst xs) from I.bM a _ aY)
  exact kia_one PySem.W.kitx_list I.gW ⟨_,aj,rfl⟩ e (fun z=>nomatch z) h
 | @jJ a b1 xs aY =>
  cases (show u=Value.ref a from bN)
  obtain⟨_,_,_,n,_,aj⟩:=(show fR X.prog X.w H s.heap a (.jJ b1 (.lst xs)) from I.bM a _ aY)
  exact kia_one PySem.W.kitx_list I.gW ⟨_,aj,rfl⟩ e (fun z=>nomatch z) h
 | @tup a xs aY =>
  cases (show u=Value.ref a from bN)
  obtain⟨_,_,_,p⟩:=(show fR X.prog X.w H s.heap a (.tup xs) from I.bM a _ aY)
  obtain⟨o,aj,az,_⟩:=p
  exact kia_one PySem.W.kitx_tuple I.gW ⟨o,aj,az⟩ e (fun z=>nomatch z) h
 | @bR a kvs aY =>
  cases (show u=Value.ref a from bN)
  obtain⟨_,_,vs,_,p⟩:=(show fR X.prog X.w H s.heap a (.bR kvs) from I.bM a _ aY)
  obtain⟨o,aA,cu,aj,az,_⟩:=p
  exact kia_one PySem.W.kitx_dict I.gW ⟨o,aj,az.1⟩ e (fun z=>nomatch z) h
 | @gS a kvs aY =>
  cases (show u=Value.ref a from bN)
  obtain⟨_,_,xs,_,o,aA,cu,aj,az,_⟩:=(show fR X.prog X.w H s.heap a (.gS kvs) from I.bM a _ aY)
  exact kia_one PySem.W.kitx_dict I.gW ⟨o,aj,az.1⟩ e (fun z=>nomatch z) h
 | @ins a C dx bQ aY cl bo aR j9 hm =>
  cases (show u=Value.ref a from bN)
  obtain⟨d7,O,_⟩:=we I.bM aY
  obtain⟨fj,J,_⟩:=O.look
  exact kia_one (PySem.W.kitx_own (cl.get _) cl.hd bo aR j9 hm) I.gW J e (fun z=>nomatch z) h
end
structure gJ (k:Nat) (A:Around):Prop where
 hd:A.handled=none
 vB:A.depth+3 * k+5<recursionLimit
 un:A.units+16 * k+200<cLine
theorem gJ.mono {j k:Nat}{A:Around}(r:gJ k A) (h:j≤k):gJ j A:=⟨r.hd,by have:=r.vB;omega,by have:=r.un;omega⟩
theorem gJ.deeper {k:Nat}{A:Around}(r:gJ (k+1) A) (env:Env):gJ k (A.deeper env) :=
 ⟨r.hd,by have:=r.vB;show A.depth+1+3 * k+5<_;omega,by have:=r.un;show A.units+3+16 * k+200<_;omega⟩
theorem TM {A:Around}{C:Addr}{us:List Value}{kw:List (Str × Value)}:(A.under (.builtin "type.__call__" ⟨.ref C::us,kw⟩)).depth=A.depth+1:=by
 first | rfl | simp[Around.under,Code.weight,Code.isCreation,Code.isGuard,Code.isCaller,Code.frames,Code.isFrame,guardIds]
theorem TL {A:Around}{C:Addr}{us:List Value}{kw:List (Str × Value)}:(A.under (.builtin "type.__call__" ⟨.ref C::us,kw⟩)).units=A.units+1:=by
 first | rfl | simp[Around.under,Code.cUnits,Code.frames,Code.isFrame]
theorem gJ.make {k:Nat}{A:Around}(r:gJ (k+1) A) (C:Addr) (us:List Value) (kw:List (Str × Value)):gJ k (A.under (.builtin "type.__call__" ⟨.ref C::us,kw⟩)) :=
 ⟨r.hd,by have:=r.vB;rw[TM];omega,by have:=r.un;rw[TL];omega⟩
theorem gJ.depth {k:Nat}{A:Around}(r:gJ k A):A.depth<recursionLimit:=by have:=r.vB;omega
theorem gJ.units {k:Nat}{A:Around}(r:gJ k A):A.units+64<cLine:=by have:=r.un;omega
def MK:iV:=fun _ H Q=>Q [] H
def XC (dB:TE) (G5:iV):iV:=fun σ H Q=>dB σ H fun x H1=>G5 σ H1 fun xs av=>Q (x::xs) av
section
variable {X:bI}{e:Expr}{aA:List Expr}{bY:TE}{t:iV}{pos:Pos}
theorem aN:mD X [] MK:=fun _ _ _ _ H Q I h=>Calls.spliced_nil ⟨[],H,I,.nil,h⟩
theorem au (bo:b8 X e bY) (aE:mD X aA t) (aJ:starEach (e::aA) X.env=(false,eval e X.env)::starEach aA X.env:=by rfl):mD X (e::aA) (XC bY t):=by
 intro pos pins s σ H Q I h
 rw[aJ]
 show wpAny _ _ (spliced ((false,eval e X.env)::backTo pos (starEach aA X.env))) _ _ s
 refine Calls.spliced_cons (bT (bo pins s σ H _ I h) fun u s1 ⟨x,H1,a_,bE,bu⟩=>?_)
 exact bT (aE pos pins s1 σ H1 _ a_ bu) fun us s2 ⟨xs,av,cK,b4,aW⟩=>⟨x::xs,av,cK,.cons bE b4,aW⟩
def Yk (t:iV):TE:=fun σ H Q=>t σ H fun xs H1=>xs.length≤sizeLine∧∀p,H1 p=none→Q (.ref p) (upd H1 p (.tup xs))
def Yo (t:iV):TE:=fun σ H Q=>t σ H fun xs H1=>xs.length≤sizeLine∧∀p,H1 p=none→Q (.ref p) (upd H1 p (.lst xs))
theorem gH {x1} (h:mD X aA t):b8 X (.Tuple aA x1 pos) (Yk t):=by
 intro pins s σ H Q I bk
 refine wpAny_Tuple_spliced (bT (h pos pins s σ H _ I bk) fun us s1 ⟨xs,H1,a_,r,z,q⟩=>⟨by rw[←r.length];exact z,?_⟩)
 have hf:H1 s1.heap.objs.size=none:=a_.bM.fresh (le_refl _)
 refine⟨.ref s1.heap.objs.size,upd H1 s1.heap.objs.size (.tup xs),a_.laid (t':=s1.toks) (fun b u e=>get?_push_of_some _ e) (le_refl _) ?_,rfl,q _ hf⟩
 exact⟨z,us,r,⟨_,get?_push_size _ rfl,rfl,_,rfl⟩⟩
theorem fx (h:mD X aA t):b8 X (.List aA pos) (Yo t):=by
 intro pins s σ H Q I bk
 refine wpAny_List_spliced (bT (h pos pins s σ H _ I bk) fun us s1 ⟨xs,H1,a_,r,z,q⟩=>⟨by rw[←r.length];exact z,?_⟩)
 have hf:H1 s1.heap.objs.size=none:=a_.bM.fresh (le_refl _)
 refine⟨.ref s1.heap.objs.size,upd H1 s1.heap.objs.size (.lst xs),a_.laid (t':=s1.toks) (fun b u e=>get?_push_of_some _ e) (le_refl _) ?_,rfl,q _ hf⟩
 exact⟨z,us,0,r,get?_push_size _ rfl⟩
end
abbrev dn:=List V→ao→cG→hB→Prop
abbrev m_:=List Env→ao→Shared→hB→Value→Shared→Prop
structure sL (P:Program) (w:World) (K:PySem.W.Frag) (mg:Str→Option Value) (base:Heap) (A:Around) (outer:List Env) (s:Shared) (H:ao):Prop where
 frames:A.frames=some outer
 mod:Mod K mg base
 bs:∀b o,base.get? b=some o→s.heap.get? b=some o∧H b=none
 lG:base.objs.size≤s.heap.objs.size
 j7:s.heap.FunFrames base outer
 nZ:∀b∈gY outer,H b=none
 bM:fm P w H s.heap
 bare:AllBare s.gens
def H4 (outer:List Env) (P:Program) (w:World) (H:ao) (s:Shared) (Q:cG) (u:Value) (aI:Shared):Prop :=
 ∃v af,aI.os=s.os∧AllBare aI.gens∧hC (gY outer) [] H af s.heap aI.heap∧fm P w af aI.heap∧RelV v u∧Q v af
def cV (fp:m_) (outer:List Env) (P:Program) (w:World) (H:ao) (s:Shared) (Q:cG) (E:hB) (r:Result) (aI:Shared):Prop :=
 match r with
 | .ok (.ret u)=>H4 outer P w H s Q u aI
 | .ok _=>False
 | .error e=>fp outer H s E e aI
structure bp (P:Program) (w:World) (K:PySem.W.Frag) (mg:Str→Option Value) (base:Heap) (fp:m_) (k:Nat) (f:Addr) (fd:FuncData) (ps:List Str) (sp:dn):Prop where
 len:∀vs H Q E,sp vs H Q E→vs.length=ps.length
 run:∀(A:Around) (outer:List Env) (s:Shared) (H:ao) (args:Args) (us:List Value) (vs:List V) (Q:cG) (E:hB),gJ k A→sL P w K mg base A outer s H→BindsTo s fd args (ps.zip us)→Vals vs us→sp vs H Q E →
  codeAny (model P w) A (.call (.ref f) args) (cV fp outer P w H s Q E) s
theorem sL.make {P:Program}{w:World}{K:PySem.W.Frag}{mg:Str→Option Value}{base:Heap}{A:Around}{outer:List Env}{s:Shared}{H:ao}(e:sL P w K mg base A outer s H) (C:Addr) (us:List Value) (kw:List (Str × Value)) :
  sL P w K mg base (A.under (.builtin "type.__call__" ⟨.ref C::us,kw⟩)) outer s H:=⟨by first | exact e.frames | (simpa[Around.under,Code.envs,Code.isFrame,pushEnvs] using e.frames),e.mod,e.bs,e.lG,e.j7,e.nZ,e.bM,e.bare⟩
section
variable {X:bI}{pins:List (Addr × Obj)}{σ:St}{H:ao}{s aI:Shared}
theorem Inv.Nv (I:Inv X pins σ H s):sL X.prog X.w X.K X.mg X.base X.A X.stack s H :=
 ⟨I.ok.frames,I.ok.mod,I.bs,le_trans I.ok.lG I.ef,I.stack,I.v9,I.bM,I.bare⟩
theorem Inv.after {Q:cG}{u:Value}(I:Inv X pins σ H s) (h:H4 X.stack X.prog X.w H s Q u aI):hK X pins σ Q u aI:=by
 obtain⟨v,af,os,bare,un,bM,r,q⟩:=h
 obtain⟨c5,g,d,t,os'⟩:=aI
 obtain rfl:os'=s.os:=os
 exact⟨v,af,I.call (h':=c5) (g':=g) (d':=d) (t':=t) (ch:=[]) un bM bare (fun b z=>absurd z (by simp)),r,q⟩
end
def XD (sp:dn) (iC:List V) (E:hB) (t:iV):TE:=fun σ H Q=>t σ H fun vs H1=>sp (vs++iC) H1 Q E
def L_ (C:Addr) (m:Str) (sp:dn) (iC:List V) (E:hB) (dB:TE) (t:iV):TE:=fun σ H Q=>dB σ H fun x H1=>∃a dx bQ,x=.ref a∧H1 a=some (.ins C dx bQ)∧bQ.lookup m=none ∧
 t σ H1 fun vs av=>sp (x::(vs++iC)) av Q E
def Xx (C:Addr) (sp:dn) (iC:List V) (E:hB) (t:iV):TE:=fun σ H Q=>t σ H fun vs H1=>∀x dx,H1 x=none→H1 dx=none→dx≠x →
 sp (.ref x::(vs++iC)) (upd (upd H1 dx (.own x)) x (.ins C dx [])) (fun v av=>v=.cS∧Q (.ref x) av) E
def Binds (K:PySem.W.Frag) (fd:FuncData) (ps:List Str) (ds:List Value):Prop :=
 ∀(s:Shared) (us:List Value),K.In s.heap→(us++ds).length=ps.length→BindsTo s fd ⟨us,[]⟩ (ps.zip (us++ds))
theorem Binds.all {K:PySem.W.Frag}{fd:FuncData}{ps:List Str}(h:∀us:List Value,us.length=ps.length→bindArgs fd ⟨us,[]⟩=pure (ps.zip us)):Binds K fd ps []:=fun s us _ aC=>by
 rw[append_nil]at aC ⊢
 exact .of_eq (h us aC)
def Passes (fp:m_) (X:bI) (E:hB):Prop:=∀(pins:List (Addr × Obj)) (σ:St) (H:ao) (s:Shared) (e:Value) (aI:Shared),Inv X pins σ H s→fp X.stack H s E e aI→X.dS e aI
section
variable {X:bI}{fp:m_}{k:Nat}{f C:Addr}{fd:FuncData}{ps:List Str}{sp:dn}{iC:List V}{ds:List Value}{E:hB}{x m:Str}{p pos apos:Pos}{e o:Expr}{aA:List Expr}{dB:TE}{t:iV}
theorem DL {pins:List (Addr × Obj)}{σ:St}{H:ao}{s:Shared}{Q:cG}{us:List Value}{vs:List V}(F:bp X.prog X.w X.K X.mg X.base fp k f fd ps sp) (aE:gJ k X.A) (aa:Binds X.K fd ps ds) (hd:Vals iC ds) (bh:Passes fp X E)
  (I:Inv X pins σ H s) (r:Vals vs us) (h:sp (vs++iC) H Q E):wpAny (model X.prog X.w) X.A (call (.ref f) us) (hK X pins σ Q) X.dS s:=by
 have b4:Vals (vs++iC) (us++ds):=r.append hd
 have aC:(us++ds).length=ps.length:=by rw[←b4.length];exact F.len _ _ _ _ h
 refine wpAny_call (codeAny_mono (F.run X.A X.stack s H ⟨us,[]⟩ (us++ds) (vs++iC) Q E aE I.Nv (aa s us I.gW aC) b4 h) fun r aI bk=>?_)
 cases r with
 | error e=>exact bh pins σ H s e aI I bk
 | ok gv =>
  cases gv with
  | ret u=>exact I.after bk
  | next=>exact False.elim bk
  | brk=>exact False.elim bk
  | cont=>exact False.elim bk
theorem dE (F:bp X.prog X.w X.K X.mg X.base fp k f fd ps sp) (aE:gJ k X.A) (cO:lX X x) (hm:X.mg x=some (.ref f)) (aQ:keepIn X.K (.ref f)=true) (aa:Binds X.K fd ps ds) (hd:Vals iC ds) (bh:Passes fp X E)
  (bo:mD X (e::aA) t) (sZ:(x == ("__debug__":Str))=false:=by decide) (he:starEach (e::aA) X.env=(false,eval e X.env)::starEach aA X.env:=by rfl) (ig:(backTo pos (starEach aA X.env)).any (·.1)=false:=by rfl) :
  b8 X (.Call (.Name x p) (e::aA) [] pos) (XD sp iC E t):=by
 intro pins s σ H Q I h
 refine wpAny_Call_Name_kw (zN I cO hm ?_ sZ)
 refine PySem.W.callWith_K (h₀:=X.base) I.ok.mod.uW aQ (bT (bo pos pins s σ H _ I h) fun us s1 ⟨vs,H1,a_,r,q⟩=>⟨a_.gW,?_⟩) he ig
 exact DL F aE aa hd bh a_ r q
theorem g_ {pl:Sem Bool}(he:b8 X o dB) (c:lH X.K C) (hm:Meth X.K C m f) (F:bp X.prog X.w X.K X.mg X.base fp k f fd ps sp) (aE:gJ k X.A) (aa:Binds X.K fd ps ds) (hd:Vals iC ds) (bh:Passes fp X E) (bo:mD X (e::aA) t)
  (i3:starEach (e::aA) X.env=(false,eval e X.env)::starEach aA X.env:=by rfl) (ig:(backTo pos (starEach aA X.env)).any (·.1)=false:=by rfl)
  (bF:eval (.Call (.Attribute o m apos) (e::aA) [] pos) X.env=(do
   let b2 ← eval o X.env
   standAt apos.atName
   let (f,first) ← holding [b2] (getMethod b2 m pl)
   callWith pos f first (backTo pos (starEach (e::aA) X.env)) (backToKw pos (keywordEach [] X.env))):=by rfl) :
  b8 X (.Call (.Attribute o m apos) (e::aA) [] pos) (L_ C m sp iC E dB t):=by
 intro pins s σ H Q I h
 refine PySem.W.methodCall_KW (pl:=pl) (bT (he pins s σ H _ I h) fun u s1 ⟨x,H1,a_,bN,a,dx,bQ,ex,aY,l,q⟩=>?_) bF
 subst ex
 obtain rfl:u=Value.ref a:=bN
 refine Ce a_ aY c hm l ?_
 refine PySem.W.callWith_K (first:=[.ref a]) (h₀:=X.base) I.ok.mod.uW hm.bw (bT (bo pos pins s1 σ H1 _ a_ q) fun us s2 ⟨vs,av,cK,r,aW⟩=>⟨cK.gW,?_⟩) i3 ig
 exact DL (us:=.ref a::us) (vs:=.ref a::vs) F aE aa hd bh cK (.cons rfl r) aW
theorem zE {pl:Sem Bool}(he:b8 X o dB) (c:lH X.K C) (hm:Meth X.K C m f) (F:bp X.prog X.w X.K X.mg X.base fp k f fd ps sp) (aE:gJ k X.A) (aa:Binds X.K fd ps ds) (hd:Vals iC ds) (bh:Passes fp X E)
  (bF:eval (.Call (.Attribute o m apos) [] [] pos) X.env=(do
   let b2 ← eval o X.env
   standAt apos.atName
   let (f,first) ← holding [b2] (getMethod b2 m pl)
   callWith pos f first (backTo pos (starEach [] X.env)) (backToKw pos (keywordEach [] X.env))):=by rfl) :
  b8 X (.Call (.Attribute o m apos) [] [] pos) (L_ C m sp iC E dB MK):=by
 intro pins s σ H Q I h
 refine PySem.W.methodCall_KW (pl:=pl) (bT (he pins s σ H _ I h) fun u s1 ⟨x,H1,a_,bN,a,dx,bQ,ex,aY,l,q⟩=>?_) bF
 subst ex
 obtain rfl:u=Value.ref a:=bN
 refine Ce a_ aY c hm l ?_
 exact PySem.W.callWith_K0 (first:=[.ref a]) a_.gW hm.bw (DL (us:=[.ref a]) (vs:=[.ref a]) F aE aa hd bh a_ (.cons rfl .nil) q)
structure tQ (K:PySem.W.Frag) (C f:Addr):Prop where
 makes:PySem.W.makesIn K C=true
 init:findIn K (.ref C) "__init__"=some (some (.ref f))
 fn:PySem.W.isFn K (.ref f)=true
 bw:keepIn K (.ref C)=true
theorem UW {pins:List (Addr × Obj)}{σ:St}{H:ao}{s:Shared}{Q:cG}{us:List Value}{vs:List V}(M:tQ X.K C f) (F:bp X.prog X.w X.K X.mg X.base fp k f fd ps sp) (aE:gJ (k+1) X.A) (aa:Binds X.K fd ps ds) (hd:Vals iC ds)
  (bh:Passes fp X E) (I:Inv X pins σ H s) (r:Vals vs us)
  (h:∀x dx,H x=none→H dx=none→dx≠x→sp (.ref x::(vs++iC)) (upd (upd H dx (.own x)) x (.ins C dx [])) (fun v av=>v=.cS∧Q (.ref x) av) E) :
  wpAny (model X.prog X.w) X.A (call (.ref C) us) (hK X pins σ Q) X.dS s:=by
 have bk:=h (s.heap.objs.size+1) s.heap.objs.size (I.bM.fresh (le_succ _)) (I.bM.fresh (le_refl _)) (ne_of_lt (Nat.lt_succ_self _))
 have cK:=Inv.made (C:=C) I
 have b4:Vals (V.ref (s.heap.objs.size+1)::(vs++iC)) (Value.ref (s.heap.objs.size+1)::(us++ds)):=.cons rfl (r.append hd)
 have aC:(Value.ref (s.heap.objs.size+1)::us++ds).length=ps.length:=by
  have e:=b4.length
  rw[F.len _ _ _ _ bk]at e
  exact e.symm
 refine wpAny_call (Vy (f:=f) I.gW M.makes M.init (beq_iff_eq.mp M.fn) (codeAny_mono (F.run _ X.stack _ _ ⟨Value.ref (s.heap.objs.size+1)::us,[]⟩ (Value.ref (s.heap.objs.size+1)::(us++ds)) _ _ E (aE.make C us [])
  (cK.Nv.make C us []) (aa _ (Value.ref (s.heap.objs.size+1)::us) cK.gW aC) b4 bk) fun r aI xJ=>?_))
 cases r with
 | error e=>exact bh pins σ _ _ e aI cK xJ
 | ok gv =>
  cases gv with
  | ret u =>
   obtain⟨v,af,cE,bX,ev,fs⟩:=cK.after xJ
   subst ev
   exact⟨bX,⟨V.ref (s.heap.objs.size+1),af,cE,rfl,fs⟩⟩
  | next=>exact False.elim xJ
  | brk=>exact False.elim xJ
  | cont=>exact False.elim xJ
theorem C8 (M:tQ X.K C f) (F:bp X.prog X.w X.K X.mg X.base fp k f fd ps sp) (aE:gJ (k+1) X.A) (cO:lX X x) (hm:X.mg x=some (.ref C)) (aa:Binds X.K fd ps ds) (hd:Vals iC ds) (bh:Passes fp X E)
  (bo:mD X (e::aA) t) (sZ:(x == ("__debug__":Str))=false:=by decide) (he:starEach (e::aA) X.env=(false,eval e X.env)::starEach aA X.env:=by rfl) (ig:(backTo pos (starEach aA X.env)).any (·.1)=false:=by rfl) :
  b8 X (.Call (.Name x p) (e::aA) [] pos) (Xx C sp iC E t):=by
 intro pins s σ H Q I h
 refine wpAny_Call_Name_kw (zN I cO hm ?_ sZ)
 refine PySem.W.callWith_K (h₀:=X.base) I.ok.mod.uW M.bw (bT (bo pos pins s σ H _ I h) fun us s1 ⟨vs,H1,a_,r,q⟩=>⟨a_.gW,?_⟩) he ig
 exact UW M F aE aa hd bh a_ r q
end
section
variable {X:bI}{fp:m_}{k:Nat}{f C:Addr}{fd:FuncData}{ps aU:List Str}{sp:dn}{E:hB}{x m:Str}{p pos apos ady:Pos}{e o:Expr}{aA:List Expr}{adY:List Keyword}{bY dB:TE}{t bB:iV}{nm:Option Str}
structure adt (K:PySem.W.Frag) (fd:FuncData) (ps aU:List Str) (g:List Value→List Value→List Value) (R_:List V→List V→List V):Prop where
 to:∀(s:Shared) (us ws:List Value),K.In s.heap→(g us ws).length=ps.length→BindsTo s fd ⟨us,aU.zip ws⟩ (ps.zip (g us ws))
 rel:∀{vs:List V} {us:List Value} {zs:List V} {ws:List Value},Vals vs us→Vals zs ws→Vals (R_ vs zs) (g us ws)
variable {g:List Value→List Value→List Value}{R_:List V→List V→List V}
end
structure dP (N P:List Str) (sc:Scope):Prop where
 kind:sc.kind=.function
 co:sc.isCoroutine=false
 gen:sc.isGenerator=false
 a3:N.Nodup
 pre:N.take P.length=P
 par:∀x∈P,sc.names.lookup x=some .local∨sc.names.lookup x=some .cell
 W7:∀y∈sc.names,y.2≠.free
theorem JT {kindOf:Str→Option NameKind}{x:Str}:∀{binds:List (Str × Value)}{m:Str→Option Value},(∀v,(x,v)∉binds)→bindL kindOf binds m x=m x
 | [],_,_=>rfl
 | (n,v)::r,m,h=>by
  unfold bindL
  rw[JT fun w hw=>h w (mem_cons_of_mem _ hw)]
  split
  ·have:x≠n:=by rintro rfl;exact h v mem_cons_self
   simp[this]
  ·rfl
theorem JV {kindOf:Str→Option NameKind}{x:Str}:∀{binds:List (Str × Value)}{m:Str→Option Value},(∀v,(x,v)∉binds)→bindC kindOf binds m x=m x
 | [],_,_=>rfl
 | (n,v)::r,m,h=>by
  unfold bindC
  rw[JV fun w hw=>h w (mem_cons_of_mem _ hw)]
  split
  ·rfl
  ·have:x≠n:=by rintro rfl;exact h v mem_cons_self
   simp[this]
theorem JU {kindOf:Str→Option NameKind}{x:Str}{v:Value}:∀{P:List Str}{vs:List Value}{i:Nat}{m:Str→Option Value},P.Nodup→P[i]?=some x→vs[i]?=some v→kindOf x=some .local →
  bindL kindOf (P.zip vs) m x=some v
 | [],_,_,_,_,h,_,_=>by simp at h
 | _::_,[],_,_,_,_,h,_=>by simp at h
 | p::P,w::vs,0,m,a3,aj,az,aQ=>by
  simp at aj az;subst aj;subst az
  show bindL kindOf ((p,w)::P.zip vs) m p=_
  unfold bindL
  rw[JT fun v aX=>(nodup_cons.mp a3).1 (of_mem_zip aX).1,if_pos aQ]
  simp
 | p::P,w::vs,i+1,m,a3,aj,az,aQ=>by
  show bindL kindOf ((p,w)::P.zip vs) m x=_
  unfold bindL
  exact JU (i:=i) (nodup_cons.mp a3).2 (by simpa using aj) (by simpa using az) aQ
theorem JW {kindOf:Str→Option NameKind}{x:Str}{v:Value}:∀{P:List Str}{vs:List Value}{i:Nat}{m:Str→Option Value},P.Nodup→P[i]?=some x→vs[i]?=some v→kindOf x≠some .local →
  bindC kindOf (P.zip vs) m x=some v
 | [],_,_,_,_,h,_,_=>by simp at h
 | _::_,[],_,_,_,_,h,_=>by simp at h
 | p::P,w::vs,0,m,a3,aj,az,aQ=>by
  simp at aj az;subst aj;subst az
  show bindC kindOf ((p,w)::P.zip vs) m p=_
  unfold bindC
  rw[JV fun v aX=>(nodup_cons.mp a3).1 (of_mem_zip aX).1,if_neg aQ]
  simp
 | p::P,w::vs,i+1,m,a3,aj,az,aQ=>by
  show bindC kindOf ((p,w)::P.zip vs) m x=_
  unfold bindC
  exact JW (i:=i) (nodup_cons.mp a3).2 (by simpa using aj) (by simpa using az) aQ
def start (N:List Str) (vs:List V):St:=vs.map some++List.replicate (N.length - vs.length) none
def f7 (fp:m_) (P:Program) (w:World) (K:PySem.W.Frag) (mg:Str→Option Value) (base:Heap) (N:List Str) (qual:Str) (scope:Scope) (f:Addr) (cd:Value) (A:Around) (outer:List Env) (s:Shared) (H:ao) (E:hB):bI where
 prog:=P
 w:=w
 K:=K
 mg:=mg
 base:=base
 A:=A.deeper (envOfC qual scope s.heap.objs.size f cd)
 N:=N
 fT:=s
 y1:=H
 env:=envOfC qual scope s.heap.objs.size f cd
 outer:=outer
 stack:=envOfC qual scope s.heap.objs.size f cd::outer
 ex:=[]
 calm:=true
 fn:=fun _=>true
 bL:=[]
 dS:=fun e aI=>wpAny (model P w) (A.deeper (envOfC qual scope s.heap.objs.size f cd)) (leaving (envOfC qual scope s.heap.objs.size f cd) e) (fun _ p6=>fp outer H s E e p6) (fun cF p6=>fp outer H s E cF p6) aI
theorem KA {sc:Scope}{n:Nat}{x:Str}(h:sc.names.lookup x=some .cell):∃c,(cellsFrom n sc.names []).lookup x=some c:=by
 have q:=PySem.W.cellsFrom_some sc.names n [] (.inl h)
 exact Option.isSome_iff_exists.mp q
theorem Ux {fp:m_}{P:Program}{w:World}{K:PySem.W.Frag}{mg:Str→Option Value}{base:Heap}{N ps:List Str}{qual:Str}{scope:Scope}{f:Addr}{cd:Value}{A:Around}{outer:List Env}{s s1:Shared}{H:ao}{E:hB}{us:List Value}{vs:List V}
  (S:dP N ps scope) (hd:A.handled=none) (e0:sL P w K mg base A outer s H) (aC:vs.length=ps.length) (r:Vals vs us)
  (x:InCallC s s.heap.objs.size (bindL (envOfC qual scope s.heap.objs.size f cd).kindOf (ps.zip us) fun _=>none) (cellsFrom (s.heap.objs.size+1) scope.names []) (bindC (envOfC qual scope s.heap.objs.size f cd).kindOf (ps.zip us) fun _=>none) s1) :
  Inv (f7 fp P w K mg base N qual scope f cd A outer s H E) [] (start N vs) H s1:=by
 have ig:ps.length≤N.length:=by have:=congrArg List.length S.pre;rw[length_take]at this;omega
 obtain⟨aj,bB,rfl,aQ⟩:=x.done
 have xu:∀b:Addr,b∉(f7 fp P w K mg base N qual scope f cd A outer s H E).ex:=fun b z=>absurd (show b∈([]:List Addr) from z) (by simp)
 refine⟨⟨e0.mod,S.kind,rfl,rfl,le_refl _,fun y z c aj az=>?_,fun y b6=>?_,fun y c _ h=>?_,fun _=>hd,Around.frames_deeper e0.frames,.inr ⟨rfl,rfl⟩,fun b z=>absurd z (xu b),e0.bs,e0.lG,fun b _ _=>xu b,fun b z=>absurd z (xu b),e0.j7,e0.nZ⟩,
  rfl,e0.bare,hC.kept aQ,⟨_,x.toInCall.ns,fun i y v aj az ck=>?_⟩,fun y c h=>⟨_,x.cell y c h⟩,e0.bM.fresh (le_refl _),fun y c h=>?_,fun p aF=>absurd (show p∈([]:List (Addr × Obj)) from aF) (by simp),e0.bM.kept aQ,?_⟩
 ·exact name_of_addr x.apart (PySem.mem_of_lookup aj) (PySem.mem_of_lookup az)
 ·have b6:scope.names.lookup y=some .cell∨scope.names.lookup y=some .free:=b6
  rcases b6 with b6 | b6
  ·exact KA b6
  ·exact absurd rfl (S.W7 _ (PySem.mem_of_lookup b6))
 ·exact le_of_lt (x.above y c (PySem.mem_of_lookup h))
 ·have aP:i<vs.length:=by
   unfold start at az
   by_cases aP:i<vs.length
   ·exact aP
   ·rw[getElem?_append_right (by simpa using aP)]at az
    rw[List.getElem?_replicate]at az
    split at az <;> cases az
  have bo:vs[i]?=some v:=by
   unfold start at az
   rw[getElem?_append_left (by simpa using aP),getElem?_map]at az
   cases e:vs[i]? with
   | none=>rw[e]at az;cases az
   | some a=>rw[e]at az;cases az;rfl
  obtain⟨u,bq,bX⟩:=r.get bo
  have aF:ps[i]?=some y:=by
   rw[←S.pre,List.getElem?_take_of_lt (by omega)];exact aj
  have N_:ps.Nodup:=by rw[←S.pre];exact S.a3.sublist (List.take_sublist _ _)
  refine⟨u,bX,?_⟩
  rcases S.par y (mem_of_getElem? aF) with k | k
  ·exact .inl ⟨k,JU N_ aF bq k⟩
  ·obtain⟨c,e⟩:=KA (n:=s.heap.objs.size+1) k
   refine .inr ⟨.inl k,c,e,?_⟩
   have q:=x.cell y c e
   rw[JW N_ aF bq (by show scope.names.lookup y≠_;rw[k];decide)]at q
   exact q
 ·exact e0.bM.fresh (le_of_lt (x.above y c (PySem.mem_of_lookup h)))
 ·unfold start
  show _=N.length
  rw[length_append,length_map,length_replicate]
  omega
theorem Mn {fp:m_}{P:Program}{w:World}{K:PySem.W.Frag}{mg:Str→Option Value}{base:Heap}{k:Nat}{f:Addr}{name qual:Str}{params:Arguments}{body:List Stmt}{scope:Scope}{BE eu doc pm cz fG nj:Value}{an fj:Option Addr}
  {p7:Array (Option Value)} {N ps:List Str} {sp:dn} (lk:K.lookup f=some ⟨nj,fj,.func (PySem.W.fnOf name qual params body scope BE eu doc pm an cz fG),p7⟩) (lD:PySem.W.codeIn K cz qual=true) (S:dP N ps scope)
  (len:∀vs H Q E,sp vs H Q E→vs.length=ps.length)
  (wH:∀(A:Around) (outer:List Env) (s:Shared) (H:ao) (vs:List V) (Q:cG) (E:hB),gJ k (A.deeper (envOfC qual scope s.heap.objs.size f cz))→sp vs H Q E →
   ∃t,hR (f7 fp P w K mg base N qual scope f cz A outer s H E) body t∧t { dk:=fun _ af=>Q .cS af,n_:=Q } (start N vs) H) :
  bp P w K mg base fp (k+1) f (PySem.W.fnOf name qual params body scope BE eu doc pm an cz fG) ps sp:=by
 refine⟨len,fun A outer s H args us vs Q E aE e0 aa r oR=>?_⟩
 have aC:=len _ _ _ _ oR
 have ov:K.In s.heap:=e0.mod.uW.keeps fun b o e=>(e0.bs b o e).1
 have lim:s.heap.NoLimit:=e0.mod.nolimit.keeps fun b o e=>(e0.bs b o e).1
 have pQ:∀y∈ps.zip us,scope.names.lookup y.1=some .local∨(scope.names.lookup y.1=some .cell∧((cellsFrom (s.heap.objs.size+1) scope.names []).lookup y.1).isSome=true):=fun ⟨n,v⟩ b6=>by
  rcases S.par n (of_mem_zip b6).1 with q | q
  ·exact .inl q
  ·exact .inr ⟨q,PySem.W.cellsFrom_some _ _ _ (.inl q)⟩
 refine codeAny_call_function aE.depth (ov _ _ lk) rfl S.co S.gen rfl (PySem.W.codeRec_of ov lD) (aa _ _ _ _ ?_)
 refine wpAny_newFunctionEnv_cells S.kind pQ fun env he s1 x=>?_
 subst he
 refine⟨lim.keeps x.toInCall.keep,codeAny_func ?_⟩
 obtain⟨t,bF,bk⟩:=wH A outer s H vs Q E (aE.deeper _) oR
 have I:Inv (f7 fp P w K mg base N qual scope f cz A outer s H E) [] (start N vs) H s1:=Ux S aE.hd e0 aC r x
 refine wpAny_mono (bF [] s1 (start N vs) H _ I bk) (fun gv aI aJ=>?_) fun e aI aJ=>aJ
 have fin:∀{bz:St} {af:ao} {v:V} {u:Value},Inv (f7 fp P w K mg base N qual scope f cz A outer s H E) [] bz af aI→RelV v u→Q v af→H4 outer P w H s Q u aI :=
  fun {bz af v u} J bX q=>⟨v,af,J.os,J.bare,J.base,J.bM,bX,q⟩
 cases gv with
 | ret u =>
  obtain⟨v,bz,af,J,bX,q⟩:=aJ
  exact fin J bX q
 | next =>
  obtain⟨bz,af,J,q⟩:=aJ
  exact fin (v:=V.cS) (u:=Value.none) J rfl q
 | brk =>
  obtain⟨_,_,_,q⟩:=aJ
  exact False.elim q
 | cont =>
  obtain⟨_,_,_,q⟩:=aJ
  exact False.elim q
section
variable {X:bI}{x:Str}{p pos:Pos}{e:Expr}{aA:List Expr}{t:iV}{id T:String}{r:List V→ao→cG→Prop}
def NS (r:List V→ao→cG→Prop) (t:iV):TE:=fun σ H Q=>t σ H fun vs H1=>r vs H1 Q
theorem es (ai:lr X (.builtin id) r) (cO:lX X x) (hm:X.mg x=none) (aX:bootBuiltins x=some (.builtin id)) (bo:mD X (e::aA) t) (aR:x≠"__name__":=by decide) (sZ:(x == ("__debug__":Str))=false:=by decide)
  (he:starEach (e::aA) X.env=(false,eval e X.env)::starEach aA X.env:=by rfl) (ig:(backTo pos (starEach aA X.env)).any (·.1)=false:=by rfl):b8 X (.Call (.Name x p) (e::aA) [] pos) (NS r t):=by
 intro pins s σ H Q I h
 refine wpAny_Call_Name_kw (qR I cO hm aX ?_ aR sZ)
 exact PyProof.Rows.callWith_builtin1 (bT (bo pos pins s σ H _ I h) fun us s1 ⟨vs,H1,a_,bE,bu⟩=>ai pins s1 σ H1 vs us Q a_ bE bu) he ig
theorem jd (ai:lr X (.type T) r) (cO:lX X x) (hm:X.mg x=none) (aX:bootBuiltins x=some (.type T)) (bo:mD X (e::aA) t) (aR:x≠"__name__":=by decide) (sZ:(x == ("__debug__":Str))=false:=by decide)
  (he:starEach (e::aA) X.env=(false,eval e X.env)::starEach aA X.env:=by rfl) (ig:(backTo pos (starEach aA X.env)).any (·.1)=false:=by rfl):b8 X (.Call (.Name x p) (e::aA) [] pos) (NS r t):=by
 intro pins s σ H Q I h
 refine wpAny_Call_Name_kw (qR I cO hm aX ?_ aR sZ)
 exact PyProof.Rows.callWith_type1 (bT (bo pos pins s σ H _ I h) fun us s1 ⟨vs,H1,a_,bE,bu⟩=>ai pins s1 σ H1 vs us Q a_ bE bu) he ig
end
end L2
namespace hp
open PySem PyProof.Rows
section
open PySem.SeqAt
open PySem.AutoSeq1 (wpAny_loadPart')
open PySem.MeetsSeq PySem.MeetsSeq2 PySem.MeetsSeq3
end
section
variable {prog:Program}{w:World}{A:Around}{E:Value→Shared→Prop}{s:Shared}
def iA (n d:Nat):Option Int→Nat
 | none=>d
 | some v=>if v<0 then (v+(n:Int)).toNat else min v.toNat n
theorem CE (n d:Nat):iA n d none=d:=rfl
theorem C3 (n d k:Nat):iA n d (some (k:Int))=min k n:=by
 show (if (k:Int)<0 then ((k:Int)+(n:Int)).toNat else min (k:Int).toNat n)=min k n
 rw[if_neg (by omega),Int.toNat_natCast]
end
end hp
namespace L2
open PySem PySem.Spec PyProof.Rows
abbrev yV:=St→ao→(Option Int→ao→Prop)→Prop
def BN (X:bI) (e:Option Expr) (t:yV):Prop :=
 ∀(pins:List (Addr × Obj)) (s:Shared) (σ:St) (H:ao) (Q:Option Int→ao→Prop),Inv X pins σ H s→t σ H Q →
  wpAny (model X.prog X.w) X.A (evalPart e X.env) (fun u aI=>∃o af,Inv X pins σ af aI∧IsPart u o∧Q o af) X.dS s
def VO:yV:=fun _ H Q=>Q none H
def Xu (t:TE):yV:=fun σ H Q=>t σ H fun x H1=>∃i,x=.int i∧Q (some i) H1
section
variable {X:bI}{e:Expr}{bY:TE}{lo aP:Option Expr}{kg Bw:yV}{pos eK:Pos}
theorem ue:BN X none VO:=by
 intro pins s σ H Q I h
 rw[evalPart_none]
 exact wpAny_pure ⟨none,H,I,.none,h⟩
theorem qO (h:b8 X e bY):BN X (some e) (Xu bY):=by
 intro pins s σ H Q I hw
 rw[evalPart_some]
 refine bT (h pins s σ H _ I hw) fun u s1 ⟨x,H1,a_,bE,bu⟩=>?_
 obtain⟨i,rfl,q⟩:=bu
 obtain⟨t,rfl⟩:=bE
 exact⟨some i,H1,a_,.int i t,q⟩
def Rk (X:bI) (r:V→Option Int→Option Int→ao→cG→Prop):Prop :=
 ∀(pins:List (Addr × Obj)) (s:Shared) (σ:St) (H:ao) (x:V) (v rA rz:Value) (lo aP:Option Int) (d5:Addr) (Q:cG),Inv X pins σ H s→RelV x v→s.heap.IsSliceOf d5 rA rz .none→IsPart rA lo→IsPart rz aP→r x lo aP H Q →
  ∃T id,typeLookup (.type T) "__getitem__"=pure (some (.builtin id))∧s.TypeIs v T∧wpAny (model X.prog X.w) X.A (getItem v (.ref d5)) (hK X pins σ Q) X.dS s
def ZF (r:V→Option Int→Option Int→ao→cG→Prop) (bY:TE) (kg Bw:yV):TE:=fun σ H Q=>bY σ H fun x H1=>kg σ H1 fun l av=>Bw σ av fun u aS=>r x l u aS Q
theorem rZ {r:V→Option Int→Option Int→ao→cG→Prop}(aE:Rk X r) (he:b8 X e bY) (aC:BN X lo kg) (bq:BN X aP Bw):b8 X (.Subscript e (.Slice lo aP none eK) pos) (ZF r bY kg Bw):=by
 intro pins s σ H Q I h
 refine Subscript_ (bT (he pins s σ H _ I h) fun v s1 ⟨x,H1,a_,bE,bu⟩=>?_)
 refine wpAny_Slice (bT (aC pins s1 σ H1 _ a_ bu) fun rA s2 ⟨l,av,cK,pl,aW⟩=>bT (bq pins s2 σ av _ cK aW) fun rz s3 ⟨u,aS,cE,pu,fs⟩=>?_)
 rw[evalPart_none]
 refine wpAny_pure ?_
 have jX:Inv X pins σ aS { s3 with heap:=s3.heap.push { cls:=.type "slice",data:=.fields #[rA,rz,.none] } }:=cE.kept (t':=s3.toks) fun b b1 q=>get?_push_of_some _ q
 obtain⟨T,id,i9,bF,cO⟩:=aE pins { s3 with heap:=s3.heap.push { cls:=.type "slice",data:=.fields #[rA,rz,.none] } } σ aS x v rA rz l u s3.heap.objs.size Q jX bE (Heap.IsSliceOf.new ..) pl pu fs
 show wpAny (model X.prog X.w) X.A (subscriptTail e (.Slice lo aP none eK) v (.ref s3.heap.objs.size)) (hK X pins σ Q) X.dS { s3 with heap:=s3.heap.push { cls:=.type "slice",data:=.fields #[rA,rz,.none] } }
 exact tail_any (ops:=[.ref s3.heap.objs.size,v]) bF i9 cO (by with_unfolding_all rfl)
def j8 (xs:List V) (lo aP:Option Int):List V:=(xs.drop (hp.iA xs.length 0 lo)).take (hp.iA xs.length xs.length aP - hp.iA xs.length 0 lo)
theorem IS (xs:List V) (lo aP:Option Int):(j8 xs lo aP).length≤xs.length:=by
 unfold j8
 rw[length_take,length_drop]
 omega
end
def oO (n:Nat) (i:Int):Option Nat:=if 0≤i then (if i<n then some i.toNat else none) else if -(n:Int)≤i then some (i+n).toNat else none
def n2 {α:Type}(xs:List α) (i:Int):Option α:=(oO xs.length i).bind fun j=>xs[j]?
theorem Ll {n:Nat}{i:Int}{j:Nat}(h:oO n i=some j):seqIndex? i n=some j∧j<n ∧ -(n:Int)≤i∧i<n:=by
 unfold oO at h
 by_cases h0:0≤i
 ·rw[if_pos h0]at h
  by_cases aj:i<n
  ·rw[if_pos aj]at h
   have e:i.toNat=j:=Option.some.inj h
   exact⟨by rw[seqIndex_of h0 aj,e],by omega,by omega,aj⟩
  ·rw[if_neg aj]at h;cases h
 ·rw[if_neg h0]at h
  by_cases aj : -(n:Int)≤i
  ·rw[if_pos aj]at h
   have e:(i+n).toNat=j:=Option.some.inj h
   exact⟨by rw[seqIndex_neg (by omega) aj,e],by omega,aj,by omega⟩
  ·rw[if_neg aj]at h;cases h
theorem Lq {α:Type}{xs:List α}{i:Int}{v:α}(h:n2 xs i=some v):∃j,seqIndex? i xs.length=some j∧xs[j]?=some v∧j<xs.length ∧ -(xs.length:Int)≤i∧i<xs.length:=by
 unfold n2 at h
 cases e:oO xs.length i with
 | none=>rw[e]at h;cases h
 | some j =>
  rw[e]at h
  obtain⟨aj,az,ck,dv⟩:=Ll e
  exact⟨j,aj,h,az,ck,dv⟩
theorem e4 {α:Type}{xs:List α}{j:Nat}{v:α}(h:xs[j]?=some v):n2 xs (j:Int)=some v:=by
 have cD:j<xs.length:=(List.getElem?_eq_some_iff.mp h).1
 have e:oO xs.length (j:Int)=some j:=by
  unfold oO
  rw[if_pos (by omega),if_pos (by omega)];simp
 unfold n2;rw[e];exact h
def Wy (b:Expr):Prop:=∀o i,subscripted b false o i=operate [o,i] (getItem o i)
def ya (X:bI) (r:iW):Prop :=
 ∀(value slice:Expr) (pins:List (Addr × Obj)) (s:Shared) (σ:St) (H:ao) (x y:V) (v u:Value) (Q:cG),Inv X pins σ H s→RelV x v→RelV y u→r x y H Q →
  subscripted slice false v u=operate [v,u] (getItem v u)→wpAny (model X.prog X.w) X.A (subscriptTail value slice v u) (hK X pins σ Q) X.dS s
def Rq (X:bI) (id:String) (r:V→List V→ao→cG→Prop):Prop :=
 ∀(pins:List (Addr × Obj)) (s:Shared) (σ:St) (H:ao) (x:V) (xs:List V) (v:Value) (us:List Value) (Q:cG),Inv X pins σ H s→RelV x v→Vals xs us→r x xs H Q →
  wpAny (model X.prog X.w) X.A (call (.builtin id) (v::us)) (hK X pins σ Q) X.dS s
section
variable {X:bI}{a b:Expr}{dB d4:TE}{pos:Pos}
theorem bK {r:iW}(aE:ya X r) (bo:b8 X a dB) (aa:b8 X b d4) (aJ:Wy b):b8 X (.Subscript a b pos) (AF r dB d4):=by
 intro pins s σ H Q I h
 exact Subscript_ (EK bo aa I h fun v u s2 x y av cK bN bO q=>aE a b pins s2 σ av x y v u Q cK bN bO q (aJ _ _))
def Ey (K:PySem.W.Frag):iW:=fun x y H Q=>∃p xs i v,x=.ref p∧y=.int i∧aM K H p xs∧n2 xs i=some v∧Q v H
def MW (K:PySem.W.Frag):iW:=fun x y H Q=>∃p xs i v,x=.ref p∧y=.int i∧aO K H p xs∧n2 xs i=some v∧Q v H
theorem fa:ya X (Ey X.K):=by
 intro value slice pins s σ H x y v u Q I bN bO h aJ
 obtain⟨p,xs,i,z,rfl,rfl,bk,he,q⟩:=h
 cases bN
 obtain⟨t,rfl⟩:=bO
 obtain⟨its,r,pl,hz⟩:=I.list bk
 obtain⟨j,aj,az,ck,dv,gF⟩:=Lq he
 obtain⟨w,ko,kI⟩:=r.get az
 have aC:=r.length
 have aR:=zU
 have fin:hK X pins σ Q w s:=⟨z,H,I,kI,q⟩
 by_cases h0:0≤i
 ·have cD:i.toNat=j:=by
   rw[seqIndex_of h0 gF]at aj
   exact Option.some.inj aj
  exact item_listR pl.isList h0 (by omega) (by rw[cD];simpa using ko) fin aJ
 ·have cD:(i+(its.toArray.size:Int)).toNat=j:=by
   rw[seqIndex_neg (by omega) dv]at aj
   rw[size_toArray,←aC]
   exact Option.some.inj aj
  exact subscriptTail_builtinR (x:=w) pl.isList.typeIs slot_list_getitem.lookup
   (wpAny_getItem_list_neg (Q:=fun r aI=>r=w∧hK X pins σ Q r aI) pl.isList (by omega) (by rw[size_toArray] <;> omega) (by omega) (by rw[cD];simpa using ko) ⟨rfl,fin⟩) aJ
theorem cC:ya X (MW X.K):=by
 intro value slice pins s σ H x y v u Q I bN bO h aJ
 obtain⟨p,xs,i,z,rfl,rfl,bk,he,q⟩:=h
 cases bN
 obtain⟨t,rfl⟩:=bO
 obtain⟨its,r,pl,hz⟩:=I.tuple bk
 obtain⟨j,aj,az,ck,dv,gF⟩:=Lq he
 obtain⟨w,ko,kI⟩:=r.get az
 have aC:=r.length
 have aR:=zU
 have fin:hK X pins σ Q w s:=⟨z,H,I,kI,q⟩
 exact subscriptTail_builtinR (x:=w) pl.typeIs slot_tuple_getitem.lookup
  (getItem_tuple (j:=j) (Q:=fun r aI=>r=w∧hK X pins σ Q r aI) pl (by omega) (by omega) (by rw[size_toArray,←aC];exact aj) (by simpa using ko) ⟨rfl,fin⟩) aJ
theorem TJ (its:List Value) (n j:Nat) (u:Value):Obj.mapSeq (·.setIfInBounds j u) { cls:=.type "list",data:=.seq its.toArray n }={ cls:=.type "list",data:=.seq (its.set j u).toArray n }:=by
 simp[Obj.mapSeq]
theorem Inv.lst {pins:List (Addr × Obj)}{σ:St}{H:ao}{s:Shared}{p:Addr}{xs:List V}(I:Inv X pins σ H s) (h:H p=some (.lst xs)) :
  ∃(its:List Value) (n:Nat),Vals xs its∧s.heap.get? p=some { cls:=.type "list",data:=.seq its.toArray n }∧xs.length≤sizeLine:=by
 obtain⟨z,its,n,r,e⟩:=I.bM p _ h
 exact⟨its,n,r,e,z⟩
theorem Inv.W8 {pins:List (Addr × Obj)}{σ:St}{H:ao}{s:Shared}{p:Addr}{xs ys:List V}{its its':List Value}{n kj:Nat}{f:Obj→Obj}(I:Inv X pins σ H s) (h:H p=some (.lst xs))
  (aD:s.heap.get? p=some { cls:=.type "list",data:=.seq its.toArray n }) (hf:f { cls:=.type "list",data:=.seq its.toArray n }={ cls:=.type "list",data:=.seq its'.toArray kj }) (r:Vals ys its') (hz:ys.length≤sizeLine) (t:Nat) :
  Inv X pins σ (upd H p (.lst ys)) { s with heap:=s.heap.update p f,toks:=t }:=by
 have e:(s.heap.update p f).get? p=some { cls:=.type "list",data:=.seq its'.toArray kj }:=by
  rw[get?_update_self f aD (by rw[hf] <;> rfl),hf]
 refine I.write (x:=p) (e:=p) (by rw[h];trivial) (.inl rfl) (fun b u aa q=>(get?_update_other _ _ (Ne.symm aa)).trans q) ⟨_,e⟩ ?_
 exact⟨hz,its',kj,r,e⟩
def XO:V→V→V→ao→(ao→Prop)→Prop:=fun o i v H Q=>∃p xs k j,o=.ref p∧i=.int k∧H p=some (.lst xs)∧oO xs.length k=some j∧Q (upd H p (.lst (xs.set j v)))
theorem set_list:NB X XO:=by
 intro pins s σ H o i v b2 i7 u Q I ih acn bX h
 obtain⟨p,xs,k,j,rfl,rfl,aF,cD,q⟩:=h
 cases ih
 obtain⟨t,rfl⟩:=acn
 obtain⟨its,n,r,aD,hz⟩:=I.lst aF
 obtain⟨aj,az,ck,dv⟩:=Ll cD
 have aC:=r.length
 have aR:=zU
 have fk:Inv X pins σ (upd H p (.lst (xs.set j v))) { s with heap:=s.heap.update p (Obj.mapSeq (·.setIfInBounds j u)) } :=
  I.W8 aF aD (TJ its n j u) (r.set bX j) (by rw[length_set];exact hz) s.toks
 by_cases h0:0≤k
 ·have aQ:k.toNat=j:=by
   rw[seqIndex_of h0 dv]at aj
   exact Option.some.inj aj
  exact PySem.W.ki_setAt aD h0 (by omega) (by rw[size_toArray,←aC];exact dv) (by rw[aQ];exact⟨_,fk,q⟩)
 ·have aQ:(k+(its.toArray.size:Int)).toNat=j:=by
   rw[seqIndex_neg (by omega) ck]at aj
   rw[size_toArray,←aC]
   exact Option.some.inj aj
  exact PySem.W.ki_setBack aD (by omega) (by rw[size_toArray,←aC];exact ck) (by omega) (by rw[aQ];exact⟨_,fk,q⟩)
theorem S3 (lo aP:Option Int) (n:Nat):(sliceBounds lo aP none n).1=((hp.iA n 0 lo:Nat):Int)∧(sliceBounds lo aP none n).2.1=((hp.iA n n aP:Nat):Int)∧(sliceBounds lo aP none n).2.2=1:=by
 refine⟨?_,?_,rfl⟩
 ·cases lo with
  | none=>simp[sliceBounds,hp.iA]
  | some i =>
   simp only[sliceBounds,hp.iA,Option.getD_none,show (1:Int) > 0 by decide,if_true]
   by_cases h:i<0
   ·simp only[h,if_true] <;> omega
   ·simp only[h,if_false] <;> omega
 ·cases aP with
  | none=>simp[sliceBounds,hp.iA]
  | some i =>
   simp only[sliceBounds,hp.iA,Option.getD_none,show (1:Int) > 0 by decide,if_true]
   by_cases h:i<0
   ·simp only[h,if_true] <;> omega
   ·simp only[h,if_false] <;> omega
theorem SS (its:List Value) (lo aP:Option Int):slicePick its.toArray lo aP none=((its.drop (hp.iA its.length 0 lo)).take (hp.iA its.length its.length aP - hp.iA its.length 0 lo)).toArray:=by
 obtain⟨aj,az,ck⟩:=S3 lo aP its.toArray.size
 unfold slicePick
 rw[aj,az,ck]
 simp only[sliceRange_one,pick_run,size_toArray] <;> rfl
def YO (K:PySem.W.Frag):V→Option Int→Option Int→ao→cG→Prop:=fun x lo aP H Q=>∃a xs,x=.ref a∧aM K H a xs∧∀p,H p=none→Q (.ref p) (upd H p (.lst (j8 xs lo aP)))
theorem r2:Rk X (YO X.K):=by
 intro pins s σ H x v rA rz lo aP d5 Q I bN aJ pl pu h
 obtain⟨a,xs,rfl,bh,q⟩:=h
 cases bN
 obtain⟨its,r,bF,hz⟩:=I.list bh
 have hlen:=r.length
 refine⟨"list",_,slot_list_getitem.lookup,bF.isList.typeIs,?_⟩
 refine wpAny_getItem_list_slice bF.isList aJ pl pu .none (by simp) ?_ (by rw[size_toArray] <;> omega)
 rw[SS,←hlen]
 refine⟨.ref s.heap.objs.size,_,I.laid (t':=s.toks) (o:=.lst (j8 xs lo aP)) (fun b b1 q=>get?_push_of_some _ q) (le_refl _) ?_,rfl,q _ (I.bM.fresh (le_refl _))⟩
 exact⟨le_trans (IS xs lo aP) hz,_,0,(r.drop (hp.iA xs.length 0 lo)).take (hp.iA xs.length xs.length aP - hp.iA xs.length 0 lo),get?_push_size _ rfl⟩
def pR:V→Bool
 | .cS=>true
 | .b0 _=>true
 | .int _=>true
 | .str _=>true
 | _=>false
def qd:V→V→Bool
 | .cS,.cS=>true
 | .b0 a,.b0 b=>a == b
 | .b0 a,.int b=>(if a then 1 else 0) == b
 | .int a,.b0 b=>a == (if b then 1 else 0)
 | .int a,.int b=>a == b
 | .str a,.str b=>a == b
 | _,_=>false
theorem Xn {A:Around}{s:Shared}{y x:V}{u v:Value}(bO:RelV y u) (bN:RelV x v) (rJ:pR y=true) (mB:pR x=true):SeqAt.EqAt A s u v (qd y x):=by
 cases y with
 | cS =>
  cases bO
  cases x with
  | cS=>cases bN;exact SeqAt.EqAt.same _
  | b0 b=>cases bN;exact SeqAt.EqAt.none_bool b
  | int b=>obtain⟨t,rfl⟩:=bN;exact SeqAt.EqAt.none_int b t
  | str b=>obtain⟨t,rfl⟩:=bN;exact SeqAt.EqAt.none_str b t
  | _=>exact absurd (show false=true from mB) Bool.false_ne_true
 | b0 a =>
  cases bO
  cases x with
  | cS=>cases bN;exact SeqAt.EqAt.bool_none a
  | b0 b=>cases bN;exact SeqAt.EqAt.bool_bool a b
  | int b=>obtain⟨t,rfl⟩:=bN;exact SeqAt.EqAt.bool_int a b t
  | str b=>obtain⟨t,rfl⟩:=bN;exact SeqAt.EqAt.bool_str a b t
  | _=>exact absurd (show false=true from mB) Bool.false_ne_true
 | int a =>
  obtain⟨t',rfl⟩:=bO
  cases x with
  | cS=>cases bN;exact SeqAt.EqAt.int_none a t'
  | b0 b=>cases bN;exact SeqAt.EqAt.int_bool a t' b
  | int b=>obtain⟨t,rfl⟩:=bN;exact SeqAt.EqAt.int_int a t' b t
  | str b=>obtain⟨t,rfl⟩:=bN;exact SeqAt.EqAt.int_str a t' b t
  | _=>exact absurd (show false=true from mB) Bool.false_ne_true
 | str a =>
  obtain⟨t',rfl⟩:=bO
  cases x with
  | cS=>cases bN;exact SeqAt.EqAt.str_none a t'
  | b0 b=>cases bN;exact SeqAt.EqAt.str_bool a t' b
  | int b=>obtain⟨t,rfl⟩:=bN;exact SeqAt.EqAt.str_int a t' b t
  | str b=>obtain⟨t,rfl⟩:=bN;exact SeqAt.EqAt.str_str a t' b t
  | _=>exact absurd (show false=true from mB) Bool.false_ne_true
 | _=>exact absurd (show false=true from rJ) Bool.false_ne_true
def kQ (x:V) (u:Value):Bool:=match u with
 | .none=>qd .cS x
 | .bool b=>qd (.b0 b) x
 | .int i _=>qd (.int i) x
 | .str z _=>qd (.str z) x
 | _=>false
theorem LY {x y:V}{u:Value}(r:RelV y u) (f:pR y=true):kQ x u=qd y x:=by
 cases y with
 | cS=>cases r;rfl
 | b0 b=>cases r;rfl
 | int i=>obtain⟨t,rfl⟩:=r;rfl
 | str z=>obtain⟨t,rfl⟩:=r;rfl
 | _=>exact absurd (show false=true from f) Bool.false_ne_true
theorem wg {x:V}:∀{xs:List V}{us:List Value},Vals xs us→xs.all pR=true→us.any (kQ x)=xs.any fun y=>qd y x
 | _,_,.nil,_=>rfl
 | y::xs,u::us,.cons r t,f=>by
  rw[List.all_cons,and_eq_true]at f
  rw[any_cons,any_cons,LY r f.1,wg t f.2]
theorem v8 {A:Around}{s:Shared}{x:V}{v:Value}(bN:RelV x v) (mB:pR x=true):∀{xs:List V}{us:List Value},Vals xs us→xs.all pR=true→∀u∈us,SeqAt.EqAt A s u v (kQ x u)
 | _,_,.nil,_=>fun u bq=>by cases bq
 | y::xs,u::us,.cons r t,f=>fun o2 bq=>by
  rw[List.all_cons,and_eq_true]at f
  rcases mem_cons.mp bq with rfl | bq
  ·rw[LY r f.1];exact Xn r bN f.1 mB
  ·exact v8 bN mB t f.2 o2 bq
def iO (x:V) (xs:List V):Bool:=xs.any fun y=>qd y x
def NW (K:PySem.W.Frag) (neg:Bool):iW:=fun x y H Q=>∃p xs,y=.ref p∧(aM K H p xs∨aO K H p xs)∧pR x=true∧xs.all pR=true∧Q (.b0 (if neg then !iO x xs else iO x xs)) H
theorem JB:hS X (compareOp .In) (NW X.K false):=by
 intro pins s σ H x y v u Q I bN bO h
 obtain⟨p,xs,rfl,bk,mB,bQ,q⟩:=h
 cases bO
 rcases bk with bk | bk
 ·obtain⟨its,r,pl,hz⟩:=I.list bk
  refine SeqAt.in_listAt (kQ x) pl.isList (fun w hw=>v8 bN mB r bQ w (by simpa using hw)) ⟨.b0 _,H,I,rfl,?_⟩
  rw[show its.toArray.any (kQ x)=its.any (kQ x) by simp,wg r bQ]
  exact q
 ·obtain⟨its,r,pl,hz⟩:=I.tuple bk
  refine SeqAt.in_tupleAt (kQ x) pl (fun w hw=>v8 bN mB r bQ w (by simpa using hw)) ⟨.b0 _,H,I,rfl,?_⟩
  rw[show its.toArray.any (kQ x)=its.any (kQ x) by simp,wg r bQ]
  exact q
theorem S4:hS X (compareOp .NotIn) (NW X.K true):=by
 intro pins s σ H x y v u Q I bN bO h
 obtain⟨p,xs,rfl,bk,mB,bQ,q⟩:=h
 cases bO
 rcases bk with bk | bk
 ·obtain⟨its,r,pl,hz⟩:=I.list bk
  refine SeqAt.notIn_listAt (kQ x) pl.isList (fun w hw=>v8 bN mB r bQ w (by simpa using hw)) ⟨.b0 _,H,I,rfl,?_⟩
  rw[show its.toArray.any (kQ x)=its.any (kQ x) by simp,wg r bQ]
  exact q
 ·obtain⟨its,r,pl,hz⟩:=I.tuple bk
  refine SeqAt.notIn_tupleAt (kQ x) pl (fun w hw=>v8 bN mB r bQ w (by simpa using hw)) ⟨.b0 _,H,I,rfl,?_⟩
  rw[show its.toArray.any (kQ x)=its.any (kQ x) by simp,wg r bQ]
  exact q
theorem gU:lr X (.builtin "len") (fun xs H Q=>∃p ys,xs=[.ref p]∧(aM X.K H p ys∨aO X.K H p ys)∧Q (.int ys.length) H):=by
 intro pins s σ H xs us Q I r h
 obtain⟨p,ys,rfl,bk,q⟩:=h
 obtain⟨u,rfl,bN⟩:=vals1 r
 cases bN
 have aR:=zU
 rcases bk with bk | bk
 ·obtain⟨its,f_,pl,hz⟩:=I.list bk
  have hlen:=f_.length
  exact Calls.call_len_list pl.isList (by simp only[size_toArray] <;> omega) ⟨.int ys.length,H,I.tok _,⟨s.toks+1,by rw[size_toArray,hlen]⟩,q⟩
 ·obtain⟨its,f_,pl,hz⟩:=I.tuple bk
  have hlen:=f_.length
  exact len_tuple pl (by simp only[size_toArray] <;> omega) ⟨.int ys.length,H,I.tok _,⟨s.toks+1,by rw[size_toArray,hlen]⟩,q⟩
theorem ow:lr X (.type "list") (fun xs H Q=>∃p ys,xs=[.ref p]∧(aM X.K H p ys∨aO X.K H p ys)∧∀l,H l=none→Q (.ref l) (upd H l (.lst ys))):=by
 intro pins s σ H xs us Q I r h
 obtain⟨p,ys,rfl,bk,q⟩:=h
 obtain⟨u,rfl,bN⟩:=vals1 r
 cases bN
 have fin:∀(its:List Value),Vals ys its→ys.length≤sizeLine→∀(h':Heap) (fO:Nat),(∀b fB,s.heap.get? b=some fB→h'.get? b=some fB) →
   h'.get? s.heap.objs.size=some { cls:=.type "list",dict:=none,data:=.seq its.toArray fO,slots := #[] }→hK X pins σ Q (.ref s.heap.objs.size) { s with heap:=h' }:=fun its f_ hz h' fO bw e =>
  ⟨.ref s.heap.objs.size,_,I.laid (t':=s.toks) bw (le_refl _) (show fR X.prog X.w _ h' _ (.lst ys) from ⟨hz,its,fO,f_,e⟩),rfl,q _ (I.bM.fresh (le_refl _))⟩
 rcases bk with bk | bk
 ·obtain⟨its,f_,pl,hz⟩:=I.list bk
  have hlen:=f_.length
  obtain⟨o,aD,ai,n,hd⟩:=pl.isList
  exact call_list_seq p (.inl rfl) aD ai hd (fun h' fO bw e=>fin its f_ hz h' fO bw e) (by simp only[size_toArray] <;> omega)
 ·obtain⟨its,f_,pl,hz⟩:=I.tuple bk
  have hlen:=f_.length
  obtain⟨o,aD,ai,n,hd⟩:=pl
  exact call_list_seq p (.inr rfl) aD ai hd (fun h' fO bw e=>fin its f_ hz h' fO bw e) (by simp only[size_toArray] <;> omega)
def ER (K:PySem.W.Frag) (T:String) (x:V) (H:ao):Prop:=match x with
 | .str _=>T="str"
 | .int _=>T="int"
 | .ref p=>(T="list"∧∃xs,aM K H p xs)∨(T="tuple"∧∃o,K.lookup p=some o∧o.cls=.type "tuple"∧o.dict=none) ∨
   (T="dict"∧((∃kvs,H p=some (.bR kvs))∨∃kvs,H p=some (.gS kvs)))∨(T="set"∧∃S n,H p=some (.set S n))
 | _=>False
theorem Lx {pins:List (Addr × Obj)}{σ:St}{H:ao}{s:Shared}{T:String}{x:V}{v:Value}(I:Inv X pins σ H s) (r:RelV x v) (ty:ER X.K T x H) :
  s.TypeIs v T∧∀a,v=.ref a→∃b1,s.heap.get? a=some b1∧b1.dict=none:=by
 cases x with
 | str z =>
  obtain⟨t,rfl⟩:=r
  cases (show T="str" from ty)
  exact⟨typeIs_str s z t,fun _ e=>nomatch e⟩
 | int i =>
  obtain⟨t,rfl⟩:=r
  cases (show T="int" from ty)
  exact⟨typeIs_int s i t,fun _ e=>nomatch e⟩
 | ref p =>
  cases r
  rcases ty with ⟨rfl,xs,bk⟩ | ⟨rfl,o,aQ,ai,hd⟩ | ⟨rfl,aQ⟩ | ⟨rfl,S,n,aQ⟩
  ·obtain⟨its,_,pl,_⟩:=I.list bk
   refine⟨pl.isList.typeIs,fun a e=>?_⟩
   cases e
   obtain⟨o,n,e,c,hd,_⟩:=pl
   exact⟨o,e,hd⟩
  ·refine⟨⟨o,I.gW p o aQ,ai⟩,fun a e=>?_⟩
   cases e
   exact⟨o,I.gW _ o aQ,hd⟩
  ·have z:∃o,s.heap.get? p=some o∧o.ExactDict:=by
    rcases aQ with ⟨kvs,aQ⟩ | ⟨kvs,aQ⟩
    ·obtain⟨_,_,_,_,o,_,_,e,ex,_⟩:=I.bM p _ aQ
     exact⟨o,e,ex⟩
    ·obtain⟨_,_,_,_,o,_,_,e,ex,_⟩:=I.bM p _ aQ
     exact⟨o,e,ex⟩
   obtain⟨o,e,ex⟩:=z
   refine⟨⟨o,e,ex.1⟩,fun a aL=>?_⟩
   cases aL
   exact⟨o,e,ex.2.1⟩
  ·obtain⟨o,_,_,_,e,ex,_⟩:=I.bM p _ aQ
   refine⟨⟨o,e,ex.1⟩,fun a aL=>?_⟩
   cases aL
   exact⟨o,e,ex.2.1⟩
 | _=>exact False.elim ty
def Yu (K:PySem.W.Frag) (T:String) (r:V→List V→ao→cG→Prop) (to:TE):TE:=fun σ H Q=>to σ H fun x H1=>ER K T x H1∧r x [] H1 Q
def ZG (K:PySem.W.Frag) (T:String) (r:V→List V→ao→cG→Prop) (to:TE) (t:iV):TE:=fun σ H Q=>to σ H fun x H1=>ER K T x H1∧t σ H1 fun xs av=>r x xs av Q
variable {o e:Expr}{aA:List Expr}{to:TE}{t:iV}{name:Str}{apos ha:Pos}{T id:String}{r:V→List V→ao→cG→Prop}
theorem LR (rB:PlainAttrs T) (slot:Slot T name id) (xD:typeOf (.builtin id)=pure (.type "method_descriptor")) (hm:Rq X id r) (aD:b8 X o to)
  (Ei:attributeBase o name X.env (eval o X.env)=eval o X.env:=by rfl) (Eh:(apos.endLine == ha.line)=true:=by rfl):b8 X (.Call (.Attribute o name apos) [] [] ha) (Yu X.K T r to):=by
 intro pins s σ H Q I h
 refine wpAny_Call_method0_late Ei Eh (bT (aD pins s σ H _ I h) fun v s1 ⟨x,H1,a_,bE,ty,bu⟩=>?_)
 obtain⟨aj,az⟩:=Lx a_ bE ty
 exact⟨T,id,rB,slot,xD,aj,az,Calls.callWith_builtin rfl (PySem.evalArgs_none (hm pins s1 σ H1 x [] v [] Q a_ bE .nil bu))⟩
theorem ia (rB:PlainAttrs T) (slot:Slot T name id) (xD:typeOf (.builtin id)=pure (.type "method_descriptor")) (hm:Rq X id r) (aD:b8 X o to) (bo:mD X (e::aA) t)
  (Ei:attributeBase o name X.env (eval o X.env)=eval o X.env:=by rfl)
  (Zl:((backTo ha (starEach (e::aA) X.env)).all (fun x => !x.1) && (backToKw ha (keywordEach [] X.env)).all (fun x=>x.1.isSome)
   && decide ((e::aA).length+([]:List Keyword).length+(if ([]:List Keyword).isEmpty then 0 else 1)<30))=true:=by rfl)
  (Eh:(apos.endLine == ha.line)=true:=by rfl) (aJ:starEach (e::aA) X.env=(false,eval e X.env)::starEach aA X.env:=by rfl) (Xi:(backTo ha (starEach aA X.env)).any (·.1)=false:=by rfl) :
  b8 X (.Call (.Attribute o name apos) (e::aA) [] ha) (ZG X.K T r to t):=by
 intro pins s σ H Q I h
 refine wpAny_Call_method_late Ei Zl Eh rfl (bT (aD pins s σ H _ I h) fun v s1 ⟨x,H1,a_,bE,ty,bu⟩=>?_)
 obtain⟨aj,az⟩:=Lx a_ bE ty
 refine⟨T,id,rB,slot,xD,aj,az,?_⟩
 have tC:=bo ha pins s1 σ H1 _ a_ bu
 rw[aJ]at tC ⊢
 refine Calls.callWith_builtin (by show (false || (backTo ha (starEach aA X.env)).any (·.1))=false;rw[Xi] <;> rfl) (Calls.evalArgs_plain ?_)
 exact bT tC fun us s2 ⟨vs,av,cK,b4,aW⟩=>hm pins s2 σ av x vs v us Q cK bE b4 aW
end
def x_ (X:bI) (id:String) (r:V→List V→ao→cG→Prop):Prop :=
 ∀(pins:List (Addr × Obj)) (s:Shared) (σ:St) (H:ao) (x:V) (xs:List V) (v:Value) (us:List Value) (Q:cG),Inv X pins σ H s→RelV x v→Vals xs us→r x xs H Q →
  wpAny (model X.prog X.w) X.A (call (.builtin id) (v::us)) (hK X pins σ Q) X.dS s
theorem Vals.one:∀{x:V}{us:List Value},Vals [x] us→∃u,us=[u]∧RelV x u
 | _,_,.cons r .nil=>⟨_,rfl,r⟩
theorem Vals.two:∀{x y:V}{us:List Value},Vals [x,y] us→∃u v,us=[u,v]∧RelV x u∧RelV y v
 | _,_,_,.cons r (.cons q .nil)=>⟨_,_,rfl,r,q⟩
theorem Vals.zero:∀{us:List Value},Vals [] us→us=[]
 | _,.nil=>rfl
theorem Vals.dropLast {xs:List V}{us:List Value}(h:Vals xs us):Vals xs.dropLast us.dropLast:=by
 induction h with
 | nil=>exact .nil
 | cons r t b3 =>
  cases t with
  | nil=>exact .nil
  | cons q t'=>exact .cons r b3
theorem TO {α:Type}(l:List α):l.eraseIdx (l.length - 1)=l.dropLast:=by
 induction l with
 | nil=>rfl
 | cons a r b3 =>
  cases r with
  | nil=>rfl
  | cons b r =>
   have e:(a::b::r).length - 1=((b::r).length - 1)+1:=by
    have aj:(a::b::r).length=r.length+2:=rfl
    have az:(b::r).length=r.length+1:=rfl
    omega
   rw[e,List.eraseIdx_cons_succ,b3]
   all_goals rfl
section
variable {X:bI}{pins:List (Addr × Obj)}{σ:St}{H:ao}{s:Shared}{l b:Addr}{xs ys zs:List V}
theorem Inv.Av {its its':List Value}{n:Nat}{f:Array Value→Array Value}{t':Nat}(I:Inv X pins σ H s) (ir:H l=some (.lst xs))
  (e:s.heap.get? l=some { cls:=.type "list",data:=.seq its.toArray n }) (hf:f its.toArray=its'.toArray) (aX:Vals ys its') (hz:ys.length≤sizeLine) :
  Inv X pins σ (upd H l (.lst ys)) { s with heap:=s.heap.update l (Obj.mapSeq f),toks:=t' }:=by
 have q:=PySem.IsL.update e f
 rw[hf]at q
 refine I.write (x:=l) (e:=l) (by rw[ir];exact trivial) (.inl rfl) (fun tK u aa bq=>(get?_update_other s.heap (Obj.mapSeq f) (Ne.symm aa)).trans bq) ⟨_,q⟩ ?_
 exact⟨hz,its',_,aX,q⟩
theorem Inv.Aw {its:List Value}{t':Nat}(I:Inv X pins σ H s) (aX:Vals ys its) (hz:ys.length≤sizeLine) :
  Inv X pins σ (upd H s.heap.objs.size (.lst ys)) { s with heap:=s.heap.push { cls:=.type "list",data:=.seq its.toArray },toks:=t' } :=
 I.laid (fun _ _ q=>get?_push_of_some _ q) (le_refl _) ⟨hz,its,0,aX,get?_push_size _ rfl⟩
theorem Inv.fresh (I:Inv X pins σ H s):H s.heap.objs.size=none:=I.bM.fresh (le_refl _)
theorem Inv.q1 (I:Inv X pins σ H s) (ir:H l=some (.lst xs)):xs.length≤sizeLine∧∃(its:List Value) (n:Nat),Vals xs its∧xs.length=its.length∧s.heap.get? l=some { cls:=.type "list",data:=.seq its.toArray n }:=by
 obtain⟨z,its,n,r,e⟩:=I.bM l _ ir
 exact⟨z,its,n,r,r.length,e⟩
theorem Kf {n:Nat}(h:n≤sizeLine):Builtin.List.listTooLong n=false:=by
 unfold Builtin.List.listTooLong
 exact decide_eq_false (by omega)
end
section
variable {X:bI}
def V1:V→List V→ao→cG→Prop:=fun x vs H Q=>∃l xs y,x=.ref l∧vs=[y]∧H l=some (.lst xs)∧xs.length<sizeLine∧Q .cS (upd H l (.lst (xs++[y])))
theorem h_:x_ X "list.append" V1:=by
 intro pins s σ H x vs v us Q I bN bX h
 obtain⟨l,xs,y,rfl,rfl,ir,hz,q⟩:=h
 cases bN
 obtain⟨u,rfl,eT⟩:=bX.one
 obtain⟨z,its,n,r,aC,e⟩:=I.q1 ir
 refine call_meets F.slot_list_append ⟨_,e,rfl⟩ F.entry_list_append (F.args_list_append_2 _ _) (PySem.list_append l its.toArray n u (by rw[size_toArray];omega)) ⟨e,?_⟩
 refine⟨.cS,_,I.Av (its':=its++[u]) ir e (by simp) (r.append (.cons eT .nil)) ?_,rfl,q⟩
 rw[length_append,length_singleton]
 omega
def V0:V→List V→ao→cG→Prop:=fun x vs H Q=>∃l b xs zs,x=.ref l∧vs=[.ref b]∧H l=some (.lst xs)∧H b=some (.lst zs)∧xs.length+zs.length≤sizeLine∧Q .cS (upd H l (.lst (xs++zs)))
theorem JE:x_ X "list.extend" V0:=by
 intro pins s σ H x vs v us Q I bN bX h
 obtain⟨l,b,xs,zs,rfl,rfl,ir,qs,hz,q⟩:=h
 cases bN
 obtain⟨u,rfl,eT⟩:=bX.one
 cases eT
 obtain⟨z,its,n,r,aC,e⟩:=I.q1 ir
 obtain⟨dK,j6,dI,b4,sV,aL⟩:=I.q1 qs
 have hsz:its.toArray.size+j6.toArray.size≤sizeLine:=by rw[size_toArray,size_toArray];omega
 have Eg:¬(!its.toArray.isEmpty && Builtin.List.listTooLong (its.toArray.size+j6.toArray.size))=true:=by
  rw[Kf hsz,Bool.and_false]
  exact Bool.false_ne_true
 refine call_meets F.slot_list_extend ⟨_,e,rfl⟩ F.entry_list_extend (F.args_list_extend_2 _ _)
  (AutoSeq1.list_extend_list_list_0 l its.toArray n b j6.toArray dI Eg (by rw[size_toArray];omega) (by omega)) ⟨e,aL,?_⟩
 refine⟨.cS,_,I.Av (its':=its++j6) ir e (by simp) (r.append b4) ?_,rfl,q⟩
 rw[length_append]
 omega
def YP:V→List V→ao→cG→Prop:=fun x vs H Q=>∃l xs y,x=.ref l∧vs=[]∧H l=some (.lst xs)∧xs[xs.length - 1]?=some y∧Q y (upd H l (.lst xs.dropLast))
theorem LU:x_ X "list.pop" YP:=by
 intro pins s σ H x vs v us Q I bN bX h
 obtain⟨l,xs,y,rfl,rfl,ir,b6,q⟩:=h
 cases bN
 have FH:=bX.zero
 subst FH
 obtain⟨z,its,n,r,aC,e⟩:=I.q1 ir
 obtain⟨u,bq,eT⟩:=r.get b6
 have uX:its.toArray[its.toArray.size - 1]?=some u:=by
  show its.toArray[its.length - 1]?=some u
  rw[←Array.getElem?_toList,←aC]
  exact bq
 refine call_meets F.slot_list_pop ⟨_,e,rfl⟩ F.entry_list_pop (F.args_list_pop_1 _) (MeetsSeq.list_pop_last l its.toArray n u uX (by rw[size_toArray];omega)) ⟨e,?_⟩
 refine⟨y,_,I.Av (its':=its.dropLast) ir e ?_ r.dropLast ?_,eT,q⟩
 ·show its.toArray.eraseIdxIfInBounds (its.toArray.size - 1)=its.dropLast.toArray
  rw[size_toArray,List.eraseIdxIfInBounds_toArray,TO]
 ·rw[List.length_dropLast]
  omega
def YR:iW:=fun x y H Q=>∃l b xs zs,x=.ref l∧y=.ref b∧H l=some (.lst xs)∧H b=some (.lst zs)∧xs.length+zs.length≤sizeLine∧∀p,H p=none→Q (.ref p) (upd H p (.lst (xs++zs)))
theorem DR:hS X (binaryOp .Add) YR:=by
 intro pins s σ H x y v u Q I bN bO h
 obtain⟨l,b,xs,zs,rfl,rfl,ir,qs,hz,q⟩:=h
 cases bN
 cases bO
 obtain⟨z,its,n,r,aC,e⟩:=I.q1 ir
 obtain⟨dK,j6,dI,b4,sV,aL⟩:=I.q1 qs
 refine PySem.P.add_list e aL ?_ (by rw[size_toArray,size_toArray];omega)
 have aY:its.toArray++j6.toArray=(its++j6).toArray:=by simp
 rw[aY]
 exact⟨.ref _,_,I.Aw (t':=s.toks) (r.append b4) (by rw[length_append];omega),rfl,q _ I.fresh⟩
end
section
variable {prog:Program}{w:World}{A:Around}{E:Value→Shared→Prop}{s:Shared}
end
section
variable {X:bI}
end
section
variable {κ:Type} [DecidableEq κ]
def dF (kvs:List (κ × V)) (k:κ):Option V:=(kvs.find? fun cN=>decide (cN.1=k)).map (·.2)
def putK (kvs:List (κ × V)) (k:κ) (v:V):List (κ × V) :=
 if (kvs.any fun cN=>decide (cN.1=k))=true then kvs.map (fun cN=>if cN.1=k then (cN.1,v) else cN) else kvs++[(k,v)]
def j4 (kvs:List (κ × V)) (k:κ):List (κ × V):=kvs.filter fun cN=>decide (cN.1≠k)
theorem Cx {k:κ}:dF ([]:List (κ × V)) k=none:=rfl
theorem mJ {p:κ × V}{r:List (κ × V)}{k:κ}(e:p.1=k):dF (p::r) k=some p.2:=by simp[dF,find?_cons,e]
theorem mK {p:κ × V}{r:List (κ × V)}{k:κ}(e:¬p.1=k):dF (p::r) k=dF r k:=by simp[dF,find?_cons,e]
theorem vX (k:κ):∀kvs:List (κ × V),(kvs.any fun cN=>decide (cN.1=k))=(dF kvs k).isSome
 | []=>rfl
 | p::r=>by
  rw[any_cons]
  by_cases e:p.1=k
  ·simp only[mJ e,decide_eq_true e,Bool.true_or,Option.isSome_some]
  ·rw[mK e,decide_eq_false e,Bool.false_or];exact vX k r
theorem JZ (k j:κ) (y:V):∀kvs:List (κ × V),dF (kvs.map fun cN=>if cN.1=k then (cN.1,y) else cN) j=(dF kvs j).map fun x=>if j=k then y else x
 | []=>rfl
 | p::r=>by
  have b3:=JZ k j y r
  rw[map_cons]
  by_cases h:p.1=k
  ·rw[if_pos h]
   by_cases e:p.1=j
   ·rw[mJ (p:=(p.1,y)) e,mJ e,Option.map_some,if_pos (e.symm.trans h)]
   ·rw[mK (p:=(p.1,y)) e,mK e,b3]
  ·rw[if_neg h]
   by_cases e:p.1=j
   ·rw[mJ (p:=p) e,mJ e,Option.map_some,if_neg (fun z=>h (e.trans z))]
   ·rw[mK (p:=p) e,mK e,b3]
theorem Jg (k j:κ) (y:V):∀kvs:List (κ × V),dF kvs k=none→dF (kvs++[(k,y)]) j=if j=k then some y else dF kvs j
 | [],_=>by
  by_cases e:k=j
  ·rw[if_pos e.symm];exact mJ (p:=(k,y)) e
  ·rw[if_neg (fun z=>e z.symm)];exact mK (p:=(k,y)) e
 | p::r,aR=>by
  rw[List.cons_append]
  have aQ:¬p.1=k:=fun z=>by rw[mJ z]at aR;cases aR
  rw[mK aQ]at aR
  have b3:=Jg k j y r aR
  by_cases e:p.1=j
  ·rw[mJ e,mJ e,if_neg (fun z=>aQ (e.trans z))]
  ·rw[mK e,mK e,b3]
theorem vW (kvs:List (κ × V)) (k j:κ) (y:V):dF (putK kvs k y) j=if j=k then some y else dF kvs j:=by
 unfold putK
 by_cases a:(kvs.any fun cN=>decide (cN.1=k))=true
 ·rw[if_pos a,JZ]
  rw[vX]at a
  by_cases e:j=k
  ·obtain⟨x,bh⟩:=Option.isSome_iff_exists.mp a
   rw[if_pos e,e,bh,Option.map_some,if_pos rfl]
  ·rw[if_neg e]
   cases dF kvs j with
   | none=>rfl
   | some x=>rw[Option.map_some,if_neg e]
 ·rw[if_neg a]
  refine Jg k j y kvs ?_
  rw[vX]at a
  cases q:dF kvs k with
  | none=>rfl
  | some x=>rw[q]at a;exact (a rfl).elim
theorem qH (kvs:List (κ × V)) (k:κ) (v:V):(putK kvs k v).length≤kvs.length+1:=by
 unfold putK
 split
 ·rw[length_map];omega
 ·rw[length_append,length_cons,length_nil];omega
theorem Kd {kvs:List (κ × V)}{k:κ}(v:V) (h:dF kvs k=none):putK kvs k v=kvs++[(k,v)]:=by
 unfold putK
 rw[vX,h]
 exact if_neg (by decide)
theorem i1.t9 {o:Option V}{u:Option Value}(r:i1 o u):o.isSome=u.isSome:=by
 cases o with
 | none=>cases u with
  | none=>rfl
  | some _=>exact (show False from r).elim
 | some _=>cases u with
  | none=>exact (show False from r).elim
  | some _=>rfl
theorem i1.getD {o:Option V}{u:Option Value}{d:V}{d':Value}(r:i1 o u) (i4:RelV d d'):RelV (o.getD d) (u.getD d'):=by
 cases o with
 | none=>cases u with
  | none=>exact i4
  | some _=>exact (show False from r).elim
 | some _=>cases u with
  | none=>exact (show False from r).elim
  | some _=>exact r
theorem fY.val {kvs:List (κ × V)}{vs:List (κ × Value)}(r:fY kvs vs) (k:κ):i1 (dF kvs k) (valueAt vs k):=by
 unfold fY at r
 induction r with
 | nil=>exact True.intro
 | @cons p q ps eU h t b3 =>
  obtain⟨aj,az⟩:=h
  by_cases e:p.1=k
  ·have cF:q.1=k:=aj.symm.trans e
   have b:valueAt (q::eU) k=some q.2:=by simp[valueAt,find?_cons,cF]
   rw[mJ e,b];exact az
  ·have cF:¬q.1=k:=fun z=>e (aj.trans z)
   have b:valueAt (q::eU) k=valueAt eU k:=by simp[valueAt,find?_cons,cF]
   rw[mK e,b];exact b3
theorem fY.any {kvs:List (κ × V)}{vs:List (κ × Value)}(r:fY kvs vs) (k:κ):(kvs.any fun cN=>decide (cN.1=k))=vs.any fun cN=>decide (cN.1=k):=by
 unfold fY at r
 induction r with
 | nil=>rfl
 | cons h t b3=>rw[any_cons,any_cons,b3,h.1]
theorem fY.Ex {kvs:List (κ × V)}{vs:List (κ × Value)}(r:fY kvs vs) (k:κ) {y:V}{u:Value}(bO:RelV y u) :
  fY (kvs.map fun cN=>if cN.1=k then (cN.1,y) else cN) (vs.map fun cN=>if cN.1=k then (cN.1,u) else cN):=by
 unfold fY at r ⊢
 induction r with
 | nil=>exact .nil
 | @cons p q ps eU h t b3 =>
  rw[map_cons,map_cons]
  refine .cons ?_ b3
  obtain⟨aj,az⟩:=h
  by_cases e:p.1=k
  ·rw[if_pos e,if_pos (aj.symm.trans e)];exact⟨aj,bO⟩
  ·rw[if_neg e,if_neg (fun z=>e (aj.trans z))];exact⟨aj,az⟩
theorem fY.put {kvs:List (κ × V)}{vs:List (κ × Value)}(r:fY kvs vs) (k:κ) {y:V}{u:Value}(bO:RelV y u):fY (putK kvs k y) (stored vs k u):=by
 unfold putK stored
 rw[r.any k]
 by_cases e:(vs.any fun cN=>decide (cN.1=k))=true
 ·rw[if_pos e,if_pos e];exact r.Ex k bO
 ·rw[if_neg e,if_neg e];exact Paired.snoc r ⟨rfl,bO⟩
theorem fY.drop {kvs:List (κ × V)}{vs:List (κ × Value)}(r:fY kvs vs) (k:κ):fY (j4 kvs k) (without vs k):=by
 unfold fY at r ⊢
 unfold j4 without
 induction r with
 | nil=>exact .nil
 | @cons p q ps eU h t b3 =>
  obtain⟨aj,az⟩:=h
  rw[filter_cons,filter_cons]
  by_cases e:p.1=k
  ·have a:¬decide (p.1≠k)=true:=by simp[e]
   have b:¬decide (q.1≠k)=true:=by simp[aj.symm.trans e]
   rw[if_neg a,if_neg b];exact b3
  ·have cF:¬q.1=k:=fun z=>e (aj.trans z)
   have a:decide (p.1≠k)=true:=by simp[e]
   have b:decide (q.1≠k)=true:=by simp[cF]
   rw[if_pos a,if_pos b];exact .cons ⟨aj,az⟩ b3
theorem fY.keys {kvs:List (κ × V)}{vs:List (κ × Value)}(r:fY kvs vs):kvs.map (·.1)=vs.map (·.1):=by
 unfold fY at r
 induction r with
 | nil=>rfl
 | cons h t b3=>rw[map_cons,map_cons,b3,h.1]
theorem fY.length {kvs:List (κ × V)}{vs:List (κ × Value)}(r:fY kvs vs):kvs.length=vs.length:=Paired.length r
theorem Kv (kvs:List (κ × V)) (k:κ):(j4 kvs k).length≤kvs.length:=length_filter_le _ _
end
theorem oE {P:Program}{w:World}{k:Key}{u:Value}(r:RelV (eu k) u):(iw P w).is k u=true:=by
 cases k with
 | inl i=>obtain⟨t,e⟩:=(show ∃t,u=Value.int i t from r);subst e;exact Ti P w i t
 | inr x=>obtain⟨t,e⟩:=(show ∃t,u=Value.str x t from r);subst e;exact Th P w x t
theorem JG {P:Program}{w:World}:∀{aU:List Key}{us:List Value},Vals (aU.map eu) us→ItemsAre (iw P w) aU us
 | [],_,r=>by rw[map_nil]at r;cases r;exact .nil
 | k::aU,_,r=>by
  rw[map_cons]at r
  cases r with
  | cons h t=>exact .cons (oE h) (JG t)
abbrev KT (H:ao):List (List Key × V)→List (List Key × Addr × Value)→Prop:=Paired fun p q=>p.1=q.1∧H q.2.1=some (.tup (p.1.map eu))∧RelV p.2 q.2.2
theorem KT.val {H:ao}{kvs:List (List Key × V)}{xs:List (List Key × Addr × Value)}(r:KT H kvs xs) (k:List Key):i1 (dF kvs k) ((atKey xs k).map (·.2)):=by
 induction r with
 | nil=>exact True.intro
 | @cons p q ps eU h t b3 =>
  obtain⟨aj,_,az⟩:=h
  by_cases e:p.1=k
  ·have cF:q.1=k:=aj.symm.trans e
   have b:atKey (q::eU) k=some q.2:=by simp[atKey,find?_cons,cF]
   rw[mJ e,b];exact az
  ·have cF:¬q.1=k:=fun z=>e (aj.trans z)
   have b:atKey (q::eU) k=atKey eU k:=by simp[atKey,find?_cons,cF]
   rw[mK e,b];exact b3
theorem KT.Ex {H:ao}{kvs:List (List Key × V)}{xs:List (List Key × Addr × Value)}(r:KT H kvs xs) (k:List Key) {y:V}{u:Value}(bO:RelV y u) :
  KT H (kvs.map fun cN=>if cN.1=k then (cN.1,y) else cN) (xs.map (putAt k u)):=by
 induction r with
 | nil=>exact .nil
 | @cons p q ps eU h t b3 =>
  rw[map_cons,map_cons]
  refine .cons ?_ b3
  obtain⟨aj,az,ck⟩:=h
  unfold putAt
  by_cases e:p.1=k
  ·rw[if_pos e,if_pos (aj.symm.trans e)];exact⟨aj,az,bO⟩
  ·rw[if_neg e,if_neg (fun z=>e (aj.trans z))];exact⟨aj,az,ck⟩
theorem KT.put {H:ao}{kvs:List (List Key × V)}{xs:List (List Key × Addr × Value)}(r:KT H kvs xs) (k:List Key) {b:Addr}{y:V}{u:Value}(aa:H b=some (.tup (k.map eu))) (bO:RelV y u) :
  KT H (putK kvs k y) (storedH xs k b u):=by
 have e:(kvs.any fun cN=>decide (cN.1=k))=(atKey xs k).isSome:=by
  rw[vX,(r.val k).t9,Option.isSome_map]
 unfold putK storedH
 rw[e]
 by_cases q:(atKey xs k).isSome=true
 ·rw[if_pos q,if_pos q];exact r.Ex k bO
 ·rw[if_neg q,if_neg q];exact Paired.snoc r ⟨rfl,aa,bO⟩
theorem KT.keeps {H af:ao}{kvs:List (List Key × V)}{xs:List (List Key × Addr × Value)}(r:KT H kvs xs) (bF:∀b ys,H b=some (.tup ys)→af b=some (.tup ys)):KT af kvs xs :=
 Paired.EC r fun _ _ z=>⟨z.1,bF _ _ z.2.1,z.2.2⟩
section
variable {P:Program}{w:World}{H:ao}{h:Heap}{a:Addr}
theorem Mf {u:fH}(ok:fm P w H h) (e:ou H a u):fR P w H h a u:=e.ok ok
theorem so {kvs:List (Key × V)}(ok:fm P w H h) (e:ou H a (.bR kvs)):kvs.length≤sizeLine∧(a == sysModules)=false∧∃vs,fY kvs vs∧h.DictOf (iw P w) a vs :=
 show fR P w H h a (.bR kvs) from Mf ok e
theorem uF {kvs:List (Key × V)}(ok:fm P w H h) (e:H a=some (.bR kvs)):kvs.length≤sizeLine∧(a == sysModules)=false∧∃vs,fY kvs vs∧h.DictOf (iw P w) a vs:=so ok (.inl e)
theorem uy {aU:List Key}(ok:fm P w H h) (e:H a=some (.tup (aU.map eu))):(tupleKind (iw P w)).is h aU a:=by
 obtain⟨_,its,r,o,aj,az,n,ck⟩:=(show fR P w H h a (.tup (aU.map eu)) from ok a _ e)
 exact⟨o,its.toArray,n,aj,az,ck,by simpa using JG r⟩
theorem sm {kvs:List (List Key × V)}(ok:fm P w H h) (e:ou H a (.gS kvs)):kvs.length≤sizeLine∧(a == sysModules)=false ∧
  ∃xs,KT H kvs xs∧h.DictOfH (tupleKind (iw P w)) a xs:=by
 obtain⟨z,y,xs,r,o,aA,cu,aj,az,ck,dv,gF⟩:=(show fR P w H h a (.gS kvs) from Mf ok e)
 refine⟨z,y,xs,r,o,aA,cu,aj,az,ck,dv,fun x bh=>?_,gF⟩
 have all:∀{l:List (List Key × V)} {m:List (List Key × Addr × Value)},KT H l m→∀x∈m,(tupleKind (iw P w)).is h x.1 x.2.1:=by
  intro l m q
  induction q with
  | nil=>intro x bh;exact nomatch bh
  | @cons p q ps eU bk t b3 =>
   intro x bh
   rcases mem_cons.mp bh with e | bh
   ·subst e
    exact uy ok (by rw[←bk.1];exact bk.2.1)
   ·exact b3 x bh
 exact all r x bh
theorem Yh {kvs:List (List Key × V)}(ok:fm P w H h) (e:H a=some (.gS kvs)):kvs.length≤sizeLine∧(a == sysModules)=false ∧
  ∃xs,KT H kvs xs∧h.DictOfH (tupleKind (iw P w)) a xs:=sm ok (.inl e)
end
def fl (H:ao) (a:Addr) (y:V) (r:Option V):Prop :=
 (∃kvs k,ou H a (.bR kvs)∧y=eu k∧r=dF kvs k)∨∃kvs k b,ou H a (.gS kvs)∧y=.ref b∧H b=some (.tup (k.map eu))∧r=dF kvs k
def oG (H:ao) (a:Addr) (y v:V) (af:ao):Prop :=
 (∃kvs k,H a=some (.bR kvs)∧y=eu k∧kvs.length<sizeLine∧af=upd H a (.bR (putK kvs k v))) ∨
 ∃kvs k b,H a=some (.gS kvs)∧y=.ref b∧H b=some (.tup (k.map eu))∧kvs.length<sizeLine∧af=upd H a (.gS (putK kvs k v))
theorem fl.k {H:ao}{a:Addr}{kvs:List (Key × V)}{k:Key}(e:H a=some (.bR kvs)):fl H a (eu k) (dF kvs k):=.inl ⟨kvs,k,.inl e,rfl,rfl⟩
theorem oG.k {H:ao}{a:Addr}{kvs:List (Key × V)}{k:Key}{v:V}(e:H a=some (.bR kvs)) (aC:kvs.length<sizeLine):oG H a (eu k) v (upd H a (.bR (putK kvs k v))):=.inl ⟨kvs,k,e,rfl,aC,rfl⟩
section
variable {X:bI}{pins:List (Addr × Obj)}{σ:St}{H:ao}{s:Shared}{a:Addr}{y v:V}{u r:Value}{o:Option V}{A:Around}{E:Value→Shared→Prop}
theorem Inv.big (I:Inv X pins σ H s):sysModules<s.heap.objs.size:=by
 have h:mainGlobals<s.heap.objs.size:=(I.mod.glob.keeps I.iu).lt
 exact Nat.lt_trans (by decide) h
theorem UH {Q:Value→Shared→Prop}(bq:A.units+1<cLine) (I:Inv X pins σ H s) (g:fl H a y (some v)) (bO:RelV y u) (h:∀ec aI,Inv X pins σ H aI→RelV v ec→Q ec aI) :
  wpAny (model X.prog X.w) A (getItem (.ref a) u) Q E s:=by
 rcases g with ⟨kvs,k,e,fF,l⟩ | ⟨kvs,k,b,e,fF,ej,l⟩
 ·subst fF
  obtain⟨z,hd,vs,rel,dd⟩:=so I.bM e
  obtain⟨ec,hw,kI⟩:=i1.some_of (v:=v) (o:=valueAt vs k) (by rw[l];exact rel.val k)
  exact wpAny_getItem_of (oE bO) dd.mapOf hw (h ec _ (I.tok _) kI)
 ·subst fF
  cases (show u=Value.ref b from bO)
  obtain⟨z,hd,xs,rel,dd⟩:=sm I.bM e
  obtain⟨ec,hw,kI⟩:=i1.some_of (v:=v) (o:=(atKey xs k).map (·.2)) (by rw[l];exact rel.val k)
  obtain⟨p,aF,aaH⟩:=Option.map_eq_some_iff.mp hw
  refine wpAny_getItem_heap (tupleKind_room_in1 bq) (uy I.bM ej) dd aF ?_
  rw[aaH]
  exact h ec _ (I.tok _) kI
theorem Zq {Q:Value→Shared→Prop}(bq:A.units+1<cLine) (I:Inv X pins σ H s) (g:fl H a y o) (bO:RelV y u) (h:∀aI,Inv X pins σ H aI→Q (.bool o.isSome) aI) :
  wpAny (model X.prog X.w) A (compareOp .In u (.ref a)) Q E s:=by
 rcases g with ⟨kvs,k,e,fF,l⟩ | ⟨kvs,k,b,e,fF,ej,l⟩
 ·subst fF
  obtain⟨z,hd,vs,rel,dd⟩:=so I.bM e
  refine wpAny_in_of (oE bO) hd dd.mapOf ?_
  rw[←(rel.val k).t9,←l]
  exact h _ (I.tok _)
 ·subst fF
  cases (show u=Value.ref b from bO)
  obtain⟨z,hd,xs,rel,dd⟩:=sm I.bM e
  refine wpAny_in_heap (tupleKind_room_in1 bq) (uy I.bM ej) hd dd ?_
  have q:=(rel.val k).t9
  rw[Option.isSome_map]at q
  rw[←q,←l]
  exact h _ (I.tok _)
theorem Wu {Q:Value→Shared→Prop}(bq:A.units+1<cLine) (I:Inv X pins σ H s) (g:fl H a y o) (bO:RelV y u) (h:∀aI,Inv X pins σ H aI→Q (.bool (!o.isSome)) aI) :
  wpAny (model X.prog X.w) A (compareOp .NotIn u (.ref a)) Q E s:=by
 rcases g with ⟨kvs,k,e,fF,l⟩ | ⟨kvs,k,b,e,fF,ej,l⟩
 ·subst fF
  obtain⟨z,hd,vs,rel,dd⟩:=so I.bM e
  refine wpAny_notIn_of (oE bO) hd dd.mapOf ?_
  rw[←(rel.val k).t9,←l]
  exact h _ (I.tok _)
 ·subst fF
  cases (show u=Value.ref b from bO)
  obtain⟨z,hd,xs,rel,dd⟩:=sm I.bM e
  refine wpAny_notIn_heap (tupleKind_room_in1 bq) (uy I.bM ej) hd dd ?_
  have q:=(rel.val k).t9
  rw[Option.isSome_map]at q
  rw[←q,←l]
  exact h _ (I.tok _)
theorem uo {h':Heap}{t':Nat}{b1:fH}(I:Inv X pins σ H s) (lM:x9 (H a)) (aJ:Heap.SameBut a s.heap h') (he:∃q,h'.get? a=some q) (new:fR X.prog X.w (upd H a b1) h' a b1) :
  Inv X pins σ (upd H a b1) { s with heap:=h',toks:=t' } :=
 I.write (x:=a) (e:=a) lM (.inl rfl) (fun b q aa z=>(aJ.2 b aa).trans z) he new
theorem wC {P:Program}{w:World}{af:ao}{h':Heap}{kvs:List (Key × V)}{vs:List (Key × Value)}(z:kvs.length≤sizeLine) (hd:(a == sysModules)=false) (rel:fY kvs vs) (dd:h'.DictOf (iw P w) a vs) :
  fR P w af h' a (.bR kvs):=⟨z,hd,vs,rel,dd⟩
theorem UG {af:ao}{Q:Unit→Shared→Prop}(bq:A.units+1<cLine) (I:Inv X pins σ H s) (g:oG H a y v af) (bO:RelV y u) (bX:RelV v r) (h:∀aI,Inv X pins σ af aI→Q () aI) :
  wpAny (model X.prog X.w) A (setItem (.ref a) u r) Q E s:=by
 rcases g with ⟨kvs,k,e,fF,l,HB⟩ | ⟨kvs,k,b,e,fF,ej,l,HB⟩
 ·subst fF HB
  obtain⟨z,hd,vs,rel,dd⟩:=uF I.bM e
  have hz:vs.length≤sizeLine:=by rw[←rel.length];exact z
  have aC:(putK kvs k v).length≤sizeLine:=by have:=qH kvs k v;omega
  refine wpAny_setItem_pairs (hsz:=hz) (oE bO) dd fun h' kR aJ=>h _ ?_
  have he:∃q,h'.get? a=some q:=let ⟨q,_,_,bk,_⟩:=kR;⟨q,bk⟩
  exact uo I (by rw[e];exact True.intro) aJ he (wC aC hd (rel.put k bX) kR)
 ·subst fF HB
  cases (show u=Value.ref b from bO)
  obtain⟨z,hd,xs,rel,dd⟩:=Yh I.bM e
  have hz:xs.length≤sizeLine:=by rw[←Paired.length rel];exact z
  have aC:(putK kvs k v).length≤sizeLine:=by have:=qH kvs k v;omega
  refine wpAny_setItem_heap (hsz:=hz) (tupleKind_room_in1 bq) (uy I.bM ej) dd fun h' kR aJ=>h _ ?_
  obtain⟨q,aA,cu,bk,az,ck,dv,_,gF⟩:=kR
  refine uo I (by rw[e];exact True.intro) aJ ⟨q,bk⟩ ⟨aC,hd,_,(rel.put k ej bX).keeps fun c ys hA=>?_,q,aA,cu,bk,az,ck,dv,gF⟩
  rw[aB (dt hA e (fun z=>nomatch z))]
  exact hA
end
section
variable {X:bI}{pins:List (Addr × Obj)}{σ:St}{H:ao}{s:Shared}{a:Addr}{kvs:List (Key × V)}{k:Key}{u:Value}{A:Around}{E:Value→Shared→Prop}
theorem adp {Q:Unit→Shared→Prop}(I:Inv X pins σ H s) (e:H a=some (.bR kvs)) (bO:RelV (eu k) u) (l:(dF kvs k).isSome=true) (h:∀aI,Inv X pins σ (upd H a (.bR (j4 kvs k))) aI→Q () aI) :
  wpAny (model X.prog X.w) A (delItem (.ref a) u) Q E s:=by
 obtain⟨z,hd,vs,rel,dd⟩:=uF I.bM e
 refine wpAny_delItem_slot dd.typeIs (by decide) PySem.F.slot_dict_delitem
  (call_meetsIn PySem.F.slot_dict_delitem dd.typeIs PySem.F.entry_dict_delitem (PySem.F.args_dict_delitem_2 _ _) (meets_dict_delitem_pairs (iw X.prog X.w) a (oE bO)) ⟨vs,dd,by rw[←rel.length];exact z,by rw[←(rel.val k).t9];exact l,fun h' kR aJ=>h _ ?_⟩)
 have he:∃q,h'.get? a=some q:=let ⟨q,_,_,bk,_⟩:=kR;⟨q,bk⟩
 exact uo I (by rw[e];exact True.intro) aJ he (wC (le_trans (Kv kvs k) z) hd (rel.drop k) kR)
theorem Yi {v:V}{more:List Value}{Q:Value→Shared→Prop}(I:Inv X pins σ H s) (e:H a=some (.bR kvs)) (bO:RelV (eu k) u) (l:dF kvs k=some v) (hm:more=[]∨∃x,more=[x])
  (h:∀ec aI,Inv X pins σ (upd H a (.bR (j4 kvs k))) aI→RelV v ec→Q ec aI):wpAny (model X.prog X.w) A (call (.builtin "dict.pop") (.ref a::u::more)) Q E s:=by
 obtain⟨z,hd,vs,rel,dd⟩:=uF I.bM e
 obtain⟨ec,hw,kI⟩:=i1.some_of (v:=v) (o:=valueAt vs k) (by rw[←l];exact rel.val k)
 have aF:(keyPart u).isSome=true:=by
  cases k with
  | inl i=>obtain⟨t,q⟩:=(show ∃t,u=Value.int i t from bO);subst q;rfl
  | inr x=>obtain⟨t,q⟩:=(show ∃t,u=Value.str x t from bO);subst q;rfl
 have bo:argsOk "dict.pop" ⟨.ref a::u::more,[]⟩:=by
  rcases hm with q | ⟨x,q⟩
  ·subst q;exact PySem.F.args_dict_pop_2 _ _
  ·subst q;exact PySem.F.args_dict_pop_3 _ _ _
 refine call_meetsIn PySem.F.slot_dict_pop dd.typeIs PySem.F.entry_dict_pop bo (meets_dict_pop_there (iw X.prog X.w) a (oE bO) more hm aF)
  ⟨vs,ec,dd,by rw[←rel.length];exact z,hw,fun h' kR aJ=>h ec _ ?_ kI⟩
 have he:∃q,h'.get? a=some q:=let ⟨q,_,_,bk,_⟩:=kR;⟨q,bk⟩
 exact uo I (by rw[e];exact True.intro) aJ he (wC (le_trans (Kv kvs k) z) hd (rel.drop k) kR)
end
def NC (i:Expr):Prop:=∀b2 i7,subscripted i false b2 i7=operate [b2,i7] (getItem b2 i7)
theorem VQ {prog:Program}{w:World}{A:Around}{E:Value→Shared→Prop}{s:Shared}{env:Env}{value slice:Expr}{pos:Pos}{T id:String}{Q:Value→Shared→Prop}
  (aC:typeLookup (.type T) "__getitem__"=pure (some (.builtin id))) (aJ:NC slice)
  (h:wpAny (model prog w) A (eval value env) (fun o dw=>wpAny (model prog w) A (eval slice env) (fun i iR=>iR.TypeIs o T∧wpAny (model prog w) A (getItem o i) Q E iR) E dw) E s) :
  wpAny (model prog w) A (eval (.Subscript value slice pos) env) Q E s:=by
 refine Subscript_ (wpAny_mono h (fun o dw fU=>wpAny_mono fU (fun i iR nB=>?_) fun _ _ x=>x) fun _ _ x=>x)
 obtain⟨i9,nB⟩:=nB
 unfold subscriptTail
 refine wpAny_bind ?_
 rw[getitemInPython_of_ne i9.not_modules]
 refine wpAny_bind (wpAny_specialOf i9 aC ?_)
 have fin:wpAny (model prog w) A (subscripted slice false o i) (fun r hi=>wpAny (model prog w) A (letTemporaryGo value o r >>= fun _=>pure r) Q E hi) E iR:=by
  rw[aJ o i]
  exact wpAny_operating (wpAny_mono nB (fun r hi yG=>wpAny_bind (wpAny_letTemporaryGo (wpAny_pure yG))) fun _ _ x=>x)
 first
  | exact wpAny_pure (wpAny_bind fin)
  | exact wpAny_bind (wpAny_pure (wpAny_bind fin))
  | exact wpAny_bind fin
theorem To {X:bI}{pins:List (Addr × Obj)}{σ:St}{H:ao}{s:Shared}{a:Addr}{y:V}{o:Option V}(I:Inv X pins σ H s) (g:fl H a y o):s.TypeIs (.ref a) "dict":=by
 rcases g with ⟨kvs,k,e,_,_⟩ | ⟨kvs,k,b,e,_,_,_⟩
 ·obtain⟨_,_,vs,_,dd⟩:=so I.bM e
  exact dd.typeIs
 ·obtain⟨_,_,xs,_,dd⟩:=sm I.bM e
  exact dd.typeIs
def XA (b_ ty:TE):TE:=fun σ H Q=>b_ σ H fun x H1=>ty σ H1 fun y av=>∃a v,x=.ref a∧fl av a y (some v)∧Q v av
def Yt (ty b_:TE):TE:=fun σ H Q=>ty σ H fun y H1=>b_ σ H1 fun x av=>∃a o,x=.ref a∧fl av a y o∧Q (.b0 o.isSome) av
def VP (ty b_:TE):TE:=fun σ H Q=>ty σ H fun y H1=>b_ σ H1 fun x av=>∃a o,x=.ref a∧fl av a y o∧Q (.b0 (!o.isSome)) av
def XM (b_ ty jr:TE):fX:=fun D σ H=>jr σ H fun v H1=>b_ σ H1 fun x av=>ty σ av fun y aS=>∃a cB,x=.ref a∧oG aS a y v cB∧D.dk σ cB
section
variable {X:bI}{o i e value:Expr}{pos pos' MI:Pos}{b_ ty jr:TE}
theorem e1 (bq:X.A.units+1<cLine) (aD:b8 X o b_) (aP:b8 X i ty) (aJ:NC i):b8 X (.Subscript o i pos) (XA b_ ty):=by
 intro pins s σ H Q I h
 refine VQ PySem.F.slot_dict_getitem.lookup aJ (bT (aD pins s σ H _ I h) fun u s1 ⟨x,H1,a_,bN,bu⟩=>bT (aP pins s1 σ H1 _ a_ bu) fun i7 s2 ⟨y,av,cK,bO,a,v,ex,g,aW⟩=>?_)
 subst ex
 obtain rfl:u=Value.ref a:=bN
 exact⟨To cK g,UH bq cK g bO fun ec s3 cE kI=>⟨v,av,cE,kI,aW⟩⟩
theorem DQ (bq:X.A.units+1<cLine) (aP:b8 X i ty) (aD:b8 X o b_):HP X .In i o (Yt ty b_):=by
 intro pins s σ H Q I h
 refine bT (aP pins s σ H _ I h) fun i7 s1 ⟨y,H1,a_,bO,bu⟩=>bT (aD pins s1 σ H1 _ a_ bu) fun u s2 ⟨x,av,cK,bN,a,b2,ex,g,aW⟩=>?_
 subst ex
 obtain rfl:u=Value.ref a:=bN
 exact Zq bq cK g bO fun s3 cE=>⟨.b0 b2.isSome,av,cE,rfl,aW⟩
theorem Cs (bq:X.A.units+1<cLine) (aP:b8 X i ty) (aD:b8 X o b_):HP X .NotIn i o (VP ty b_):=by
 intro pins s σ H Q I h
 refine bT (aP pins s σ H _ I h) fun i7 s1 ⟨y,H1,a_,bO,bu⟩=>bT (aD pins s1 σ H1 _ a_ bu) fun u s2 ⟨x,av,cK,bN,a,b2,ex,g,aW⟩=>?_
 subst ex
 obtain rfl:u=Value.ref a:=bN
 exact Wu bq cK g bO fun s3 cE=>⟨.b0 (!b2.isSome),av,cE,rfl,aW⟩
theorem mO (bq:X.A.units+1<cLine) (aD:b8 X o b_) (aP:b8 X i ty) (aX:b8 X value jr) (aJ:swapsWith value (some (.Subscript o i pos')) pos.line X.env=pure false) :
  jV X (.Assign [.Subscript o i pos'] value pos) (XM b_ ty jr):=by
 intro pins s σ H D I h
 refine wpAny_Assign_Subscript (bT (aX pins s σ H _ I h) fun r s1 ⟨v,H1,a_,bX,bu⟩=>bT (aD pins s1 σ H1 _ a_ bu) fun u s2 ⟨x,av,cK,bN,aW⟩=>bT (aP pins s2 σ av _ cK aW) fun i7 s3 ⟨y,aS,cE,bO,a,cB,ex,g,fs⟩=>?_) aJ
 subst ex
 obtain rfl:u=Value.ref a:=bN
 exact UG bq cE g bO bX fun s4 jX=>⟨σ,cB,jX,fs⟩
end
theorem CP {P:Program}{w:World}{H:ao}(h:Heap) (aa:sysModules<h.objs.size):fR P w H (h.push { cls:=.type "dict",data:=.dict #[] }) h.objs.size (.bR []) :=
 ⟨zero_le _,beq_eq_false_iff_ne.mpr (Ne.symm (ne_of_lt aa)),[],.nil,Heap.DictOf.new h⟩
def WB:TE:=fun _ H Q=>∀p,H p=none→Q (.ref p) (upd H p (.bR []))
section
variable {X:bI}{pos:Pos}
theorem v5:b8 X (.Dict [] [] pos) WB:=fun pins s σ H Q I h =>
 wpAny_Dict_empty ⟨.ref s.heap.objs.size,_,I.laid (a:=s.heap.objs.size) (o:=.bR []) (t':=s.toks) (fun _ _ q=>get?_push_of_some _ q) (le_refl _) (CP s.heap I.big),rfl,h _ (I.bM.fresh (le_refl _))⟩
end
def Di:List (TE × TE)→St→ao→(List (V × V)→ao→Prop)→Prop
 | [],_,H,Q=>Q [] H
 | (bB,jr)::r,σ,H,Q=>bB σ H fun x H1=>jr σ H1 fun y av=>Di r σ av fun ps aS=>Q ((x,y)::ps) aS
abbrev Sm:List (V × V)→List (Value × Value)→Prop:=Paired fun p q=>RelV p.1 q.1∧RelV p.2 q.2
def Bl (X:bI) (pos:Pos) (keys:List (Option Expr)) (values:List Expr) (p1:List (TE × TE)):Prop :=
 ∀(pins:List (Addr × Obj)) (s:Shared) (σ:St) (H:ao) (Q:List (V × V)→ao→Prop),Inv X pins σ H s→Di p1 σ H Q →
  wpAny (model X.prog X.w) X.A (evalPairs (pairTrees keys values X.env pos)) (fun vs aI=>∃ps af,Inv X pins σ af aI∧Sm ps vs∧Q ps af) X.dS s
theorem V2 {X:bI}{pos:Pos}:Bl X pos [] [] []:=fun pins s σ H Q I h=>pairTrees_nil_walk ⟨[],H,I,.nil,h⟩
theorem zC {X:bI}{pos:Pos}{k v:Expr}{aU:List (Option Expr)}{vs:List Expr}{bB jr:TE}{p1:List (TE × TE)}(aQ:b8 X k bB) (aX:b8 X v jr) (aE:Bl X pos aU vs p1) :
  Bl X pos (some k::aU) (v::vs) ((bB,jr)::p1):=fun pins s σ H Q I h =>
 pairTrees_cons_walk (bT (aQ pins s σ H _ I h) fun u s1 ⟨x,H1,a_,bN,bu⟩=>bT (aX pins s1 σ H1 _ a_ bu) fun eG s2 ⟨y,av,cK,bO,aW⟩ =>
  bT (aE pins s2 σ av _ cK aW) fun ws s3 ⟨ps,aS,cE,rel,fs⟩=>⟨(x,y)::ps,aS,cE,.cons ⟨bN,bO⟩ rel,fs⟩)
def mT (kvs more:List (Key × V)):List (Key × V):=more.foldl (fun acc cN=>putK acc cN.1 cN.2) kvs
theorem fY.merge:∀{more:List (Key × V)}{rs:List (Key × Value)}{kvs:List (Key × V)}{vs:List (Key × Value)},fY more rs→fY kvs vs→fY (mT kvs more) (merged vs rs):=by
 intro more rs kvs vs r
 unfold fY at r
 induction r generalizing kvs vs with
 | nil=>intro q;exact q
 | @cons p q ps eU h t b3 =>
  intro gN
  have e:fY (putK kvs p.1 p.2) (stored vs q.1 q.2):=by
   have:=gN.put p.1 h.2
   rw[←h.1];exact this
  exact b3 e
theorem BW:∀(more kvs:List (Key × V)),(mT kvs more).length≤kvs.length+more.length
 | [],kvs=>by show kvs.length≤kvs.length+0;omega
 | p::r,kvs=>by
  have aj:=BW r (putK kvs p.1 p.2)
  have az:=qH kvs p.1 p.2
  show (mT (putK kvs p.1 p.2) r).length≤_
  rw[length_cons];omega
theorem Jc {P:Program}{w:World}:∀{kvs:List (Key × V)}{ws:List (Value × Value)},Sm (kvs.map fun cN=>(eu cN.1,cN.2)) ws→∃rs,Carries (iw P w) ws rs∧fY kvs rs
 | [],_,r=>by rw[map_nil]at r;cases r;exact⟨[],True.intro,.nil⟩
 | p::kvs,_,r=>by
  rw[map_cons]at r
  cases r with
  | @cons a b as bs h t =>
   obtain⟨rs,c,q⟩:=Jc (P:=P) (w:=w) t
   obtain⟨eY,gh⟩:=b
   exact⟨(p.1,gh)::rs,⟨oE h.1,rfl,c⟩,.cons ⟨rfl,h.2⟩ q⟩
def Xz (p1:List (TE × TE)):TE:=fun σ H Q=>∀p,H p=none→Di p1 σ (upd H p (.bR [])) fun ps av=>av p=some (.bR [])∧∃kvs:List (Key × V),ps=kvs.map (fun cN=>(eu cN.1,cN.2))∧kvs.length≤15∧Q (.ref p) (upd av p (.bR (mT [] kvs)))
theorem V5 {X:bI}{pos:Pos}{keys:List (Option Expr)}{values:List Expr}{p1:List (TE × TE)}(h:Bl X pos keys values p1) (uQ:keys.all (·.isSome)=true) (aC:keys.length=values.length) (h0:keys≠[])
  (abg:keys.length≤15):b8 X (.Dict keys values pos) (Xz p1):=by
 intro pins s σ H Q I q
 have aR:=I.bM.fresh (le_refl s.heap.objs.size)
 have a_:=I.laid (a:=s.heap.objs.size) (o:=.bR []) (h':=s.heap.push { cls:=.type "dict",data:=.dict #[] }) (t':=s.toks) (fun _ _ q=>get?_push_of_some _ q) (le_refl _) (CP s.heap I.big)
 refine wpAny_Dict_walk (knd:=iw X.prog X.w) uQ aC h0 abg (bT (h pins _ σ _ _ a_ (q _ aR)) fun ws s2 ⟨ps,av,cK,rel,e,kvs,cu,lk,aW⟩=>?_)
 subst cu
 obtain⟨rs,c,vm⟩:=Jc (P:=X.prog) (w:=X.w) rel
 obtain⟨z,hd,adC,gN,dd⟩:=uF cK.bM e
 cases gN
 refine⟨rs,c,dd,fun h' kR aJ=>⟨.ref s.heap.objs.size,_,?_,rfl,aW⟩⟩
 have hz:(mT [] kvs).length≤sizeLine:=by
  have aj:=BW kvs []
  rw[length_nil]at aj
  rw[sizeLine_eq];omega
 have he:∃q,h'.get? s.heap.objs.size=some q:=let ⟨q,_,_,bk,_⟩:=kR;⟨q,bk⟩
 exact uo cK (by rw[e];exact True.intro) aJ he (wC hz hd (vm.merge .nil) kR)
structure ac5 (X:bI) (o:Expr) (m:Str) (apos:Pos) (e:Expr) (ha:Pos):Prop where
 base:attributeBase o m X.env (eval o X.env)=eval o X.env
 F_:((backTo ha (starEach [e] X.env)).all (fun x => !x.1) && (backToKw ha (keywordEach [] X.env)).all (fun x=>x.1.isSome)
  && decide (([e]:List Expr).length+([]:List Keyword).length+(if ([]:List Keyword).isEmpty then 0 else 1)<30))=true
 line:(apos.endLine == ha.line)=true
 trees:backTo ha (starEach [e] X.env)=[(false,eval e X.env)]
structure M2 (X:bI) (o:Expr) (m:Str) (apos:Pos) (e f:Expr) (ha:Pos):Prop where
 base:attributeBase o m X.env (eval o X.env)=eval o X.env
 F_:((backTo ha (starEach [e,f] X.env)).all (fun x => !x.1) && (backToKw ha (keywordEach [] X.env)).all (fun x=>x.1.isSome)
  && decide (([e,f]:List Expr).length+([]:List Keyword).length+(if ([]:List Keyword).isEmpty then 0 else 1)<30))=true
 line:(apos.endLine == ha.line)=true
 trees:backTo ha (starEach [e,f] X.env)=[(false,eval e X.env),(false,eval f X.env)]
def Gu (H:ao) (a:Addr):Prop:=(∃kvs,ou H a (.bR kvs))∨∃kvs,ou H a (.gS kvs)
theorem LV {X:bI}{pins:List (Addr × Obj)}{σ:St}{H:ao}{s:Shared}{a:Addr}(I:Inv X pins σ H s) (d:Gu H a) :
  s.TypeIs (.ref a) "dict"∧(∀b,Value.ref a=.ref b→∃b1,s.heap.get? b=some b1∧b1.dict=none)∧(a == sysModules)=false:=by
 rcases d with ⟨kvs,e⟩ | ⟨kvs,e⟩
 ·obtain⟨_,hd,vs,_,dd⟩:=so I.bM e
  refine⟨dd.typeIs,fun b q=>?_,hd⟩
  cases q
  obtain⟨b1,_,_,aj,az,_⟩:=dd
  exact⟨b1,aj,az.2.1⟩
 ·obtain⟨_,hd,xs,_,dd⟩:=sm I.bM e
  refine⟨dd.typeIs,fun b q=>?_,hd⟩
  cases q
  obtain⟨b1,_,_,aj,az,_⟩:=dd
  exact⟨b1,aj,az.2.1⟩
section
variable {X:bI}{pins:List (Addr × Obj)}{σ:St}{H:ao}{s:Shared}{a:Addr}{y d:V}{u r:Value}{o:Option V}{A:Around}{E:Value→Shared→Prop}
theorem Xp {Q:Value→Shared→Prop}(bq:A.units+1<cLine) (I:Inv X pins σ H s) (g:fl H a y o) (bO:RelV y u) (i4:RelV d r) (h:∀ec aI,Inv X pins σ H aI→RelV (o.getD d) ec→Q ec aI) :
  wpAny (model X.prog X.w) A (call (.builtin "dict.get") [.ref a,u,r]) Q E s:=by
 rcases g with ⟨kvs,k,e,fF,l⟩ | ⟨kvs,k,b,e,fF,ej,l⟩
 ·subst fF
  obtain⟨z,hd,vs,rel,dd⟩:=so I.bM e
  refine call_meetsIn slot_dict_get dd.typeIs PySem.F.entry_dict_get (PySem.F.args_dict_get_3 _ _ _) (meets_dict_get_default (iw X.prog X.w) a (oE bO) hd r) ⟨_,dd.mapOf,h _ _ (I.tok _) ?_⟩
  rw[l]
  exact (rel.val k).getD i4
 ·subst fF
  cases (show u=Value.ref b from bO)
  obtain⟨z,hd,xs,rel,dd⟩:=sm I.bM e
  refine call_meetsIn slot_dict_get dd.typeIs PySem.F.entry_dict_get (PySem.F.args_dict_get_3 _ _ _) (meetsH_dict_get_default (tupleKind (iw X.prog X.w)) a b hd r) ⟨tupleKind_room_in1 bq,k,xs,uy I.bM ej,dd,h _ _ (I.tok _) ?_⟩
  rw[l]
  exact (rel.val k).getD i4
end
def WC (b_ ty Bu:TE):TE:=fun σ H Q=>b_ σ H fun x H1=>∃a,x=.ref a∧Gu H1 a∧ty σ H1 fun y av=>Bu σ av fun z aS=>∃o,fl aS a y o∧Q (o.getD z) aS
def WA (b_ ty:TE):TE:=fun σ H Q=>b_ σ H fun x H1=>∃a,x=.ref a∧Gu H1 a∧ty σ H1 fun y av=>∃kvs k v,av a=some (.bR kvs)∧y=eu k∧dF kvs k=some v∧Q v (upd av a (.bR (j4 kvs k)))
section
variable {X:bI}{o e f:Expr}{apos ha:Pos}{b_ ty Bu:TE}
theorem U9 (bq:X.A.units+1<cLine) (aD:b8 X o b_) (he:b8 X e ty) (hf:b8 X f Bu) (m:M2 X o "get" apos e f ha):b8 X (.Call (.Attribute o "get" apos) [e,f] [] ha) (WC b_ ty Bu):=by
 intro pins s σ H Q I h
 refine wpAny_Call_method m.base m.F_ m.line PySem.F.plainAttrs_dict slot_dict_get PySem.F.type_dict_get (bT (aD pins s σ H _ I h) fun u s1 ⟨x,H1,a_,bN,a,ex,d,bu⟩=>?_)
 subst ex
 obtain rfl:u=Value.ref a:=bN
 obtain⟨t1,d_,_⟩:=LV a_ d
 refine⟨t1,d_,?_⟩
 rw[m.trees]
 refine Calls.callWith_builtin rfl (Calls.evalArgs_plain (Calls.spliced_cons (bT (he pins s1 σ H1 _ a_ bu) fun i7 s2 ⟨y,av,cK,bO,aW⟩ =>
  Calls.spliced_cons (bT (hf pins s2 σ av _ cK aW) fun fv s3 ⟨z,aS,cE,o4,b2,g,fs⟩=>Calls.spliced_nil ?_))))
 exact Xp bq cE g bO o4 fun ec s4 jX kI=>⟨_,aS,jX,kI,fs⟩
theorem CI (aD:b8 X o b_) (he:b8 X e ty) (m:ac5 X o "pop" apos e ha):b8 X (.Call (.Attribute o "pop" apos) [e] [] ha) (WA b_ ty):=by
 intro pins s σ H Q I h
 refine wpAny_Call_method m.base m.F_ m.line PySem.F.plainAttrs_dict PySem.F.slot_dict_pop PySem.F.type_dict_pop (bT (aD pins s σ H _ I h) fun u s1 ⟨x,H1,a_,bN,a,ex,d,bu⟩=>?_)
 subst ex
 obtain rfl:u=Value.ref a:=bN
 obtain⟨t1,d_,_⟩:=LV a_ d
 refine⟨t1,d_,?_⟩
 rw[m.trees]
 refine Calls.callWith_builtin rfl (Calls.evalArgs_plain (Calls.spliced_cons (bT (he pins s1 σ H1 _ a_ bu) fun i7 s2 ⟨y,av,cK,bO,kvs,k,v,aY,fF,l,aW⟩=>Calls.spliced_nil ?_)))
 subst fF
 exact Yi cK aY bO l (.inl rfl) fun ec s3 cE kI=>⟨v,_,cE,kI,aW⟩
end
section
variable {X:bI}{pins:List (Addr × Obj)}{σ:St}{H:ao}{s:Shared}{a:Addr}{kvs:List (Key × V)}{A:Around}{E:Value→Shared→Prop}
end
section
variable {X:bI}{pins:List (Addr × Obj)}{σ:St}{H:ao}{s:Shared}{a:Addr}{y:V}{u:Value}{A:Around}{E:Value→Shared→Prop}
end
end L2
namespace RI
open PySem PySem.W PySem.Calls PyProof.Rows
theorem SO {P:Params}{h:Heap}:∀(ns:List Int) (vs:List Value),WellAll P h vs (ns.map WData.int)→IntsAre vs ns:=by
 intro ns
 induction ns with
 | nil =>
  intro vs w
  rw[map_nil]at w
  cases w
  exact .nil
 | cons n ns b3 =>
  intro vs w
  rw[map_cons]at w
  cases w with
  | cons a b =>
   cases a
   exact .cons _ _ (b3 _ b)
theorem T9 {l:OpenLaw}{n:Nat}(aR:l.most=some n) {P:Params}{h:Heap}{args:List WData}{vals:List Value}
  (Az:l.row.toRowW.claim.pre args=true) (FE:WellAll P h vals args) :
  ∃a vs ns,vals=[Value.ref a]∧args=[WData.list (ns.map WData.int)]∧h.get? a=some { cls:=.type "list",data:=.seq vs.toArray }∧IntsAre vs ns∧ns.length≤n:=by
 have aaC:WShape.hasAll [] args [.list .int]=true:=(pre_splitW Az).1
 have ai:l.pre.holds [] { args:=args }=true:=(pre_splitW Az).2
 obtain⟨d,r,rfl,aj,az⟩:=hasAllW_cons aaC
 obtain rfl:=hasAllW_nil az
 obtain⟨xs,rfl,ck⟩:=hasW_list aj
 obtain⟨ns,rfl⟩:=items_int ck
 have hlen:ns.length≤n:=by
  unfold OpenLaw.pre at ai
  have dv:(WTm.not (.lt (.lit (.int (n:Int))) (.len (.arg 0)))).holds [] { args:=[.list (ns.map .int)] }=true:=by
   have dv:=(holds_andW ai).1
   rw[aR]at dv
   exact dv
  have gF:=condW_of dv (w_not (w_lt w_lit (w_len_list (w_arg rfl))))
  rw[length_map]at gF
  refine Nat.le_of_not_lt fun q=>?_
  have ni:(n:Int)<((ns.length:Nat):Int):=by omega
  first
   | (rw[decide_eq_true ni]at gF;exact absurd gF (by decide))
   | (simp at gF;omega)
 cases FE with
 | cons fh eG =>
  cases eG
  cases fh with
  | list aD uQ=>exact⟨_,_,ns,rfl,rfl,aD,SO ns _ uQ,hlen⟩
theorem Uc (l:OpenLaw) (args:List WData):l.row.toRowW.claim.post args (.bool true) args=true :=
 postW_of (r:=l.row.toRowW) (X:=(true == true))
  (show WShape.has [] (.bool true) .bool=true by first | rfl | decide | simp[WShape.has,WShape.arms,WShape.armsAll])
  (show (WTm.eq .res (.lit (.bool true))).value [] { args:=args,res:=some (.bool true),after:=args }=some (.bool (true == true)) from w_eq_bool (w_res rfl) w_lit) rfl
theorem Tu {l:OpenLaw}{n:Nat}{q:Program}{loose:List Str}{vD:(Str→Option Value)→Heap→Prop}{rO:World→Heap→Prop}{d:DefRec}
  (aR:l.most=some n) (xT:d.params.defaults=[])
  (call:∀(w:World) (fT dw:Shared) (mg nt:Str→Option Value) (gw:Addr) (o:Obj) (pm cd doc:Value) (a:Addr) (vs:List Value) (ns:List Int),
   Ground q loose [] vD w fT mg nt dw.heap→rO w dw.heap →
   dw.heap.get? gw=some o→o.data=.func (docDef d.name d.params d.body d.scope pm cd doc)→dw.heap.CodeRec cd d.name→mg d.name=some (.ref gw) →
   dw.heap.get? a=some { cls:=.type "list",data:=.seq vs.toArray }→IntsAre vs ns→ns.length≤n→dw.gens = #[] →
   codeAny (model l.prog w) callerA (.call (.ref gw) ⟨[.ref a],[]⟩) (fun r aI=>r=.ok (.ret (.bool true))∧OldK dw.heap aI.heap∧aI.os=dw.os∧AllBare aI.gens) dw) :
  WalkO q loose vD rO l.row.toRowW d [] (fun f vs=>PySem.call f vs):=by
 intro w fT dw mg nt G Y gw o pm cd doc BE eu aD hd lD fE xO cO args vals as Az adz ad1 FE nV
 obtain rfl:BE=.none:=Dflts.none fE xT
 obtain rfl:eu=.none:=Dflts.noKw fE
 obtain⟨a,vs,ns,rfl,rfl,EF,hints,hlen⟩:=T9 aR Az FE
 refine enter_call (codeAny_mono (call w fT dw mg nt gw o pm cd doc a vs ns G Y aD (fd_plain hd) lD xO EF hints hlen cO) fun r aI bk=>?_)
 obtain⟨rfl,az,ck,dv⟩:=bk
 exact⟨.inl ⟨.bool true,.bool true,[],rfl,fun _=>rfl,.bool true,Uc l _,fun _=>⟨List.Pairwise.nil,fun _ hm=>(nomatch hm)⟩⟩,az,ck,dv⟩
section
variable {prog:Program}{w:World}{A:Around}{E:Value→Shared→Prop}{s:Shared}{K:Frag}
end
end RI
namespace L2
open PySem PySem.Spec PyProof.Rows
theorem Jf:∀{vs:List Value}{ns:List Int},IntsAre vs ns→Vals (ns.map V.int) vs
 | _,_,.nil=>.nil
 | _,_,.cons n t h=>.cons ⟨t,rfl⟩ (Jf h)
def EN (H:ao):Prop:=∀b,H b=none∨∃o xs,H b=some (.jJ o (.lst xs))
theorem VA {P:Program}{w:World}{K:PySem.W.Frag}{mg nt:Str→Option Value}{fp:m_}{k:Nat}{gw a:Addr}{fd:FuncData}{x:Str}{sp:dn}{dw:Shared}{vs:List Value}{ns:List Int}
  (ov:K.In dw.heap) (PN:dw.heap.Ns mainGlobals mg) (aa:dw.heap.Ns builtinsNs nt) (aa9:∀x:Str,x≠"__name__"→nt x=bootBuiltins x) (Zf:dw.heap.NoLimit) (cO:dw.gens = #[])
  (bo:dw.heap.get? a=some { cls:=.type "list",data:=.seq vs.toArray }) (aP:IntsAre vs ns) (aC:ns.length≤sizeLine) (aE:gJ k callerA)
  (F:∀base:Heap,K.In base→base.Ns mainGlobals mg→bp P w K mg base fp k gw fd [x] sp) (Ye:∀(s:Shared) (u:Value),BindsTo s fd ⟨[u],[]⟩ [(x,u)])
  (oR:∀H:ao,EN H→aM K H a (ns.map V.int)→sp [.ref a] H (fun v _=>v=.b0 true) fun _ _ _=>False)
  (F8:∀H e aI,fp [] H dw (fun _ _ _=>False) e aI→False) :
  codeAny (model P w) callerA (.call (.ref gw) ⟨[.ref a],[]⟩) (fun r aI=>r=.ok (.ret (.bool true))∧OldK dw.heap aI.heap∧aI.os=dw.os∧AllBare aI.gens) dw:=by
 have bX:=Jf aP
 have Y6:=aP.length
 have core:∀H:ao,EN H→aM K H a (ns.map V.int)→fm P w H dw.heap→(∀b,H b≠none→b=a)→(H a≠none→K.lookup a=none) →
   codeAny (model P w) callerA (.call (.ref gw) ⟨[.ref a],[]⟩) (fun r aI=>r=.ok (.ret (.bool true))∧OldK dw.heap aI.heap∧aI.os=dw.os∧AllBare aI.gens) dw:=by
  intro H yJ hY bM tC i_
  have Lp:∀{b:Addr} {o:Obj},dw.heap.get? b=some o→H b=none→(pY dw.heap H).get? b=some o:=fun e n=>VE e n
  have xu:∀{b:Addr} {o:Obj} {aA:Array DictEntry} {cu:Nat},dw.heap.get? b=some o→o.data=.dict aA cu→H b=none:=fun {b o aA cu} e d=>by
   cases q:H b with
   | none=>rfl
   | some u =>
    have cF:b=a:=tC b (by rw[q];simp)
    subst cF
    rw[bo]at e;cases e
    have d':Data.seq vs.toArray _=Data.dict aA cu:=d
    cases d'
  have AM:∀{b:Addr} {m:Str→Option Value},dw.heap.Ns b m→(pY dw.heap H).Ns b m:=fun {b m} ⟨o,aA,cu,e,d,r⟩=>⟨o,aA,cu,Lp e (xu e d),d,r⟩
  have P6:K.In (pY dw.heap H):=fun b o e=>Lp (ov b o e) (by
   cases q:H b with
   | none=>rfl
   | some u =>
    have cF:b=a:=tC b (by rw[q];simp)
    subst cF
    rw[i_ (by rw[q];simp)]at e;cases e)
  have acE:Mod K mg (pY dw.heap H):=⟨P6,AM PN,⟨nt,AM aa,aa9⟩,let ⟨tw,aj,az⟩:=Zf;⟨tw,AM aj,az⟩⟩
  have e0:sL P w K mg (pY dw.heap H) callerA [] dw H:=⟨rfl,acE,fun b o e=>Wf e,le_of_eq (Uz _ _),trivial,fun b aa=>absurd (show b∈([]:List Addr) from aa) (by simp),bM,.of_eq cO⟩
  refine codeAny_mono ((F _ P6 (AM PN)).run callerA [] dw H ⟨[.ref a],[]⟩ [.ref a] [.ref a] _ _ aE e0 (Ye dw (.ref a)) (.cons rfl .nil) (oR H yJ hY)) fun r aI h=>?_
  cases r with
  | error e=>exact (F8 H e aI h).elim
  | ok gv =>
   cases gv with
   | next=>exact False.elim h
   | brk=>exact False.elim h
   | cont=>exact False.elim h
   | ret u =>
    obtain⟨v,af,os,bare,un,Zb,f_,q⟩:=h
    have ni:v=.b0 true:=q
    subst ni
    obtain rfl:u=Value.bool true:=f_
    refine⟨rfl,OldK.of_keep fun b o e=>?_,os,bare⟩
    cases q:H b with
    | none=>exact un.keep b o e q (by intro z;exact absurd (show b∈([]:List Addr) from z) (by simp)) (by simp)
    | some u =>
     rcases yJ b with z | ⟨b1,xs,z⟩
     ·rw[q]at z;cases z
     ·have dK:=un.oF b b1 _ z
      obtain⟨aG,_⟩:=bM b _ z
      obtain⟨aL,_⟩:=Zb b _ dK
      rw[e]at aG;cases aG
      exact aL
 cases aQ:K.lookup a with
 | some o =>
  have e:=ov a o aQ
  rw[bo]at e
  cases e
  refine core (fun _=>none) (fun _=>.inl rfl) (.inr ⟨_,vs.toArray,_,aQ,rfl,rfl,rfl,by rw[size_toArray,Y6];exact aC,by simpa using bX⟩) (fun b u z=>by have iD:(none:Option fH)=some u:=z;cases iD) (fun b z=>absurd rfl z) fun z=>absurd rfl z
 | none =>
  refine core (fun b=>if b=a then some (.jJ { cls:=.type "list",data:=.seq vs.toArray } (.lst (ns.map V.int))) else none) (fun b=>?_) (.inl (.inr ⟨{ cls:=.type "list",data:=.seq vs.toArray },if_pos rfl⟩)) (fun b u z=>?_) (fun b z=>?_) fun _=>aQ
  ·by_cases aa:b=a
   ·exact .inr ⟨_,_,if_pos aa⟩
   ·exact .inl (if_neg aa)
  ·by_cases aa:b=a
   ·have iD:=(if_pos aa).symm.trans z
    cases iD
    subst aa
    exact⟨bo,by rw[length_map];exact aC,vs,_,bX,bo⟩
   ·have iD:=(if_neg aa).symm.trans z
    cases iD
  ·by_cases aa:b=a
   ·exact aa
   ·exact absurd (if_neg aa) z
theorem VM {l:PySem.W.OpenLaw}{n k:Nat}{q:Program}{loose:List Str}{vD:(Str→Option Value)→Heap→Prop}{rO:World→Heap→Prop}{d:DefRec}{K:Params→PySem.W.Frag}{fp:World→m_}{sp:World→dn}{x:Str}
  (aR:l.most=some n) (oS:n≤sizeLine) (xT:d.params.defaults=[]) (aE:gJ k callerA)
  (Hu:∀(w:World) (h:Heap),rO w h→(K w.params).In h)
  (F:∀(w:World) (mg:Str→Option Value) (gw:Addr) (h:Heap),(K w.params).In h→h.Ns mainGlobals mg→mg d.name=some (.ref gw) →
   ∃fd:FuncData,(∀(s:Shared) (u:Value),BindsTo s fd ⟨[u],[]⟩ [(x,u)]) ∧
    ∀base:Heap,(K w.params).In base→base.Ns mainGlobals mg→bp l.prog w (K w.params) mg base (fp w) k gw fd [x] (sp w))
  (oR:∀(w:World) (H:ao) (a:Addr) (ns:List Int),ns.length≤n→EN H→aM (K w.params) H a (ns.map V.int)→sp w [.ref a] H (fun v _=>v=.b0 true) fun _ _ _=>False)
  (F8:∀(w:World) (H:ao) (s:Shared) (e:Value) (aI:Shared),fp w [] H s (fun _ _ _=>False) e aI→False) :
  PySem.W.WalkO q loose vD rO l.row.toRowW d [] (fun f vs=>PySem.call f vs):=by
 refine RI.Tu aR xT fun w fT dw mg nt gw o pm cd doc a vs ns G Y aD hd lD xO EF hints hlen cO=>?_
 have ov:=Hu w _ Y
 obtain⟨fd,aa,acF⟩:=F w mg gw _ ov G.T.g xO
 exact VA ov G.T.g G.T.b G.T.builtins G.T.nolimit cO EF hints (le_trans hlen oS) aE acF aa (fun H yJ hY=>oR w H a ns hlen yJ hY) fun H e aI=>F8 w H dw e aI
end L2
namespace L2
open PySem PySem.Spec PyProof.Rows
def inClass (s:Stmt) (j:Nat):Stmt:=match s with
 | .ClassDef _ _ _ body _ _ _ _ _ _ _=>body.getD j (.Pass ⟨0,0,0,0⟩)
 | _=>.Pass ⟨0,0,0,0⟩
def pL (s:Stmt):Arguments:=match s with
 | .FunctionDef _ a _ _ _ _ _ _ _ _=>a
 | _=>{ posonlyargs:=[],args:=[],vararg:=none,kwonlyargs:=[],kw_defaults:=[],kwarg:=none,defaults:=[] }
def iY (s:Stmt):List Stmt:=match s with
 | .FunctionDef _ _ b _ _ _ _ _ _ _=>b
 | _=>[]
def cR (s:Stmt):Scope:=match s with
 | .FunctionDef _ _ _ _ _ _ sc _ _ _=>sc
 | _=>{ kind:=.function,names:=[],isGenerator:=false,isCoroutine:=false }
abbrev bW:m_:=fun _ _ _ _ _ _=>False
abbrev SI:hB:=fun _ _ _=>False
theorem cU {X:bI}:Passes bW X SI:=fun _ _ _ _ _ _ _ h=>h.elim
structure bU (K:PySem.W.Frag) (x qual:Str) (st:Stmt) (f:Addr) (fd:FuncData):Prop where
 ex:∃(nj:Value) (fj:Option Addr) (eu doc pm:Value) (an:Option Addr) (cz fG:Value) (p7:Array (Option Value)),
  fd=PySem.W.fnOf x qual (pL st) (iY st) (cR st) .none eu doc pm an cz fG∧K.lookup f=some ⟨nj,fj,.func fd,p7⟩∧PySem.W.codeIn K cz qual=true
 bw:keepIn K (.ref f)=true
section
variable {P:Program}{w:World}{K:PySem.W.Frag}{mg:Str→Option Value}{base:Heap}
theorem bU.ok {x qual:Str}{st:Stmt}{f:Addr}{fd:FuncData}{N ps:List Str}{k:Nat}{sp:dn}(F:bU K x qual st f fd) (S:dP N ps (cR st)) (len:∀vs H Q E,sp vs H Q E→vs.length=ps.length)
  (wH:∀(cz:Value) (A:Around) (outer:List Env) (s:Shared) (H:ao) (vs:List V) (Q:cG) (E:hB),gJ k (A.deeper (envOfC qual (cR st) s.heap.objs.size f cz))→sp vs H Q E →
   ∃t,hR (f7 bW P w K mg base N qual (cR st) f cz A outer s H E).mZ (iY st) t∧t { dk:=fun _ af=>Q .cS af,n_:=Q } (start N vs) H):bp P w K mg base bW (k+1) f fd ps sp:=by
 obtain⟨nj,fj,eu,doc,pm,an,cz,fG,p7,rfl,lk,lD⟩:=F.ex
 refine Mn lk lD S len fun A outer s H vs Q E aE oR=>?_
 obtain⟨t,h,q⟩:=wH cz A outer s H vs Q E aE oR
 exact⟨t,h.mZ,q⟩
theorem bU.binds {x qual:Str}{st:Stmt}{f:Addr}{fd:FuncData}{ps:List Str}(F:bU K x qual st f fd)
  (h:∀(eu doc pm:Value) (an:Option Addr) (cz fG:Value) (us:List Value),us.length=ps.length→bindArgs (PySem.W.fnOf x qual (pL st) (iY st) (cR st) .none eu doc pm an cz fG) ⟨us,[]⟩=pure (ps.zip us)):Binds K fd ps []:=by
 obtain⟨nj,fj,eu,doc,pm,an,cz,fG,p7,rfl,lk,lD⟩:=F.ex
 exact .all (h eu doc pm an cz fG)
theorem Xl {x qual:Str}{st:Stmt}{f:Addr}{nj:Value}{fj an:Option Addr}{p7:Array (Option Value)}{eu doc pm cz fG:Value}(l:K.lookup f=some ⟨nj,fj,.func (PySem.W.fnOf x qual (pL st) (iY st) (cR st) .none eu doc pm an cz fG),p7⟩)
  (c:PySem.W.codeIn K cz qual=true) (k:keepIn K (.ref f)=true):bU K x qual st f (PySem.W.fnOf x qual (pL st) (iY st) (cR st) .none eu doc pm an cz fG):=⟨⟨nj,fj,eu,doc,pm,an,cz,fG,p7,rfl,l,c⟩,k⟩
end
theorem ht {A:Around}{k:Nat}(aE:gJ k A):A.units+1<cLine:=lt_of_le_of_lt (Nat.add_le_add_left (by decide:1≤64) _) aE.units
theorem T8 {n:Nat}(h:n≤1000):n<sizeLine:=lt_of_le_of_lt h (by decide)
section
variable {X:bI}
theorem ah (i:Nat) {x:Str}{pos:Pos}(fV:X.N[i]?=some x:=by rfl) (aX:Gl X.env.scope x:=by first | exact Or.inl rfl | exact Or.inr (Or.inl rfl) | exact Or.inr (Or.inr rfl)) (hd:(x == ("__debug__":Str))=false:=by decide)
  (lD:(x == ("__classdict__":Str))=false:=by decide):b8 X (.Name x pos) (MJ i):=WV fV aX hd lD
end
theorem dQ {A B:Prop}(h:B):if false=true then A else B:=by
 rw[if_neg Bool.false_ne_true]
 exact h
theorem eB {A B:Prop}(h:A):if true=true then A else B:=by
 rw[if_pos rfl]
 exact h
theorem gn {c A B:Prop} [Decidable c] (aj:c→A) (az:¬c→B):if c then A else B:=by
 by_cases h:c
 ·rw[if_pos h]
  exact aj h
 ·rw[if_neg h]
  exact az h
theorem nG {c A B:Prop} [Decidable c] (ai:c) (h:B):if (!decide c)=true then A else B:=by
 rw[decide_eq_true ai]
 exact dQ h
def bx (H af:ao):Prop:=∀b o,H b=some o→af b=some o
theorem bx.refl (H:ao):bx H H:=fun _ _ h=>h
theorem bx.trans {H H1 av:ao}(a:bx H H1) (b:bx H1 av):bx H av:=fun c o h=>b c o (a c o h)
theorem bx.free {H af:ao}(e:bx H af) {l:Addr}(h:af l=Option.none):H l=Option.none:=by
 cases q:H l with
 | none=>rfl
 | some o =>
  rw[e l o q]at h
  cases h
theorem bx.seq {K:PySem.W.Frag}{H af:ao}{a:Addr}{xs:List V}(e:bx H af) (h:aM K H a xs):aM K af a xs:=by
 rcases h with (h | ⟨o,h⟩) | h
 ·exact .inl (.inl (e _ _ h))
 ·exact .inl (.inr ⟨o,e _ _ h⟩)
 ·exact .inr h
section
variable {κ:Type} [DecidableEq κ]
end
section
variable {X:bI}{pins:List (Addr × Obj)}{σ:St}{H:ao}{s:Shared}
theorem jG.aap {x:V}{u t:Value}(I:Inv X pins σ H s) (bN:RelV x u) (ty:jG X.K H x t) :
  ∃HV:Heap→Prop,PySem.W.KitX X.K u t HV∧HV s.heap∧u≠.builtin "__main__.__loader__#opaque":=by
 cases ty with
 | cS=>cases (show u=Value.none from bN);exact⟨_,PySem.W.kitx_none,True.intro,fun z=>nomatch z⟩
 | b0 y=>cases (show u=Value.bool y from bN);exact⟨_,PySem.W.kitx_bool,True.intro,fun z=>nomatch z⟩
 | int i=>obtain⟨t,q⟩:=(show ∃t,u=Value.int i t from bN);cases q;exact⟨_,PySem.W.kitx_int,True.intro,fun z=>nomatch z⟩
 | str y=>obtain⟨t,q⟩:=(show ∃t,u=Value.str y t from bN);cases q;exact⟨_,PySem.W.kitx_str,True.intro,fun z=>nomatch z⟩
 | rp y=>obtain⟨t,q⟩:=(show ∃t,u=Value.float y t from bN);cases q;exact⟨_,PySem.W.kitx_float,True.intro,fun z=>nomatch z⟩
 | @lst a xs aY =>
  cases (show u=Value.ref a from bN)
  obtain⟨_,_,n,_,aj⟩:=(show fR X.prog X.w H s.heap a (.lst xs) from I.bM a _ aY)
  exact⟨_,PySem.W.kitx_list,⟨_,aj,rfl⟩,fun z=>nomatch z⟩
 | @jJ a b1 xs aY =>
  cases (show u=Value.ref a from bN)
  obtain⟨_,_,_,n,_,aj⟩:=(show fR X.prog X.w H s.heap a (.jJ b1 (.lst xs)) from I.bM a _ aY)
  exact⟨_,PySem.W.kitx_list,⟨_,aj,rfl⟩,fun z=>nomatch z⟩
 | @tup a xs aY =>
  cases (show u=Value.ref a from bN)
  obtain⟨_,_,_,o,aj,az,_⟩:=(show fR X.prog X.w H s.heap a (.tup xs) from I.bM a _ aY)
  exact⟨_,PySem.W.kitx_tuple,⟨o,aj,az⟩,fun z=>nomatch z⟩
 | @bR a kvs aY =>
  cases (show u=Value.ref a from bN)
  obtain⟨_,_,vs,_,o,aA,cu,aj,az,_⟩:=(show fR X.prog X.w H s.heap a (.bR kvs) from I.bM a _ aY)
  exact⟨_,PySem.W.kitx_dict,⟨o,aj,az.1⟩,fun z=>nomatch z⟩
 | @gS a kvs aY =>
  cases (show u=Value.ref a from bN)
  obtain⟨_,_,xs,_,o,aA,cu,aj,az,_⟩:=(show fR X.prog X.w H s.heap a (.gS kvs) from I.bM a _ aY)
  exact⟨_,PySem.W.kitx_dict,⟨o,aj,az.1⟩,fun z=>nomatch z⟩
 | @ins a C dx bQ aY cl bo aR j9 hm =>
  cases (show u=Value.ref a from bN)
  obtain⟨d7,O,_⟩:=we I.bM aY
  obtain⟨fj,J,_⟩:=O.look
  exact⟨_,PySem.W.kitx_own (cl.get _) cl.hd bo aR j9 hm,J,fun z=>nomatch z⟩
end
section
variable {X:bI}
def YQ (K:PySem.W.Frag):List V→ao→cG→Prop:=fun xs H Q=>∃x t T b,xs=[x,.ty T]∧jG K H x t∧kitOne K t (.type T)=some b∧Q (.b0 b) H
theorem mM:lr X (.builtin "isinstance") (YQ X.K):=by
 intro pins s σ H xs us Q I bX h
 obtain⟨x,t,T,b,rfl,ty,e,q⟩:=h
 obtain⟨u,v,rfl,eT,EY⟩:=bX.two
 have uU:v=Value.type T:=EY
 subst uU
 exact Uv I eT ty e fun bB=>⟨.b0 b,H,I.tok bB,rfl,q⟩
theorem KH:∀{tM:List String}{its:List Value},Vals (tM.map V.ty) its→its=tM.map Value.type
 | [],_,.nil=>rfl
 | T::tM,_,.cons r t=>by
  have e:_=Value.type T:=r
  rw[e,KH t]
  all_goals rfl
def XP (K:PySem.W.Frag):List V→ao→cG→Prop:=fun xs H Q=>∃(x:V) (t:Value) (p:Addr) (tM:List String) (b:Bool),xs=[x,.ref p]∧jG K H x t∧H p=some (.tup (tM.map V.ty))∧PySem.W.kitAny K t (tM.map Value.type)=some b∧Q (.b0 b) H
theorem UL:lr X (.builtin "isinstance") (XP X.K):=by
 intro pins s σ H xs us Q I bX h
 obtain⟨x,t,p,tM,b,rfl,ty,aF,e,q⟩:=h
 obtain⟨u,v,rfl,eT,EY⟩:=bX.two
 cases (show v=Value.ref p from EY)
 obtain⟨its,r,⟨o,aD,ai,n,hd⟩,_⟩:=I.tuple (aO.of aF)
 obtain⟨c,dd,Sh,d5⟩:=o
 simp only at ai hd
 subst ai hd
 have iG:=KH r
 subst iG
 obtain⟨HV,Z,c5,bh⟩:=jG.aap I eT ty
 exact PySem.W.kia_tup Z I.gW c5 aD e bh fun bB=>⟨.b0 b,H,I.tok bB,rfl,q⟩
def WO:iW:=fun x y H Q=>∃a b xs,x=.ref a∧y=.ref b∧H a=some (.lst xs)∧H b=some (.lst [])∧Q (.b0 (!xs.isEmpty)) H
theorem Ke (bq:X.A.units<cLine):hS X (compareOp .NotEq) WO:=by
 intro pins s σ H x y v u Q I bN bO h
 obtain⟨a,b,xs,rfl,rfl,bo,aa,q⟩:=h
 cases bN
 cases bO
 obtain⟨its,r,p,_⟩:=I.list (aM.of bo)
 obtain⟨j6,b4,eK,_⟩:=I.list (aM.of aa)
 cases b4
 cases xs with
 | nil =>
  cases r
  exact SeqAt.RcNeAt.lists (e:=fun _=>true) p.isList eK.isList rfl bq (fun j aj _=>absurd aj (by simp)) X.prog X.w X.dS _ ⟨.b0 false,H,I,rfl,q⟩
 | cons x xs =>
  cases r
  exact SeqAt.RcNeAt.lists_lengths p.isList eK.isList (by simp) bq X.prog X.w X.dS _ ⟨.b0 true,H,I,rfl,q⟩
section
open AutoSeq1 (wpAny_loadPart')
theorem SM (l:Addr) (items:Array Value) (n:Nat) (b:Addr) (wz:Array Value) (dI:Nat) (dd:Option Addr) (d5:Array (Option Value)) (b9:¬(!items.isEmpty && Builtin.List.listTooLong (items.size+wz.size))=true) (aaD:items.size≤sizeLine) (jI:items.size+wz.size≤sizeLine+1) :
  Meets (Builtin.«list.extend» ⟨[.ref l,.ref b],[]⟩) (fun _ R s=>s.heap.get? l=some { cls:=.type "list",dict:=none,data:=.seq items n,slots := #[] }∧s.heap.get? b=some { cls:=.type "tuple",dict:=dd,data:=.seq wz dI,slots:=d5 }∧R (.ok (.ret Value.none)) { s with heap:=s.heap.update l (Obj.mapSeq fun x=>x++wz),toks:=s.toks }) :=
 .of_wp fun prog w A R s h=>by
  obtain⟨aF,g,d,bB,os⟩:=s;obtain⟨aC,aa,h⟩:=h;have f1:=AutoSeq1.idx_int;have f2:=AutoSeq1.sub_tuple_tuple;have gc:=AutoSeq1.sub_list_list;have f4:=AutoSeq1.sub_tuple_list;have hk:=AutoSeq1.sub_list_tuple;
  have A4:(items++wz).size≤sizeLine+1:=by rw[Array.size_append];exact jI
  wp_walk using (wpAny_updateSeq aC rfl (hz:=aaD) (_hz':=A4)),wpAny_loadPart' aC,wpAny_loadPart' aa;exact⟨_,rfl,h⟩
end
def U3:V→List V→ao→cG→Prop:=fun x vs H Q=>∃l b xs zs,x=.ref l∧vs=[.ref b]∧H l=some (.lst xs)∧H b=some (.tup zs)∧xs.length+zs.length≤sizeLine∧Q .cS (upd H l (.lst (xs++zs)))
theorem TH:x_ X "list.extend" U3:=by
 intro pins s σ H x vs v us Q I bN bX h
 obtain⟨l,b,xs,zs,rfl,rfl,ir,qs,hz,q⟩:=h
 cases bN
 obtain⟨u,rfl,eT⟩:=bX.one
 cases eT
 obtain⟨z,its,n,r,aC,e⟩:=I.q1 ir
 obtain⟨j6,b4,⟨o,aD,ai,dI,hd⟩,_⟩:=I.tuple (aO.of qs)
 obtain⟨c,dd,Sh,d5⟩:=o
 simp only at ai hd
 subst ai hd
 have sV:=b4.length
 have hsz:its.toArray.size+j6.toArray.size≤sizeLine:=by rw[size_toArray,size_toArray];omega
 have Eg:¬(!its.toArray.isEmpty && Builtin.List.listTooLong (its.toArray.size+j6.toArray.size))=true:=by
  rw[Kf hsz,Bool.and_false]
  exact Bool.false_ne_true
 refine call_meets F.slot_list_extend ⟨_,e,rfl⟩ F.entry_list_extend (F.args_list_extend_2 _ _)
  (SM l its.toArray n b j6.toArray dI dd d5 Eg (by rw[size_toArray];omega) (by omega)) ⟨e,aD,?_⟩
 refine⟨.cS,_,I.Av (its':=its++j6) ir e (by simp) (r.append b4) ?_,rfl,q⟩
 rw[length_append]
 omega
def U4:V→List V→ao→cG→Prop:=fun x vs H Q=>∃l b xs zs,x=.ref l∧vs=[.ref b]∧H l=some (.lst xs)∧(H b=some (.lst zs)∨H b=some (.tup zs))∧xs.length+zs.length≤sizeLine∧Q .cS (upd H l (.lst (xs++zs)))
theorem I4:x_ X "list.extend" U4:=by
 intro pins s σ H x vs v us Q I bN bX h
 obtain⟨l,b,xs,zs,aG,aL,ir,qs | qs,hz,q⟩:=h
 ·exact JE pins s σ H x vs v us Q I bN bX ⟨l,b,xs,zs,aG,aL,ir,qs,hz,q⟩
 ·exact TH pins s σ H x vs v us Q I bN bX ⟨l,b,xs,zs,aG,aL,ir,qs,hz,q⟩
end
section
variable {X:bI}{a b:Expr}{kS p2:TT}{pos:Pos}
theorem mS (bo:h5 X a kS) (aa:h5 X b p2):h5 X (.BoolOp .Or [a,b] pos) (NR kS p2):=(pw_or bo (pw_or1 aa)).pt
theorem oA (bo:h5 X a kS) (aa:h5 X b p2):h5 X (.BoolOp .And [a,b] pos) (MM kS p2):=(pw_and bo (pw_and1 aa)).pt
end
theorem c8 {xs:List V}(h:Nat.ble xs.length 1000=true:=by rfl):xs.length≤sizeLine:=le_trans (le_of_ble_eq_true h) (by decide)
theorem Tr {prog:Program}{w:World}{A:Around}{R:Result→Shared→Prop}{s:Shared}{elt target iter:Expr}{scope:Scope}{pos:Pos}{it acc:Value}{env:Env}(I:Nat→Shared→Prop)
  (turn:∀n s,I n s→wpAny (model prog w) A (pyNext it) (fun r dw=>match r with
   | none=>R (.ok .next) dw
   | some v=>wpAny (model prog w) A (letOwnedTupleGo target it v) (fun _ iR=>wpAny (model prog w) A (assign target env v) (fun _ hi=>wpAny (model prog w) A (eval elt env) (fun x ng =>
     wpAny (model prog w) A (call (.builtin "list.append") [acc,x]) (fun _ yq=>∃m,m<n∧I m yq) (fun _ _=>False) ng) (fun _ _=>False) hi) (fun _ _=>False) iR) (fun _ _=>False) dw) (fun _ _=>False) s)
  (n:Nat) (h:I n s):codeAny (model prog w) A (.compLoop (.ListComp elt [⟨target,iter,[],0⟩] scope pos) 0 it acc env) R s:=by
 refine codeAny_loop rfl I (fun n s qq=>?_) n h
 show wpAny _ _ ((compTurn (.ListComp elt [⟨target,iter,[],0⟩] scope pos) 0 it acc env).onRaise (fun x=>do noteFrame x env;theTreesLotGoes x)) _ _ s
 refine wpAny_noted ?_
 rw[compTurn_list1]
 refine wpAny_bind (wpAny_standAt (wpAny_bind (wpAny_mono (turn n s qq) (fun r dw fU=>?_) fun _ _ z=>False.elim z)))
 cases r with
 | none=>exact wpAny_pure fU
 | some v =>
  refine wpAny_bind (wpAny_mono fU (fun _ iR nB=>?_) fun _ _ z=>False.elim z)
  exact wpAny_bind (wpAny_mono nB (fun _ hi yG=>wpAny_bind (wpAny_bind (wpAny_mono yG (fun x ng BD=>wpAny_bind (wpAny_mono BD
   (fun _ yq Ht=>wpAny_pure (wpAny_pure ⟨rfl,Ht⟩)) fun _ _ z=>False.elim z)) fun _ _ z=>False.elim z))) fun _ _ z=>False.elim z)
def eE (X:bI) (cQ:List Str) (scope:Scope) (cl:List (Str × Addr)) (C:Addr) (s:Shared) (H:ao) (bG:List Addr):bI :=
 { X with N:=cQ,fT:=s,y1:=H,env:=compEnvC scope cl C X.env,outer:=X.stack,stack:=X.stack,ex:=bG,fn:=fun _=>false,dS:=fun _ _=>False }
def pick (σ:St) (fr:List Nat):St:=fr.map fun j=>(σ[j]?).getD none
structure ic (X:bI) (x:Str) (fr:List Nat) (cQ:List Str) (scope:Scope) (cl:List (Str × Addr)):Prop where
 nL:closureFor scope X.env=pure cl
 cell:∀y∈scope.names,y.2≠.cell
 kind:scope.kind=.function
 names:∀y∈scope.names,y.2=.local→scope.names.lookup y.1=some .local
 loc:scope.names.lookup x=some .local
 sub:∀y c,cl.lookup y=some c→X.env.cells.lookup y=some c
 has:∀y,((relabel scope X.env).names.lookup y=some .cell∨(relabel scope X.env).names.lookup y=some .free)→∃c,cl.lookup y=some c
 bh:cQ[0]?=some x
 len:cQ.length=fr.length+1
 a3:cQ.Nodup
 p5:∀(i j:Nat) (y:Str),cQ[i+1]?=some y→fr[i]?=some j→X.N[j]?=some y∧X.env.scope.names.lookup y=some .cell∧(relabel scope X.env).names.lookup y=some .cell
theorem BS:∀{names:List (Str × NameKind)}{y:Str}{k:NameKind},(∀z∈names,z.2=.local)→names.lookup y=some k→k=.local
 | [],_,_,_,h=>by simp at h
 | (n,g5)::r,y,k,bo,h=>by
  rw[lookup_cons]at h
  cases e:y == n with
  | true =>
   rw[e]at h
   have h':some g5=some k:=h
   cases h'
   exact bo (n,g5) mem_cons_self
  | false =>
   rw[e]at h
   exact BS (fun z hz=>bo z (mem_cons_of_mem _ hz)) h
theorem H6:∀{names:List (Str × NameKind)}{y:Str × NameKind},(∀z∈names,z.2=.local)→y∈names→names.lookup y.1=some .local
 | [],_,_,h=>by simp at h
 | (n,g5)::r,y,bo,h=>by
  rw[lookup_cons]
  cases e:y.1 == n with
  | true =>
   have:=bo (n,g5) mem_cons_self
   dsimp only at this ⊢
   rw[this]
  | false =>
   rcases mem_cons.mp h with z | z
   ·rw[z]at e
    simp at e
   ·exact H6 (fun z hz=>bo z (mem_cons_of_mem _ hz)) z
theorem SW {scope:Scope}{env:Env}(h:∀z∈scope.names,z.2=.local):(relabel scope env).names=scope.names:=by
 unfold relabel
 show scope.names.map _=scope.names
 refine map_eq_self fun z hz=>?_
 obtain⟨n,k⟩:=z
 have:=h (n,k) hz
 dsimp only at this
 subst this
 rfl
theorem ic.plain {X:bI}{x:Str}{scope:Scope}(aC:∀z∈scope.names,z.2=.local) (aQ:scope.kind=.function) (bh:scope.names.lookup x=some .local):ic X x [] [x] scope [] where
 nL:=closureFor_none fun z hz e=>by rw[aC z hz]at e;cases e
 cell:=fun y b6 e=>by rw[aC y b6]at e;cases e
 kind:=aQ
 names:=fun y b6 _=>H6 aC b6
 loc:=bh
 sub:=fun y c e=>by simp at e
 has:=fun y e=>by
  rw[SW aC]at e
  rcases e with e | e
  ·cases BS aC e
  ·cases BS aC e
 bh:=rfl
 len:=rfl
 a3:=by simp
 p5:=fun i j y _ e=>by simp at e
def sq (J:kr) (bY:TE) (bz:St) (Q:cG) (H:ao) (acc:Addr):Prop :=
 ∃(n:Nat) (W:Nat→List V→ao→Prop),W 0 [] (upd H acc (.lst []))∧∀i ys av,W i ys av→(J.stop i av∧Q (.ref acc) av) ∨
  (J.go i av∧i<n∧∀v aS,J.oH i av v aS→bY (some v::bz) aS fun y cB=>cB acc=some (.lst ys)∧ys.length<sizeLine∧W (i+1) (ys++[y]) (upd cB acc (.lst (ys++[y]))))
theorem JR {X:bI}{pins:List (Addr × Obj)}{σ:St}{H:ao}{s:Shared}{x:Str}{hT:Pos}{elt iter:Expr}{scope:Scope}{pos:Pos}{cl:List (Str × Addr)}{cQ:List Str}{fr:List Nat}{bY:TE}{J:kr}{bG:List Addr}{it:Addr}
  {eo:Nat→Heap→Prop} {E:Value→Shared→Prop} {RR:Value→Addr→Result→Shared→Prop} {Q:cG} (B:ic X x fr cQ scope cl) (ai:X.calm=true) (I:Inv X pins σ H s) (T:Turn X.prog X.w X.K (.Name x hT) J bG it eo)
  (st:eo 0 s.heap) (hf:∀b∈bG,l4 X pins H b) (he:∀C aI af,b8 (eE X cQ scope cl C aI af bG) elt bY) (h:∀acc,H acc=none→sq J bY (pick σ fr) Q H acc)
  (xW:∀acc C af aI m,Inv X pins σ af aI→Q (.ref acc) af→aI.heap.Ns C m→af C=none→C≠X.env.locals→(C∈X.ex∨X.fT.heap.objs.size≤C)→(∀y c,X.env.cells.lookup y=some c→c≠C)→(∀p∈X.bL++pins,p.1≠C)→RR (.ref acc) C (.ok .next) aI) :
  wpAny (model X.prog X.w) X.A (newList []) (fun acc hi=>wpAny (model X.prog X.w) X.A (newFunctionEnv scope X.env.globals cl [] X.env.qual none .none (some X.env)) (fun q3 ng =>
   codeAny (model X.prog X.w) X.A (.compStart (.ListComp elt [⟨.Name x hT,iter,[],0⟩] scope pos) 0 (.ref it) acc { q3 with scope:=relabel scope X.env }) (RR acc q3.locals) ng) E hi) E s:=by
 refine wpAny_newObj_type (wpAny_newFunctionEnv B.cell (by intro y b6;simp at b6) (fun fU nK nJ=>?_) B.kind)
 have cE:Inv X pins σ (upd H s.heap.objs.size (.lst [])) { s with heap:=s.heap.push { cls:=.type "list",data:=.seq ([]:List Value).toArray } }:=I.Aw (its:=[]) (t':=s.toks) .nil (zero_le _)
 obtain⟨n,W,qi,turn⟩:=h s.heap.objs.size I.fresh
 dsimp only at nK nJ ⊢
 generalize rb:({ s with heap:=s.heap.push { cls:=.type "list",data:=.seq ([]:List Value).toArray } }:Shared)=s3 at *
 have rg:s.heap.push { cls:=.type "list",data:=.seq ([]:List Value).toArray }=s3.heap:=by rw[←rb]
 have w1:s.heap.push { cls:=.type "list",dict:=none,data:=.seq ([]:List Value).toArray }=s3.heap:=rg
 rw[w1]at nK nJ ⊢
 have jH:∀b o,s3.heap.get? b=some o→b≠s3.heap.objs.size:=fun b o e=>ne_of_lt (lt_size e)
 have jD:∀b o,s3.heap.get? b=some o→fU.get? b=some o:=fun b o e=>nJ.extBut b o (jH b o e) (get?_push_of_some _ e)
 have qU:∀b o,s.heap.get? b=some o→s3.heap.get? b=some o:=fun b o e=>by rw[←rg];exact get?_push_of_some _ e
 have kH:eo 0 fU:=T.keep 0 _ _ st fun b _ o e=>jD b o (qU b o e)
 have wO:∀b∈bG,∃o,s3.heap.get? b=some o:=fun b aa=>by
  obtain⟨o,e,_⟩:=T.obj 0 _ st b aa
  exact⟨o,qU b o e⟩
 have nH:∀b,b≠X.env.locals→b∉X.bQ→b∉gY X.stack:=fun b aj az aa=>by
  rcases mem_cons.mp (cE.uv b aa) with z | z
  ·exact aj z
  ·exact az z
 have ok:(eE X cQ scope cl s3.heap.objs.size s3 (upd H s.heap.objs.size (.lst [])) bG).Ok:=by
  refine⟨I.ok.mod,?_,I.ok.glob,I.ok.blt,le_refl _,fun y z c aj az=>I.ok.inj y z c (B.sub y c aj) (B.sub z c az),fun y b6=>B.has y b6,fun y c e _=>absurd (show false=true from e) Bool.false_ne_true,I.ok.hd,I.ok.frames,.inl rfl,fun b aa=>?_,cE.bs,
   le_trans I.ok.lG cE.ef,fun b o e aa=>?_,fun b aa=>nH b (hf b aa).2.1 (hf b aa).2.2.1,cE.stack,cE.v9⟩
  ·exact B.kind
  ·obtain⟨o,e⟩:=wO b aa
   exact⟨jH b o e,fun y c e=>(hf b aa).2.2.2.2.1 y c (B.sub y c e)⟩
  ·rcases (hf b aa).2.2.2.1 with z | z
   ·exact I.ok.nI b o e z
   ·exact absurd (lt_of_lt_of_le (lt_size (I.ok.bs b o e).1) z) (lt_irrefl _)
 have cellK:∀c v,s3.heap.IsCell c v→fU.IsCell c v:=fun c v ⟨o,aD,hd⟩=>⟨o,jD c o aD,hd⟩
 have kE:∀{af:ao},(∀b∈bG,af b=none)→∀b∈bG,l4 (eE X cQ scope cl s3.heap.objs.size s3 (upd H s.heap.objs.size (.lst [])) bG) pins af b:=fun aR b aa =>
  ⟨aR b aa,(ok.qc b aa).1,nH b (hf b aa).2.1 (hf b aa).2.2.1,.inl aa,fun y c e=>(hf b aa).2.2.2.2.1 y c (B.sub y c e),(hf b aa).2.2.2.2.2⟩
 have jX:Inv (eE X cQ scope cl s3.heap.objs.size s3 (upd H s.heap.objs.size (.lst [])) bG) pins (none::pick σ fr) (upd H s.heap.objs.size (.lst [])) { s3 with heap:=fU }:=by
  refine⟨ok,rfl,cE.bare,hC.kept jD,⟨_,nK,fun i y v aj az ck=>?_⟩,fun y c e=>?_,cE.fresh,fun y c e=>cE.jE y c (B.sub y c e),fun p aF=>?_,cE.bM.kept jD,?_⟩
  ·cases i with
   | zero=>cases (show some none=some (some v) from az)
   | succ i =>
    have az:(pick σ fr)[i]?=some (some v):=az
    unfold pick at az
    rw[getElem?_map]at az
    cases kY:fr[i]? with
    | none=>rw[kY]at az;cases az
    | some j =>
     rw[kY]at az
     have lE:(σ[j]?).getD none=some v:=Option.some.inj az
     have yH:σ[j]?=some (some v):=by
      cases q:σ[j]? with
      | none=>rw[q]at lE;cases lE
      | some o =>
       rw[q]at lE
       have:o=some v:=lE
       rw[this]
     obtain⟨eY,gh,k6⟩:=B.p5 i j y aj kY
     obtain⟨fo,_,xQ⟩:=cE.loc
     obtain⟨u,eT,lk⟩:=xQ j y v eY yH (.inr (.inl gh))
     refine⟨u,eT,.inr ⟨.inl k6,?_⟩⟩
     rcases lk with ⟨k,_⟩ | ⟨_,c,e,z⟩
     ·have g5:X.env.scope.names.lookup y=some .local:=k
      rw[gh]at g5
      cases g5
     ·obtain⟨fO,cF⟩:=B.has y (.inl k6)
      have:=B.sub y fO cF
      rw[e]at this
      cases this
      exact⟨_,cF,cellK _ _ z⟩
  ·obtain⟨v,z⟩:=cE.cell y c (B.sub y c e)
   exact⟨v,cellK c v z⟩
  ·obtain⟨e,rD,ne,kU,d⟩:=cE.pin p aF
   exact⟨jD _ _ e,rD,jH _ _ e,nH _ ne kU,d⟩
  ·show (none::pick σ fr).length=cQ.length
   rw[B.len,length_cons]
   unfold pick
   rw[length_map]
 have fin:∀{af:ao} {bz:St} {aI:Shared},Inv (eE X cQ scope cl s3.heap.objs.size s3 (upd H s.heap.objs.size (.lst [])) bG) pins bz af aI→Q (.ref s.heap.objs.size) af→RR (.ref s.heap.objs.size) s3.heap.objs.size (.ok .next) aI:=fun {af bz aI} J q=>by
  obtain⟨m,aR,_⟩:=J.loc
  refine xW _ _ af aI m (cE.z7 (ch:=bG) J.os J.base J.bM J.bare fun b aa=>⟨(hf b aa).2.2.2.1,(hf b aa).2.1,(hf b aa).2.2.2.2.1,(hf b aa).2.2.2.2.2⟩) q aR J.free (ne_of_gt cE.lt) (.inr cE.ef) (fun y c e=>?_) fun p aF=>?_
  ·obtain⟨v,o,aD,_⟩:=cE.cell y c e
   exact jH c o aD
  ·exact jH _ _ (cE.pin p aF).1
 have loop:∀hi:Shared,hi={ s3 with heap:=fU }→codeAny (model X.prog X.w) X.A (.compLoop (.ListComp elt [⟨.Name x hT,iter,[],0⟩] scope pos) 0 (.ref it) (.ref s.heap.objs.size) (compEnvC scope cl s3.heap.objs.size X.env)) (RR (.ref s.heap.objs.size) s3.heap.objs.size) hi:=by
  rintro hi rfl
  refine Tr (fun m aI=>∃i ys th af,Inv (eE X cQ scope cl s3.heap.objs.size s3 (upd H s.heap.objs.size (.lst [])) bG) pins (th::pick σ fr) af aI∧eo i aI.heap∧(∀b∈bG,af b=none)∧W i ys af∧m=n - i) ?_ n ⟨0,[],none,_,jX,kH,fun b aa=>?_,qi,rfl⟩
  ·rintro m aI ⟨i,ys,th,af,fk,hE,ro,ec,rfl⟩
   rcases turn i ys af ec with ⟨stop,q⟩ | ⟨go,nW,step⟩
   ·refine bT (T.done (eE X cQ scope cl s3.heap.objs.size s3 (upd H s.heap.objs.size (.lst [])) bG) rfl rfl rfl ai i pins aI _ af (fun _ _=>False) fk (kE ro) hE stop) fun r s1 ⟨aE,a_⟩=>?_
    subst aE
    exact fin a_ q
   ·refine bT (T.item (eE X cQ scope cl s3.heap.objs.size s3 (upd H s.heap.objs.size (.lst [])) bG) rfl rfl rfl ai i pins aI _ af (fun _ _=>False) fk (kE ro) hE go) fun r s1 ⟨u,aE,dv⟩=>?_
    subst aE
    refine bT dv fun _ s5 ⟨v,dr,qA,mh,tg,kG,s8⟩=>?_
    have te:=qA.pinned (kE s8) (T.obj _ _ kG)
    have rF:(relabel scope X.env).names.lookup x=some .local:=lookup_relabel_local B.loc
    refine bT (fQ (X:=eE X cQ scope cl s3.heap.objs.size s3 (upd H s.heap.objs.size (.lst [])) bG) (i:=0) (x:=x) B.a3 B.bh (.inl rF) (.inr rF) _ s5 _ dr v u
     (fun bz dO=>bz=some v::pick σ fr∧dO=dr) te mh ⟨rfl,rfl⟩) fun _ nh ⟨Br,dO,tR,aG,aL⟩=>?_
    subst aG aL
    refine bT (he _ _ _ _ nh _ _ _ tR (step v _ tg)) fun y fz ⟨jL,dR,jW,bO,de,hlen,n8⟩=>?_
    refine bT (h_ _ fz _ dR (.ref s.heap.objs.size) [jL] (.ref s.heap.objs.size) [y] (fun _ gT=>gT=upd dR s.heap.objs.size (.lst (ys++[jL]))) jW rfl (.cons bO .nil) ⟨_,ys,jL,rfl,rfl,de,hlen,rfl⟩) fun _ iE ⟨_,gT,k8,_,lQ⟩=>?_
    subst lQ
    refine⟨n - (i+1),by omega,i+1,ys++[jL],some v,_,k8.ua,T.keep _ _ _ kG fun b aa o e=>(k8.pin (b,o) (mem_append_right _ (mem_append_right _ (qJ aa e)))).1,fun b aa=>?_,n8,rfl⟩
    obtain⟨o,e,d⟩:=T.obj _ _ kG b aa
    exact (k8.pin (b,o) (mem_append_right _ (mem_append_right _ (qJ aa e)))).2.1
  ·obtain⟨o,e,_⟩:=T.obj 0 _ st b aa
   rw[aB (ne_of_lt (lt_size e))]
   exact (hf b aa).1
 have bS:({ s with heap:=fU,toks:=s.toks+([]:List (Str × Value)).length }:Shared)={ s3 with heap:=fU }:=by rw[←rb];rfl
 rw[bS]
 exact codeAny_compStart_list (loop _ rfl) (T.self _ 0 _ _ _ kH (loop _ rfl))
section
variable {X:bI}{x y:Str}{hT py pos qY:Pos}{elt iter:Expr}{scope:Scope}{cl:List (Str × Addr)}{cQ:List Str}{fr:List Nat}{fM:TI}{bY:TE}
def Ma (fM:TI) (fr:List Nat) (bY:TE):TE:=fun σ H Q=>fM σ H fun J H1=>∀acc,H1 acc=none→sq J bY (pick σ fr) Q H1 acc
theorem zM (fr:List Nat) (cQ:List Str) (B:ic X x fr cQ scope cl) (ai:X.calm=true) (aP:pn X (.Name x hT) iter fM) (he:∀C aI af bG,b8 (eE X cQ scope cl C aI af bG) elt bY) (aJ:∀x,foldedSetIterable iter X.env x=pure x:=by intro _;rfl) :
  b8 X (.ListComp elt [⟨.Name x hT,iter,[],0⟩] scope pos) (Ma fM fr bY):=by
 intro pins s σ H Q I h
 rw[eval_ListComp]
 refine wpAny_comprehension_free (use:=none) rfl aJ B.nL B.kind B.names (bT (aP pins s σ H _ I h) fun v s1 aj=>bT aj fun sP s2 az=>?_)
 obtain⟨it,bG,eo,J,av,e,cK,T,nN,f2,aW⟩:=az
 subst e
 refine JR (RR:=fun acc C=>compPost (model X.prog X.w) X.A X.dS none (hK X pins σ Q) acc C) B ai cK T nN f2 (fun C aI af=>he C aI af bG) aW ?_
 intro acc C af aI m fk q aR h0 aj ck dv gF
 refine⟨m,aR,fun h' jM=>⟨.ref acc,af,fk.turned (t':=aI.toks) (fun b o aa e=>(jM.2 b aa).trans e) h0 aj ck dv gF,rfl,q⟩⟩
def XN (i:Nat) (fM:TI) (fr:List Nat) (bY:TE):fX:=fun D σ H=>Ma fM fr bY σ H fun v H1=>D.dk (σ.set i (some v)) H1
theorem K_ {i:Nat}(fr:List Nat) (cQ:List Str) (fV:X.N.Nodup) (iQ:X.N[i]?=some y) (b6:X.env.kindOf y=some .local) (B:ic X x fr cQ scope cl) (ai:X.calm=true) (aP:pn X (.Name x hT) iter fM)
  (he:∀C aI af bG,b8 (eE X cQ scope cl C aI af bG) elt bY) (xF:swapsWith (.ListComp elt [⟨.Name x hT,iter,[],0⟩] scope pos) (some (.Name y py)) qY.line X.env=pure true:=by rfl) (aJ:∀x,foldedSetIterable iter X.env x=pure x:=by intro _;rfl) :
  jV X (.Assign [.Name y py] (.ListComp elt [⟨.Name x hT,iter,[],0⟩] scope pos) qY) (XN i fM fr bY):=by
 intro pins s σ H D I h
 rw[exec_Assign_Name_used _ _ _ _ xF]
 refine wpAny_bind (wpAny_standAt (wpAny_bind ?_))
 show wpAny _ X.A (do let _ ← comprehension (.ListComp elt [⟨.Name x hT,iter,[],0⟩] scope pos) scope X.env _ (newList []) false (eval iter X.env) (some (assign (.Name y py) X.env))) _ _ s
 refine wpAny_bind (wpAny_mono (wpAny_comprehension_free (use:=some (assign (.Name y py) X.env)) (Q:=fun _ aI=>oq X pins D .next aI) rfl aJ B.nL B.kind B.names (bT (aP pins s σ H _ I h) fun v s1 aj=>bT aj fun sP s2 az=>?_))
  (fun _ aI bk=>wpAny_pure (wpAny_pure bk)) fun _ _ e=>e)
 obtain⟨it,bG,eo,J,av,e,cK,T,nN,f2,aW⟩:=az
 subst e
 refine JR (RR:=fun acc C=>compPost (model X.prog X.w) X.A X.dS (some (assign (.Name y py) X.env)) (fun _ aI=>oq X pins D .next aI) acc C) B ai cK T nN f2 (fun C aI af=>he C aI af bG) aW ?_
 intro acc C af aI m fk q aR h0 aj ck dv gF
 show wpAny _ X.A (assign (.Name y py) X.env (.ref acc)) _ _ _
 refine wpAny_assign_Name (zp (v:=.ref acc) fk fV iQ (.inl b6) rfl (fun p6 yc xG=>?_) (.inr b6))
 obtain⟨a,jM,bo⟩:=xG
 have xX:C≠a:=by
  rcases bo with z | z
  ·rw[z];exact aj
  ·exact Ne.symm (dv _ _ z)
 refine⟨m,aR.sameBut jM xX,fun h' w9=>⟨_,af,yc.turned (t':=p6.toks) (fun b o aa e=>(w9.2 b aa).trans e) h0 aj ck dv gF,q⟩⟩
end
inductive D where
 | int (i:Int)
 | str (x:Str)
 | tup (l:List D)
 | lst (l:List D)
mutual
def D.ef:D→Nat
 | .int _=>1
 | .str _=>1
 | .tup l=>1+fe l
 | .lst l=>1+fe l
def fe:List D→Nat
 | []=>0
 | d::r=>d.ef+fe r
end
mutual
def Rep (H:ao):D→V→Prop
 | .int i,v=>v=.int i
 | .str x,v=>v=.str x
 | .tup l,v=>∃a xs,v=.ref a∧H a=some (.tup xs)∧a9 H l xs
 | .lst l,v=>∃a xs,v=.ref a∧H a=some (.lst xs)∧a9 H l xs
def a9 (H:ao):List D→List V→Prop
 | [],xs=>xs=[]
 | d::r,xs=>∃x t,xs=x::t∧Rep H d x∧a9 H r t
end
mutual
theorem Rep.mono {H af:ao}(s:bx H af):∀(d:D) (v:V),Rep H d v→Rep af d v
 | .int _,_,h=>h
 | .str _,_,h=>h
 | .tup l,_,h=>by
  unfold Rep at h ⊢
  obtain⟨a,xs,e,q,r⟩:=h
  exact⟨a,xs,e,s _ _ q,a9.mono s l xs r⟩
 | .lst l,_,h=>by
  unfold Rep at h ⊢
  obtain⟨a,xs,e,q,r⟩:=h
  exact⟨a,xs,e,s _ _ q,a9.mono s l xs r⟩
theorem a9.mono {H af:ao}(s:bx H af):∀(l:List D) (xs:List V),a9 H l xs→a9 af l xs
 | [],_,h=>h
 | d::r,_,h=>by
  unfold a9 at h ⊢
  obtain⟨x,t,e,q,z⟩:=h
  exact⟨x,t,e,Rep.mono s d x q,a9.mono s r t z⟩
end
theorem D.WE:∀d:D,1≤d.ef
 | .int _=>by unfold D.ef;omega
 | .str _=>by unfold D.ef;omega
 | .tup _=>by unfold D.ef;omega
 | .lst _=>by unfold D.ef;omega
theorem la:fe []=0:=by unfold fe;rfl
theorem kx (d:D) (r:List D):fe (d::r)=d.ef+fe r:=by rw[fe]
theorem Dj (l:List D):(D.tup l).ef=1+fe l:=by rw[D.ef]
theorem uu (l:List D):(D.lst l).ef=1+fe l:=by rw[D.ef]
theorem wi (i:Int):(D.int i).ef=1:=by rw[D.ef]
theorem LB (x:Str):(D.str x).ef=1:=by rw[D.ef]
theorem zk:∀a b:List D,fe (a++b)=fe a+fe b
 | [],b=>by rw[List.nil_append,la,zero_add]
 | d::r,b=>by rw[List.cons_append,kx,kx,zk r b];omega
theorem Dd:∀a:List D,a.length≤fe a
 | []=>by rw[la];exact le_refl _
 | d::r=>by
  have aj:=Dd r
  have az:=d.WE
  rw[kx,length_cons]
  omega
theorem a9.nil {H:ao}:a9 H [] []:=by unfold a9;rfl
theorem a9.cons {H:ao}{d:D}{r:List D}{x:V}{t:List V}(h:Rep H d x) (q:a9 H r t):a9 H (d::r) (x::t):=by
 unfold a9
 exact⟨x,t,rfl,h,q⟩
theorem a9.inv {H:ao}{d:D}{r:List D}{xs:List V}(h:a9 H (d::r) xs):∃x t,xs=x::t∧Rep H d x∧a9 H r t:=by
 unfold a9 at h
 exact h
theorem a9.lx {H:ao}{xs:List V}(h:a9 H [] xs):xs=[]:=by
 unfold a9 at h
 exact h
theorem a9.append {H:ao}:∀{a b:List D}{xs ys:List V},a9 H a xs→a9 H b ys→a9 H (a++b) (xs++ys)
 | [],_,_,_,h,q=>by rw[h.lx];exact q
 | d::r,_,_,_,h,q=>by
  obtain⟨x,t,rfl,aj,az⟩:=h.inv
  exact .cons aj (a9.append az q)
theorem a9.snoc {H:ao}:∀{a:List D}{d:D}{xs:List V},a9 H (a++[d]) xs→∃ys x,xs=ys++[x]∧a9 H a ys∧Rep H d x
 | [],d,xs,h=>by
  obtain⟨x,t,rfl,aj,az⟩:=a9.inv (r:=[]) h
  rw[az.lx]
  exact⟨[],x,rfl,.nil,aj⟩
 | c::r,d,xs,h=>by
  obtain⟨x,t,rfl,aj,az⟩:=a9.inv (r:=r++[d]) h
  obtain⟨ys,z,rfl,ck,dv⟩:=a9.snoc az
  exact⟨x::ys,z,rfl,.cons aj ck,dv⟩
theorem a9.length {H:ao}:∀{a:List D}{xs:List V},a9 H a xs→xs.length=a.length
 | [],_,h=>by rw[h.lx];rfl
 | d::r,_,h=>by
  obtain⟨x,t,rfl,aj,az⟩:=h.inv
  rw[length_cons,length_cons,az.length]
theorem Rep.int_inv {H:ao}{i:Int}{v:V}(h:Rep H (.int i) v):v=.int i:=by unfold Rep at h;exact h
theorem Rep.str_inv {H:ao}{i:Str}{v:V}(h:Rep H (.str i) v):v=.str i:=by unfold Rep at h;exact h
theorem Rep.r1 {H:ao}{l:List D}{v:V}(h:Rep H (.tup l) v):∃a xs,v=.ref a∧H a=some (.tup xs)∧a9 H l xs:=by unfold Rep at h;exact h
theorem Rep.lst_inv {H:ao}{l:List D}{v:V}(h:Rep H (.lst l) v):∃a xs,v=.ref a∧H a=some (.lst xs)∧a9 H l xs:=by unfold Rep at h;exact h
theorem Rep.hs {H:ao}{l:List D}{a:Addr}{xs:List V}(h:H a=some (.tup xs)) (r:a9 H l xs):Rep H (.tup l) (.ref a):=by unfold Rep;exact⟨a,xs,rfl,h,r⟩
theorem Rep.qS {H:ao}{l:List D}{a:Addr}{xs:List V}(h:H a=some (.lst xs)) (r:a9 H l xs):Rep H (.lst l) (.ref a):=by unfold Rep;exact⟨a,xs,rfl,h,r⟩
theorem Rep.ofInt {H:ao}{i:Int}:Rep H (.int i) (.int i):=by unfold Rep;rfl
theorem Rep.ofStr {H:ao}{i:Str}:Rep H (.str i) (.str i):=by unfold Rep;rfl
theorem K7 {H:ao}{c:Nat}:∀{xs:List V},(∀v∈xs,∃d,Rep H d v∧d.ef≤c)→∃l,a9 H l xs∧fe l≤xs.length * c
 | [],_=>⟨[],.nil,by rw[la];exact zero_le _⟩
 | x::r,h=>by
  obtain⟨d,aj,az⟩:=h x mem_cons_self
  obtain⟨l,ck,dv⟩:=K7 (xs:=r) fun v aX=>h v (mem_cons_of_mem _ aX)
  refine⟨d::l,.cons aj ck,?_⟩
  rw[kx,length_cons,Nat.add_mul,Nat.one_mul]
  omega
def d1 (H af:ao):Prop:=∀b xs,H b=some (.tup xs)→af b=some (.tup xs)
theorem bx.fy {H af:ao}(s:bx H af):d1 H af:=fun b xs h=>s b _ h
theorem rX {H:ao}{l:Addr}{xs:List V}{o:fH}(h:H l=some (.lst xs)):d1 H (upd H l o):=fun b ys q=>by
 rw[aB (dt q h (fun z=>nomatch z))]
 exact q
theorem bV {H:ao}{p:Addr}(h:H p=none) (o:fH):bx H (upd H p o):=fun b u q=>by
 rw[aB (ct q h)]
 exact q
theorem bx.hr {H af:ao}{l:Addr}{o:fH}(s:bx H af) (h:H l=none):bx H (upd af l o):=fun b u q=>by
 rw[aB (ct q h)]
 exact s b u q
theorem DW {α:Type}{xs:List α}{k:Int}(h0:0≤k) (aj:k<xs.length):∃v,n2 xs k=some v∧xs[k.toNat]?=some v:=by
 have aQ:k.toNat<xs.length:=by omega
 have e:k=((k.toNat:Nat):Int):=by omega
 have q:xs[k.toNat]?=some xs[k.toNat]:=getElem?_eq_getElem aQ
 have z:=e4 q
 rw[←e]at z
 exact⟨_,z,q⟩
theorem Xe {n:Nat}{k:Int}(h0:0≤k) (aj:k<n):oO n k=some k.toNat:=by
 unfold oO
 rw[if_pos h0,if_pos aj]
theorem Te {n d:Nat}{k:Int}(h0:0≤k) (aj:k≤n):hp.iA n d (some k)=k.toNat:=by
 have e:k=((k.toNat:Nat):Int):=by omega
 rw[e,hp.C3,←e]
 omega
theorem TP {xs:List V}{k:Int}(h0:0≤k) (aj:k≤xs.length):j8 xs none (some k)=xs.take k.toNat:=by
 unfold j8
 rw[hp.CE,Te h0 aj,drop_zero,sub_zero]
theorem IP {ns:List Int}{i:Nat}{y:V}(h:(ns.map V.int)[i]?=some y):∃z,y=.int z∧ns[i]?=some z:=by
 rw[getElem?_map]at h
 cases e:ns[i]? with
 | none=>rw[e]at h;cases h
 | some z=>rw[e]at h;exact⟨z,(Option.some.inj h).symm,rfl⟩
def ve (K:PySem.W.Frag) (a:Addr):kr :=
 ⟨fun i H=>∃xs x,aM K H a xs∧xs[i]?=some x,fun i H x af=>∃p v,H p=none∧x=.ref p∧af=upd H p (.tup [.int i,v])∧∀xs,aM K H a xs→xs[i]?=some v,fun i H=>∃xs,aM K H a xs∧xs.length≤i⟩
theorem TZ {P:Program}{w:World}{K:PySem.W.Frag}{aA:List Expr}{k1:Nat}{G6:Pos}(a e it:Addr) (hg:e≠it) :
  Turn P w K (.Tuple aA k1 G6) (ve K a) [e,it] e (fun i h=>∃old,IsEnum h e it ((i:Nat):Int) old∧h.IsListIter it a i) where
 mem:=by simp
 obj:=fun i h ⟨old,he,hit⟩ b aa=>by
  rcases mem_cons.mp aa with z | z
  ·subst z
   exact⟨_,he,fun v z=>by
    have iD:Data.fields _=Data.cell v:=z
    cases iD⟩
  ·have z:=mem_singleton.mp z
   subst z
   obtain⟨o,e,c,d⟩:=hit
   exact⟨o,e,fun v z=>by rw[d]at z;cases z⟩
 keep:=fun i h h' ⟨old,he,hit⟩ k=>⟨old,k e (by simp) _ he,hit.at fun o x=>k it (by simp) o x⟩
 item:=by
  intro X h1 hw i_ ai i pins s σ H E I hf st cO
  subst h1 hw i_
  obtain⟨old,he,hit⟩:=st
  obtain⟨xs,x,bk,bh⟩:=cO
  obtain⟨its,bX,p,hz⟩:=I.list bk
  obtain⟨u,bq,eT⟩:=bX.get bh
  have vy:=hf e (by simp)
  have tF:=hf it (by simp)
  have PW:e<s.heap.objs.size:=lt_size he
  refine wpAny_pyNext_enum_item he hit p.isList (x:=u) (by simpa using bq) hg fun fU rj Zi aaA adZ aaU=>?_
  refine⟨_,rfl,wpAny_letOwnedTupleGo_enum rj fun nB aa3 xE=>?_⟩
  replace xE:Heap.SameBut e fU nB:=xE
  have k2:∀b o,b≠e→b≠it→s.heap.get? b=some o→nB.get? b=some o:=fun b o aj az q=>(xE.2 b aj).trans (aaU b o aj az q)
  have d_:nB.get? s.heap.objs.size=some { cls:=.type "tuple",data:=.seq #[.int i s.toks,u] }:=(xE.2 _ (ne_of_gt PW)).trans aaA
  have m2:∀b,b∉[e,it]→b≠e∧b≠it:=fun b h=>⟨fun z=>h (by simp[z]),fun z=>h (by simp[z])⟩
  have AL:∀b o,H b=some o→b≠e∧b≠it:=fun b o q=>⟨ct q vy.1,ct q tF.1⟩
  have oT:H s.heap.objs.size=none:=I.fresh
  have iG:((i+1:Nat):Int)=(i:Int)+1:=by omega
  refine⟨.ref s.heap.objs.size,upd H s.heap.objs.size (.tup [.int i,x]),?_,rfl,⟨_,x,oT,rfl,rfl,fun ys b6=>by rw[I.CJ b6 bk];exact bh⟩,⟨u,by rw[iG];exact aa3,Zi.extBut xE.extBut (Ne.symm hg)⟩,fun b aa=>?_⟩
  ·refine Inv.step (s:=s) (h':=nB) (t':=s.toks+1) (g':=s.gens) (d':=s.drawn) (ch:=[e,it]) I (fun b aa=>?_) (fun b o _ _ h q _=>k2 b o (m2 b h).1 (m2 b h).2 q) (fun b o _ _ h q _=>⟨o.slots,k2 b o (m2 b h).1 (m2 b h).2 q⟩)
    (fun b o _ q n=>by rw[aB (ne_of_lt (lt_size q))];exact n) (fun b o h q=>⟨o,k2 b o (m2 b h).1 (m2 b h).2 q⟩) (fun b ys q=>by rw[aB (ct q oT)];exact q) (fun b o o2 q=>by rw[aB (ct q oT)];exact q)
    (fun b ps q=>⟨#[],by rw[aB (ct q oT),q];simp⟩) (fun m hm=>?_) (fun b b1 q=>?_) I.bare
   ·rcases mem_cons.mp aa with z | z
    ·rw[z];exact⟨vy.2.2.2.1,vy.2.1,vy.2.2.2.2.1,vy.2.2.2.2.2⟩
    ·rw[mem_singleton.mp z];exact⟨tF.2.2.2.1,tF.2.1,tF.2.2.2.2.1,tF.2.2.2.2.2⟩
   ·obtain⟨o,xZ,cu,aD,r⟩:=hm
    exact⟨o,xZ,cu,k2 _ o (Ne.symm vy.2.1) (Ne.symm tF.2.1) aD,r⟩
   ·by_cases aa:b=s.heap.objs.size
    ·subst aa
     rw[aV]at q
     cases q
     exact⟨by show 2≤sizeLine;decide,[.int i s.toks,u],.cons ⟨_,rfl⟩ (.cons eT .nil),_,d_,rfl,_,rfl⟩
    ·rw[aB aa]at q
     refine (I.bM b b1 q).j5 (fun c v ai r=>?_) (fun c r=>by rw[aB (ct r oT)];exact r) (fun c ys r=>by rw[aB (ct r oT)];exact r)
     rcases ai with z | z
     ·rw[z]at r ⊢
      exact k2 b v (AL b b1 q).1 (AL b b1 q).2 r
     ·exact k2 c v (AL c _ z).1 (AL c _ z).2 r
  ·have u3:b<s.heap.objs.size:=by
    rcases mem_cons.mp aa with z | z
    ·rw[z];exact PW
    ·rw[mem_singleton.mp z]
     obtain⟨o,q,_⟩:=hit
     exact lt_size q
   rw[aB (ne_of_lt u3)]
   exact (hf b aa).1
 done:=by
  intro X h1 hw i_ ai i pins s σ H E I hf st cO
  subst h1 hw i_
  obtain⟨old,he,hit⟩:=st
  obtain⟨xs,bk,bh⟩:=cO
  obtain⟨its,bX,p,hz⟩:=I.list bk
  obtain⟨f0,f1,f2,gc,f4,hk⟩:=hf it (by simp)
  have aC:=bX.length
  exact wpAny_pyNext_enum_end (I.ok.hd ai) he hit p.isList (by simp;omega) fun h' ej=>⟨rfl,I.turned (t':=s.toks) (fun b o aa e=>ej b o aa e) f0 f1 gc f4 hk⟩
 self:=fun _ _ _ _ _ st h=>by
  obtain⟨old,he,_⟩:=st
  exact wpAny_pyIter_enum he h
section
variable {X:bI}
def X9 (K:PySem.W.Frag) (dB:iV):TI:=fun σ H R=>dB σ H fun vs H1=>∃a,vs=[.ref a]∧(∃xs,aM K H1 a xs)∧R (ve K a) H1
theorem C7 {aA:List Expr}{k1:Nat}{G6:Pos}{l:Expr}{dB:iV}{p pos:Pos}(cO:lX X "enumerate") (hm:X.mg "enumerate"=none) (bo:mD X [l] dB) (aJ:starEach [l] X.env=[(false,eval l X.env)]:=by rfl) :
  pn X (.Tuple aA k1 G6) (.Call (.Name "enumerate" p) [l] [] pos) (X9 X.K dB):=by
 intro pins s σ H R I h
 refine Call_ (qR I cO hm boot_enumerate (PyProof.Rows.callWith_type1 (bT (bo pos pins s σ H _ I h) fun us s1 ⟨vs,H1,a_,bE,bu⟩=>?_) aJ rfl))
 obtain⟨a,e,⟨xs,bk⟩,q⟩:=bu
 subst e
 cases bE with
 | cons r ts =>
  cases ts
  cases r
  obtain⟨its,bX,p,hz⟩:=a_.list bk
  refine call_enumerate_list p.isList fun h' he hit hsz aQ=>?_
  refine wpAny_pyIter_enum he ?_
  refine⟨s1.heap.objs.size+1,[s1.heap.objs.size+1,s1.heap.objs.size],_,_,H1,rfl,a_.kept (t':=s1.toks) aQ,TZ a _ _ (Nat.succ_ne_self _),⟨.none,he,hit⟩,fun b aa=>?_,q⟩
  rcases mem_cons.mp aa with z | z
  ·rw[z]
   exact a_.uR (le_succ _) (a_.bM.fresh (le_succ _))
  ·rw[mem_singleton.mp z]
   exact a_.uR (le_refl _) (a_.bM.fresh (le_refl _))
end
theorem Kr {K:PySem.W.Frag}{a:Addr}{xs:List V}{g:iU}{d4:fX}{D:Ends}{σ:St}{H:ao}(Pv:Nat→St→ao→Prop) (h0:Pv 0 σ H) (aC:∀i σ H,i≤xs.length→Pv i σ H→aM K H a xs)
  (aJ:∀i x σ H p,xs[i]?=some x→Pv i σ H→H p=none→g (.ref p) σ (upd H p (.tup [.int i,x])) fun hy av=>d4 { D with dk:=Pv (i+1),fG:=Pv (i+1),iu:=D.dk } hy av) (hd:∀σ H,Pv xs.length σ H→D.dk σ H) :
  ∃W:Nat→Nat→St→ao→Prop,(∃m,W 0 m σ H)∧∀i m σ H,W i m σ H →
   ((ve K a).stop i H∧D.dk σ H)∨((ve K a).go i H∧∃N:St→ao→Prop,(∀bz af,N bz af→∃gb,gb<m∧W (i+1) gb bz af)∧∀x af,(ve K a).oH i H x af→g x σ af fun hy av=>d4 { D with dk:=N,fG:=N,iu:=D.dk } hy av):=by
 refine⟨fun i m σ H=>m=xs.length - i∧i≤xs.length∧Pv i σ H,⟨xs.length,by simp,zero_le _,h0⟩,?_⟩
 rintro i m σ H ⟨rfl,aP,p⟩
 have q:=aC i σ H aP p
 by_cases c2:i<xs.length
 ·refine .inr ⟨⟨xs,xs[i],q,by simp[c2]⟩,Pv (i+1),fun bz af eH=>⟨xs.length - (i+1),by omega,rfl,c2,eH⟩,fun x af y=>?_⟩
  obtain⟨pr,v,n,rfl,rfl,y⟩:=y
  exact aJ i v σ _ pr (y xs q) p n
 ·have e:i=xs.length:=by omega
  subst e
  exact .inl ⟨⟨xs,q,le_refl _⟩,hd σ H p⟩
theorem S7:typeLookup (.type "list") "keys"=pure none:=by rw[typeLookup_type,builtinLookup_eq_fast];kernel_rfl
theorem SN {prog:Program}{w:World}{A:Around}{E:Value→Shared→Prop}{s:Shared}{a:Addr}{xs:Array Value}{k:Nat}{Q:Option Value→Shared→Prop}
  (bh:s.heap.get? a=some { cls:=.type "list",data:=.seq xs k }) (tC:A.handled=none)
  (h:∀h' bB,(∀b o,s.heap.get? b=some o→h'.get? b=some o)→Q none { s with heap:=h',toks:=bB }) :
  wpAny (model prog w) A (getAttr? (.ref a) "keys") Q E s:=by
 obtain⟨aF,g,d,bB,os⟩:=s
 have i9:∀NQ,(⟨aF,g,d,NQ,os⟩:Shared).TypeIs (.ref a) "list":=fun _=>⟨_,bh,rfl⟩
 have f1:=sub_AttributeError
 have gc:=F.slot_list_getattribute.lookup
 have f4:=F.slot_list_getattribute.bind (.ref a)
 have hk:=am_list_getattr_none
 unfold getAttr? getAttrBy? getAttrBy
 repeat (any_goals (first | assumption | exact i9 _ | ((with_reducible show wpAny _ _ (call (Value.builtin "list.__getattribute__") _ _) _ _ _);refine call_meets F.slot_list_getattribute (i9 _) am_entry_list_getattribute (F.args_list_getattribute_2 _ _) (meets_getattribute_miss_list a xs k #[] "keys" _ S7 (by decide +kernel) (by size_fits)) ⟨bh,tC,fun h' NQ e PH=>?_⟩) | wp_step))
 obtain⟨t',o2,he⟩:=PH.there
 show wpAny _ _ (getattributeRaised _ _ _ _ _ _ _) _ _ _
 unfold getattributeRaised
 repeat (any_goals (first | assumption | wp_step))
 exact h _ _ PH.of.keeps
theorem y4:plainId "dict.update.loop"=true:=by decide +kernel
theorem H5:entryFor table "dict.update.loop"=some Builtin.«dict.update.loop» := entryFor_of_tree (by kernel_rfl)
def uz (H:ao) (x:V) (cN:Key × V):Prop:=∃a,x=.ref a∧H a=some (.tup [eu cN.1,cN.2])
def putAll (m:List (Key × V)) (kvs:List (Key × V)):List (Key × V):=kvs.foldl (fun m cN=>putK m cN.1 cN.2) m
theorem UN {H:ao}{a:Addr}{o:fH}(h:H a=some o):upd H a o=H:=by
 funext b
 unfold upd
 split
 ·rename_i e;rw[e,h]
 ·rfl
theorem Tc {X:bI}{pins:List (Addr × Obj)}{σ:St}{A:Around}{R:Result→Shared→Prop}{d p it:Addr}{ys:List V}{kvs:List (Key × V)}(c5:A.handled=none):∀(n i:Nat) (s:Shared) (H:ao) (m:List (Key × V)),
  ys.length - i=n→i≤ys.length→Inv X pins σ H s→H d=some (.bR m)→H p=some (.lst ys)→(∀(j:Nat) (x:V),ys[j]?=some x→∃cN,kvs[j]?=some cN∧uz H x cN)→kvs.length=ys.length→m.length+(ys.length - i)≤sizeLine →
  s.heap.IsListIter it p i→l4 X pins H it→(∀aI,Inv X pins σ (upd H d (.bR (putAll m (kvs.drop i)))) aI→R (.ok (.ret .none)) aI) →
  wpAny (model X.prog X.w) A.in1 (Builtin.«dict.update.loop» ⟨[.ref d,.ref it,rawInt i,.none],[]⟩)
   (fun fin aI=>match fin with | .done f=>R (.ok f) aI | .again fO=>fO.quiet=true∧codeAny (model X.prog X.w) A fO R aI) (fun e aI=>R (.error e) aI) s:=by
 intro n
 induction n with
 | zero =>
  intro i s H m aR aP I hd aF h1 aC hz st hf q
  obtain⟨its,bX,pl,_⟩:=I.list (aM.of aF)
  have hlen:=bX.length
  show wpAny _ _ (pyNext (.ref it) >>= _) _ _ s
  refine wpAny_bind (wpAny_pyNext_list_end c5 st pl.isList (by simp;omega) fun h' ej=>?_)
  obtain⟨f0,f1,f2,gc,f4,hk⟩:=hf
  have a_:Inv X pins σ H { s with heap:=h' }:=I.turned (t':=s.toks) (fun b o aa e=>ej b o aa e) f0 f1 gc f4 hk
  have e0:upd H d (.bR (putAll m (kvs.drop i)))=H:=by
   rw[List.drop_eq_nil_of_le (by omega)]
   exact UN hd
  show wpAny _ _ (Builtin.Dict.addKeywords d [] >>= _) _ _ _
  exact wpAny_bind (wpAny_pure (wpAny_pure (q _ (by rw[e0];exact a_))))
 | succ n b3 =>
  intro i s H m aR aP I hd aF h1 aC hz st hf q
  obtain⟨its,bX,pl,_⟩:=I.list (aM.of aF)
  have hlen:=bX.length
  have c2:i<ys.length:=by omega
  obtain⟨cN,aaV,a,aY,bo⟩:=h1 i ys[i] (getElem?_eq_getElem c2)
  obtain⟨u,bq,eT⟩:=bX.get (getElem?_eq_getElem c2)
  rw[aY]at eT
  cases eT
  show wpAny _ _ (pyNext (.ref it) >>= _) _ _ s
  refine wpAny_bind (wpAny_pyNext_list_item st pl.isList (x:=.ref a) (by simpa using bq) fun h' hE jM=>?_)
  obtain⟨f0,f1,f2,gc,f4,hk⟩:=hf
  have a_:Inv X pins σ H { s with heap:=h' }:=I.turned (t':=s.toks) (fun b o aa e=>(jM.2 b aa).trans e) f0 f1 gc f4 hk
  obtain⟨j6,b4,⟨o,aD,ai,dI,Nn⟩,_⟩:=a_.tuple (aO.of bo)
  obtain⟨cl,dd,Sh,d5⟩:=o
  simp only at ai Nn
  subst ai Nn
  have i9:(⟨h',s.gens,s.drawn,s.toks,s.os⟩:Shared).TypeIs (.ref a) "tuple":=⟨_,aD,rfl⟩
  show wpAny _ _ (holding [.ref a] _ >>= _) _ _ _
  refine wpAny_bind (wpAny_holding (wpAny_bind (wpAny_tryCatch ?_)))
  unfold Builtin.Dict.pairItems
  refine wpAny_bind (wpAny_typeOf i9 ?_)
  rw[if_pos (by decide)]
  refine wpAny_bind (wpAny_seqItems aD rfl (wpAny_pure ?_))
  obtain⟨RP,RO,rfl,vm,ZL⟩:=b4.two
  show wpAny _ _ (holding [RP,RO] (dictSet d RP RO)) _ _ _
  refine wpAny_holding ?_
  obtain⟨z,F1,vs,rel,kR⟩:=uF a_.bM hd
  have ad5:(putK m cN.1 cN.2).length≤m.length+1:=qH m cN.1 cN.2
  refine wpAny_dictSet_pairs (knd:=iw X.prog X.w) (k:=cN.1) (oE vm) kR (fun az Rb jI=>?_) (by rw[←rel.length];exact z)
  have cK:Inv X pins σ (upd H d (.bR (putK m cN.1 cN.2))) { s with heap:=az,toks:=s.toks+1 } :=
   uo (s:={ s with heap:=h' }) a_ (by rw[hd];exact True.intro) jI (let ⟨q,_,_,bk,_⟩:=Rb;⟨q,bk⟩) (wC (by omega) F1 (rel.put cN.1 ZL) Rb)
  have ZZ:p≠d:=dt aF hd (fun z=>nomatch z)
  have N9:it≠d:=(ct hd f0).symm
  have rl:((i:Int)+1)=((i+1:Nat):Int):=by omega
  rw[rl]
  refine wpAny_pure ⟨plainId_quiet y4 _,codeAny_builtin H5 ?_⟩
  rw[Around.under_plainId y4 _]
  refine b3 (i+1) _ _ (putK m cN.1 cN.2) (by omega) (by omega) cK aV (by rw[aB ZZ];exact aF) (fun j x bh=>?_) aC (by omega) (hE.extBut jI.extBut N9) ⟨by rw[aB N9];exact f0,f1,f2,gc,f4,hk⟩ fun aI fk=>q aI ?_
  ·obtain⟨aal,aj,b,az,ck⟩:=h1 j x bh
   exact⟨aal,aj,b,az,by rw[aB (dt ck hd (fun z=>nomatch z))];exact ck⟩
  ·have aG:kvs.drop i=cN::kvs.drop (i+1):=by
    obtain⟨aQ,e⟩:=List.getElem?_eq_some_iff.mp aaV
    rw[←e]
    exact List.drop_eq_getElem_cons aQ
   rw[r0]at fk
   rw[aG]
   exact fk
def WS:List V→ao→cG→Prop:=fun xs H Q=>∃p ys kvs,xs=[.ref p]∧H p=some (.lst ys)∧(∀(j:Nat) (x:V),ys[j]?=some x→∃cN,kvs[j]?=some cN∧uz H x cN)∧kvs.length=ys.length∧ys.length≤1000 ∧
 ∀d,H d=none→Q (.ref d) (upd H d (.bR (putAll [] kvs)))
theorem Je {X:bI}(c5:X.A.handled=none):lr X (.type "dict") WS:=by
 intro pins s σ H xs us Q I bX h
 obtain⟨p,ys,kvs,rfl,aF,h1,aC,hz,q⟩:=h
 obtain⟨u,rfl,eT⟩:=bX.one
 cases eT
 refine callType_codes (Q₁:=fun obj dw=>obj=.ref s.heap.objs.size∧dw={ s with heap:=s.heap.push { cls:=.type "dict",data:=.dict #[] } }) F.kt_called_dict (F.kt_typeCall_dict_1 _) F.entry_dict_init (kt_code_dict_new _ ⟨rfl,rfl⟩) ?_
 rintro obj dw ⟨rfl,rfl⟩
 have a_:Inv X pins σ (upd H s.heap.objs.size (.bR [])) { s with heap:=s.heap.push { cls:=.type "dict",data:=.dict #[] } } :=
  I.laid (a:=s.heap.objs.size) (o:=.bR []) (t':=s.toks) (fun _ _ q=>get?_push_of_some _ q) (le_refl _) (CP s.heap I.big)
 have fr:H s.heap.objs.size=none:=I.fresh
 have np:p≠s.heap.objs.size:=ct aF fr
 have wZ:(s.heap.push { cls:=.type "dict",data:=.dict #[] }).DictOf (iw X.prog X.w) s.heap.objs.size []:=Heap.DictOf.new s.heap
 refine⟨wZ.typeIs,F.args_dict_init_2 _ _,?_⟩
 have FJ:(upd H s.heap.objs.size (.bR [])) p=some (.lst ys):=by rw[aB np];exact aF
 obtain⟨_,its,rD,gN,e0,Sb⟩:=a_.q1 FJ
 unfold Builtin.«dict.__init__»
 refine wpAny_bind ?_
 unfold Builtin.Dict.selfAndRest
 refine wpAny_bind (wpAny_notOrdered_dict wZ.typeIs ?_)
 show wpAny _ _ (pure (s.heap.objs.size,[Value.ref p])) _ _ _
 refine wpAny_pure ?_
 show wpAny _ _ (Builtin.Dict.updateFrom "dict.__init__" s.heap.objs.size (.ref p) [] .none) _ _ _
 unfold Builtin.Dict.updateFrom
 refine wpAny_bind (wpAny_typeOf (T:="list") ⟨_,Sb,rfl⟩ ?_)
 rw[if_pos (by decide)]
 refine wpAny_bind (SN Sb c5 fun h' bB nv=>?_)
 have cK:Inv X pins σ (upd H s.heap.objs.size (.bR [])) { s with heap:=h',toks:=bB }:=a_.kept (t':=bB) nv
 obtain⟨j6,b4,pl,_⟩:=cK.list (aM.of FJ)
 show wpAny _ _ (rule _ >>= fun _=>pyIter (.ref p) >>= _) _ _ _
 refine wpAny_bind (wpAny_rule (wpAny_bind (wpAny_pyIter_list pl.isList ?_)))
 refine wpAny_pure ⟨plainId_quiet y4 _,codeAny_builtin H5 ?_⟩
 rw[Around.under_plainId y4 _]
 have cE:=cK.kept (t':=bB) (h':=h'.push { cls:=.type "list_iterator",data:=.fields #[.ref p,.int 0 0] }) fun b o e=>get?_push_of_some _ e
 refine Tc (A:=X.A.in1) (it:=h'.objs.size) (ys:=ys) (kvs:=kvs) (p:=p) c5 ys.length 0 _ _ [] rfl (zero_le _) cE aV FJ (fun j x bh=>?_) aC (by rw[length_nil,zero_add];exact le_of_lt (T8 hz)) ⟨_,get?_push_size _ rfl,rfl,rfl⟩ (cK.uR (le_refl _) (cK.bM.fresh (le_refl _))) fun aI fk=>?_
 ·obtain⟨cN,aj,a,az,ck⟩:=h1 j x bh
  exact⟨cN,aj,a,az,by rw[aB (ct ck fr)];exact ck⟩
 ·rw[r0,drop_zero]at fk
  exact⟨rfl,.ref s.heap.objs.size,_,fk,rfl,q _ fr⟩
def fc {α:Type}(R:α→V→Prop) (l:List α) (xs:List V):Prop:=l.length=xs.length∧∀(i:Nat) (a:α) (x:V),l[i]?=some a→xs[i]?=some x→R a x
section
variable {α:Type}{R Su:α→V→Prop}{l:List α}{xs:List V}
theorem fc.nil:fc R [] []:=⟨rfl,fun i a x h _=>by simp at h⟩
theorem fc.get (h:fc R l xs) {i:Nat}{x:V}(e:xs[i]?=some x):∃a,l[i]?=some a∧R a x:=by
 have aP:i<xs.length:=(List.getElem?_eq_some_iff.mp e).1
 have aC:i<l.length:=by rw[h.1];exact aP
 exact⟨l[i],getElem?_eq_getElem aC,h.2 i _ x (getElem?_eq_getElem aC) e⟩
theorem fc.mono (h:fc R l xs) (f:∀a x,R a x→Su a x):fc Su l xs:=⟨h.1,fun i a x aj az=>f a x (h.2 i a x aj az)⟩
theorem fc.snoc {a:α}{x:V}(h:fc R l xs) (q:R a x):fc R (l++[a]) (xs++[x]):=by
 refine⟨by rw[length_append,length_append,h.1];rfl,fun i b y aj az=>?_⟩
 by_cases aP:i<l.length
 ·rw[getElem?_append_left aP]at aj
  rw[getElem?_append_left (by rw[←h.1];exact aP)]at az
  exact h.2 i b y aj az
 ·rw[getElem?_append_right (by omega)]at aj
  have bh:xs.length≤i:=by rw[←h.1];omega
  rw[getElem?_append_right bh,←h.1]at az
  cases z:i - l.length with
  | zero =>
   rw[z]at aj az
   have aG:a=b:=Option.some.inj aj
   have aL:x=y:=Option.some.inj az
   rw[←aG,←aL]
   exact q
  | succ n=>rw[z]at aj;simp at aj
theorem fc.drop (h:fc R l xs) (n:Nat):fc R (l.drop n) (xs.drop n):=by
 refine⟨by rw[length_drop,length_drop,h.1],fun i a x aj az=>?_⟩
 rw[List.getElem?_drop]at aj az
 exact h.2 _ a x aj az
end
theorem pC (ns:List Int) (j:Nat) (z:Int):(ns.map V.int).set j (.int z)=(ns.set j z).map V.int:=by rw[List.map_set]
theorem rT {ns:List Int}{i:Nat}{z:Int}(h:ns[i]?=some z):(ns.map V.int)[i]?=some (.int z):=by rw[getElem?_map,h];rfl
theorem ll {ns:List Int}{k:Int}(h0:0≤k) (aj:k<(ns.length:Int)):∃z,ns[k.toNat]?=some z∧n2 (ns.map V.int) k=some (.int z):=by
 obtain⟨v,aG,aL⟩:=DW (xs:=ns.map V.int) h0 (by rw[length_map];exact aj)
 obtain⟨z,rfl,bH⟩:=IP aL
 exact⟨z,bH,aG⟩
theorem JM (ns:List Int):(ns.map V.int).all pR=true:=by
 rw[List.all_eq_true]
 intro v aX
 obtain⟨z,_,rfl⟩:=mem_map.mp aX
 rfl
theorem VC (d:Int) (ns:List Int):iO (.int d) (ns.map V.int)=decide (d∈ns):=by
 unfold iO
 induction ns with
 | nil=>rfl
 | cons n r b3 =>
  rw[map_cons,any_cons,b3]
  have e:qd (.int n) (.int d)=(n == d):=rfl
  rw[e]
  by_cases h:n=d
  ·subst h
   simp
  ·have h':¬d=n:=fun z=>h z.symm
   simp[h,h']
theorem t5 {env:Env}{fv y:Str}:∀{names:List (Str × NameKind)}{k:NameKind},(∀z∈names,z.2≠.cell)→(∀z∈names,z.2=.free→z.1=fv) →
  (names.map fun (n,k)=>if (k == NameKind.free && env.scope.kind == .function && env.kindOf n == some .cell) then (n,NameKind.cell) else (n,k)).lookup y=some k→(k=.cell∨k=.free)→y=fv
 | [],_,_,_,h,_=>by simp at h
 | (n,k0)::r,k,aj,az,h,aQ=>by
  rw[map_cons,lookup_cons]at h
  have FO:=aj (n,k0) mem_cons_self
  have xR:=az (n,k0) mem_cons_self
  by_cases ai:(k0 == NameKind.free && env.scope.kind == .function && env.kindOf n == some .cell)=true
  ·simp only[ai,if_true]at h
   cases e:y == n with
   | true =>
    have:k0=.free:=by
     rw[and_eq_true,and_eq_true]at ai
     exact beq_iff_eq.mp ai.1.1
    rw[beq_iff_eq.mp e]
    exact xR this
   | false =>
    rw[e]at h
    exact t5 (fun z hz=>aj z (mem_cons_of_mem _ hz)) (fun z hz=>az z (mem_cons_of_mem _ hz)) h aQ
  ·simp only[ai,Bool.false_eq_true,if_false]at h
   cases e:y == n with
   | true =>
    rw[e]at h
    have h':some k0=some k:=h
    cases h'
    rw[beq_iff_eq.mp e]
    rcases aQ with z | z
    ·exact absurd z FO
    ·exact xR z
   | false =>
    rw[e]at h
    exact t5 (fun z hz=>aj z (mem_cons_of_mem _ hz)) (fun z hz=>az z (mem_cons_of_mem _ hz)) h aQ
theorem ic.one {X:bI}{x fv:Str}{j:Nat}{c:Addr}{scope:Scope}(sl:closureFor scope X.env=pure [(fv,c)]) (jh:∀y∈scope.names,y.2≠.cell) (iz:∀y∈scope.names,y.2=.free→y.1=fv) (pQ:scope.kind=.function)
  (sf:∀y∈scope.names,y.2=.local→scope.names.lookup y.1=some .local) (w0:scope.names.lookup x=some .local) (ai:X.env.cells.lookup fv=some c) (hg:x≠fv) (fV:X.N[j]?=some fv) (aQ:X.env.scope.names.lookup fv=some .cell)
  (aE:(relabel scope X.env).names.lookup fv=some .cell):ic X x [j] [x,fv] scope [(fv,c)] where
 nL:=sl
 cell:=jh
 kind:=pQ
 names:=sf
 loc:=w0
 sub:=fun y d e=>by
  rw[lookup_cons]at e
  cases z:y == fv with
  | true =>
   rw[z]at e
   have cF:some c=some d:=e
   cases cF
   rw[beq_iff_eq.mp z]
   exact ai
  | false=>rw[z]at e;simp at e
 has:=fun y b6=>by
  have:y=fv:=by
   rcases b6 with h | h
   ·exact t5 jh iz h (.inl rfl)
   ·exact t5 jh iz h (.inr rfl)
  subst this
  exact⟨c,by rw[lookup_cons,beq_self_eq_true]⟩
 bh:=rfl
 len:=rfl
 a3:=by
  rw[nodup_cons]
  exact⟨fun m=>hg (mem_singleton.mp m),by simp⟩
 p5:=fun i k y aj az=>by
  cases i with
  | zero =>
   have aG:fv=y:=Option.some.inj aj
   have aL:j=k:=Option.some.inj az
   subst aG aL
   exact⟨fV,aQ,aE⟩
  | succ i=>simp at az
theorem TQ {K:PySem.W.Frag}{a:Addr}{ns:List Int}{bY:TE}{bz:St}{Q:cG}{H:ao}{acc:Addr}{w:V}(bo:H a=some (.lst (ns.map V.int))) (h0:H acc=none) (hz:ns.length≤1000)
  (he:∀(z:Int) aS (k:cG),(∀p,aS p=none→k (.ref p) (upd aS p (.tup [.int z,w])))→bY (some (.int z)::bz) aS k)
  (q:∀(ys:List V) (af:ao),bx H af→af acc=some (.lst ys)→fc (fun z x=>uz af x (Sum.inl z,w)) ns ys→Q (.ref acc) af):sq (oZ K a) bY bz Q H acc:=by
 have AV:a≠acc:=ct bo h0
 refine⟨ns.length,fun i ys av=>i≤ns.length∧bx H av∧av acc=some (.lst ys)∧fc (fun z x=>uz av x (Sum.inl z,w)) (ns.take i) ys,⟨zero_le _,bV h0 _,aV,.nil⟩,?_⟩
 rintro i ys av ⟨aP,dj,de,aF⟩
 have kP:=dj _ _ bo
 by_cases c2:i<ns.length
 ·refine .inr ⟨⟨_,.int ns[i],aM.of kP,rT (getElem?_eq_getElem c2)⟩,c2,?_⟩
  rintro v aS ⟨rfl,aX⟩
  have ev:v=.int ns[i]:=by
   have:=aX _ (aM.of kP)
   rw[rT (getElem?_eq_getElem c2)]at this
   exact (Option.some.inj this).symm
  subst ev
  refine he _ _ _ fun p j_=>?_
  have xr:p≠acc:=(ct de j_).symm
  have Ej:(upd aS p (.tup [.int ns[i],w])) acc=some (.lst ys):=by rw[aB xr.symm];exact de
  have m3:ys.length=i:=by rw[←aF.1,length_take];omega
  refine⟨Ej,lt_of_le_of_lt (by omega:ys.length≤1000) (by decide),c2,(dj.trans (bV j_ _)).hr h0,aV,?_⟩
  rw[take_add_one,getElem?_eq_getElem c2]
  refine fc.snoc (aF.mono fun z x bh=>?_) ⟨p,rfl,by rw[aB xr,aV];rfl⟩
  obtain⟨b,aG,aL⟩:=bh
  exact⟨b,aG,by rw[aB (dt aL de (fun z=>nomatch z)),aB (ct aL j_)];exact aL⟩
 ·have e:i=ns.length:=by omega
  subst e
  rw[take_length]at aF
  exact .inl ⟨⟨_,aM.of kP,by rw[length_map];exact le_refl _⟩,q ys av dj de aF⟩
theorem putAll_has (w:V):∀(ns:List Int) (m:List (Key × V)) (z:Int),(dF (putAll m (ns.map fun n=>((Sum.inl n:Key),w))) (Sum.inl z)).isSome=(decide (z∈ns) || (dF m (Sum.inl z)).isSome)
 | [],m,z=>by
  show (dF m (Sum.inl z)).isSome=_
  simp
 | n::r,m,z=>by
  have b3:=putAll_has w r (putK m (Sum.inl n) w) z
  show (dF (putAll (putK m (Sum.inl n) w) (r.map fun n=>((Sum.inl n:Key),w))) (Sum.inl z)).isSome=_
  rw[b3,vW]
  by_cases h:z=n
  ·subst h
   simp
  ·have h':¬((Sum.inl z:Key)=Sum.inl n):=fun e=>h (Sum.inl.inj e)
   simp[h,h']
theorem Iq {prog:Program}{w:World}{A:Around}{R:Result→Shared→Prop}{s:Shared}{elt target iter c:Expr}{scope:Scope}{pos:Pos}{it acc:Value}{env:Env}(I:Nat→Shared→Prop)
  (turn:∀n s,I n s→wpAny (model prog w) A (pyNext it) (fun r dw=>match r with
   | none=>R (.ok .next) dw
   | some v=>wpAny (model prog w) A (letOwnedTupleGo target it v) (fun _ iR=>wpAny (model prog w) A (assign target env v) (fun _ hi=>wpAny (model prog w) A (isTrue c env (eval c env)) (fun ok ng =>
     if ok=true then wpAny (model prog w) A (eval elt env) (fun x yq =>
      wpAny (model prog w) A (call (.builtin "list.append") [acc,x]) (fun _ RU=>∃m,m<n∧I m RU) (fun _ _=>False) yq) (fun _ _=>False) ng
     else ∃m,m<n∧I m ng) (fun _ _=>False) hi) (fun _ _=>False) iR) (fun _ _=>False) dw) (fun _ _=>False) s)
  (n:Nat) (h:I n s):codeAny (model prog w) A (.compLoop (.ListComp elt [⟨target,iter,[c],0⟩] scope pos) 0 it acc env) R s:=by
 refine codeAny_loop rfl I (fun n s qq=>?_) n h
 show wpAny _ A ((compTurn (.ListComp elt [⟨target,iter,[c],0⟩] scope pos) 0 it acc env).onRaise (fun x=>do noteFrame x env;theTreesLotGoes x)) _ _ s
 refine wpAny_noted ?_
 rw[compTurn_list]
 refine wpAny_bind (wpAny_standAt (wpAny_bind (wpAny_mono (turn n s qq) (fun r dw fU=>?_) fun _ _ z=>False.elim z)))
 cases r with
 | none=>exact wpAny_pure fU
 | some v =>
  refine wpAny_bind (wpAny_mono fU (fun _ iR nB=>?_) fun _ _ z=>False.elim z)
  refine wpAny_bind (wpAny_mono nB (fun _ hi yG=>wpAny_bind (wpAny_mono (wpAny_tests_one yG) (fun ok ng BD=>?_) fun _ _ z=>False.elim z)) fun _ _ z=>False.elim z)
  cases ok with
  | false=>exact wpAny_pure ⟨rfl,BD⟩
  | true=>exact wpAny_bind (wpAny_bind (wpAny_mono BD (fun x yq Ht=>wpAny_bind (wpAny_mono Ht (fun _ RU acD=>wpAny_pure (wpAny_pure ⟨rfl,acD⟩)) fun _ _ z=>False.elim z)) fun _ _ z=>False.elim z))
def z0 (J:kr) (tt:TT) (bY:TE) (bz:St) (Q:cG) (H:ao) (acc:Addr):Prop :=
 ∃(n:Nat) (W:Nat→List V→ao→Prop),W 0 [] (upd H acc (.lst []))∧∀i ys av,W i ys av→(J.stop i av∧Q (.ref acc) av) ∨
  (J.go i av∧i<n∧∀v aS,J.oH i av v aS→tt (some v::bz) aS fun b Rt=>if b=true then bY (some v::bz) Rt fun y cB=>cB acc=some (.lst ys)∧ys.length<sizeLine∧W (i+1) (ys++[y]) (upd cB acc (.lst (ys++[y]))) else W (i+1) ys Rt)
theorem I_ {X:bI}{pins:List (Addr × Obj)}{σ:St}{H:ao}{s:Shared}{x:Str}{hT:Pos}{elt iter c:Expr}{scope:Scope}{pos:Pos}{cl:List (Str × Addr)}{cQ:List Str}{fr:List Nat}{bY:TE}{tt:TT}{J:kr}{bG:List Addr}{it:Addr}
  {eo:Nat→Heap→Prop} {E:Value→Shared→Prop} {RR:Value→Addr→Result→Shared→Prop} {Q:cG} (B:ic X x fr cQ scope cl) (ai:X.calm=true) (I:Inv X pins σ H s) (T:Turn X.prog X.w X.K (.Name x hT) J bG it eo)
  (st:eo 0 s.heap) (hf:∀b∈bG,l4 X pins H b) (bk:∀C aI af,h5 (eE X cQ scope cl C aI af bG) c tt) (he:∀C aI af,b8 (eE X cQ scope cl C aI af bG) elt bY) (h:∀acc,H acc=none→z0 J tt bY (pick σ fr) Q H acc)
  (xW:∀acc C af aI m,Inv X pins σ af aI→Q (.ref acc) af→aI.heap.Ns C m→af C=none→C≠X.env.locals→(C∈X.ex∨X.fT.heap.objs.size≤C)→(∀y c,X.env.cells.lookup y=some c→c≠C)→(∀p∈X.bL++pins,p.1≠C)→RR (.ref acc) C (.ok .next) aI) :
  wpAny (model X.prog X.w) X.A (newList []) (fun acc hi=>wpAny (model X.prog X.w) X.A (newFunctionEnv scope X.env.globals cl [] X.env.qual none .none (some X.env)) (fun q3 ng =>
   codeAny (model X.prog X.w) X.A (.compStart (.ListComp elt [⟨.Name x hT,iter,[c],0⟩] scope pos) 0 (.ref it) acc { q3 with scope:=relabel scope X.env }) (RR acc q3.locals) ng) E hi) E s:=by
 refine wpAny_newObj_type (wpAny_newFunctionEnv B.cell (by intro y b6;simp at b6) (fun fU nK nJ=>?_) B.kind)
 have cE:Inv X pins σ (upd H s.heap.objs.size (.lst [])) { s with heap:=s.heap.push { cls:=.type "list",data:=.seq ([]:List Value).toArray } }:=I.Aw (its:=[]) (t':=s.toks) .nil (zero_le _)
 obtain⟨n,W,qi,turn⟩:=h s.heap.objs.size I.fresh
 dsimp only at nK nJ ⊢
 generalize rb:({ s with heap:=s.heap.push { cls:=.type "list",data:=.seq ([]:List Value).toArray } }:Shared)=s3 at *
 have rg:s.heap.push { cls:=.type "list",data:=.seq ([]:List Value).toArray }=s3.heap:=by rw[←rb]
 have w1:s.heap.push { cls:=.type "list",dict:=none,data:=.seq ([]:List Value).toArray }=s3.heap:=rg
 rw[w1]at nK nJ ⊢
 have jH:∀b o,s3.heap.get? b=some o→b≠s3.heap.objs.size:=fun b o e=>ne_of_lt (lt_size e)
 have jD:∀b o,s3.heap.get? b=some o→fU.get? b=some o:=fun b o e=>nJ.extBut b o (jH b o e) (get?_push_of_some _ e)
 have qU:∀b o,s.heap.get? b=some o→s3.heap.get? b=some o:=fun b o e=>by rw[←rg];exact get?_push_of_some _ e
 have kH:eo 0 fU:=T.keep 0 _ _ st fun b _ o e=>jD b o (qU b o e)
 have wO:∀b∈bG,∃o,s3.heap.get? b=some o:=fun b aa=>by
  obtain⟨o,e,_⟩:=T.obj 0 _ st b aa
  exact⟨o,qU b o e⟩
 have nH:∀b,b≠X.env.locals→b∉X.bQ→b∉gY X.stack:=fun b aj az aa=>by
  rcases mem_cons.mp (cE.uv b aa) with z | z
  ·exact aj z
  ·exact az z
 have ok:(eE X cQ scope cl s3.heap.objs.size s3 (upd H s.heap.objs.size (.lst [])) bG).Ok:=by
  refine⟨I.ok.mod,?_,I.ok.glob,I.ok.blt,le_refl _,fun y z c aj az=>I.ok.inj y z c (B.sub y c aj) (B.sub z c az),fun y b6=>B.has y b6,fun y c e _=>absurd (show false=true from e) Bool.false_ne_true,I.ok.hd,I.ok.frames,.inl rfl,fun b aa=>?_,cE.bs,
   le_trans I.ok.lG cE.ef,fun b o e aa=>?_,fun b aa=>nH b (hf b aa).2.1 (hf b aa).2.2.1,cE.stack,cE.v9⟩
  ·exact B.kind
  ·obtain⟨o,e⟩:=wO b aa
   exact⟨jH b o e,fun y c e=>(hf b aa).2.2.2.2.1 y c (B.sub y c e)⟩
  ·rcases (hf b aa).2.2.2.1 with z | z
   ·exact I.ok.nI b o e z
   ·exact absurd (lt_of_lt_of_le (lt_size (I.ok.bs b o e).1) z) (lt_irrefl _)
 have cellK:∀c v,s3.heap.IsCell c v→fU.IsCell c v:=fun c v ⟨o,aD,hd⟩=>⟨o,jD c o aD,hd⟩
 have kE:∀{af:ao},(∀b∈bG,af b=none)→∀b∈bG,l4 (eE X cQ scope cl s3.heap.objs.size s3 (upd H s.heap.objs.size (.lst [])) bG) pins af b:=fun aR b aa =>
  ⟨aR b aa,(ok.qc b aa).1,nH b (hf b aa).2.1 (hf b aa).2.2.1,.inl aa,fun y c e=>(hf b aa).2.2.2.2.1 y c (B.sub y c e),(hf b aa).2.2.2.2.2⟩
 have jX:Inv (eE X cQ scope cl s3.heap.objs.size s3 (upd H s.heap.objs.size (.lst [])) bG) pins (none::pick σ fr) (upd H s.heap.objs.size (.lst [])) { s3 with heap:=fU }:=by
  refine⟨ok,rfl,cE.bare,hC.kept jD,⟨_,nK,fun i y v aj az ck=>?_⟩,fun y c e=>?_,cE.fresh,fun y c e=>cE.jE y c (B.sub y c e),fun p aF=>?_,cE.bM.kept jD,?_⟩
  ·cases i with
   | zero=>cases (show some none=some (some v) from az)
   | succ i =>
    have az:(pick σ fr)[i]?=some (some v):=az
    unfold pick at az
    rw[getElem?_map]at az
    cases kY:fr[i]? with
    | none=>rw[kY]at az;cases az
    | some j =>
     rw[kY]at az
     have lE:(σ[j]?).getD none=some v:=Option.some.inj az
     have yH:σ[j]?=some (some v):=by
      cases q:σ[j]? with
      | none=>rw[q]at lE;cases lE
      | some o =>
       rw[q]at lE
       have:o=some v:=lE
       rw[this]
     obtain⟨eY,gh,k6⟩:=B.p5 i j y aj kY
     obtain⟨fo,_,xQ⟩:=cE.loc
     obtain⟨u,eT,lk⟩:=xQ j y v eY yH (.inr (.inl gh))
     refine⟨u,eT,.inr ⟨.inl k6,?_⟩⟩
     rcases lk with ⟨k,_⟩ | ⟨_,c,e,z⟩
     ·have g5:X.env.scope.names.lookup y=some .local:=k
      rw[gh]at g5
      cases g5
     ·obtain⟨fO,cF⟩:=B.has y (.inl k6)
      have:=B.sub y fO cF
      rw[e]at this
      cases this
      exact⟨_,cF,cellK _ _ z⟩
  ·obtain⟨v,z⟩:=cE.cell y c (B.sub y c e)
   exact⟨v,cellK c v z⟩
  ·obtain⟨e,rD,ne,kU,d⟩:=cE.pin p aF
   exact⟨jD _ _ e,rD,jH _ _ e,nH _ ne kU,d⟩
  ·show (none::pick σ fr).length=cQ.length
   rw[B.len,length_cons]
   unfold pick
   rw[length_map]
 have fin:∀{af:ao} {bz:St} {aI:Shared},Inv (eE X cQ scope cl s3.heap.objs.size s3 (upd H s.heap.objs.size (.lst [])) bG) pins bz af aI→Q (.ref s.heap.objs.size) af→RR (.ref s.heap.objs.size) s3.heap.objs.size (.ok .next) aI:=fun {af bz aI} J q=>by
  obtain⟨m,aR,_⟩:=J.loc
  refine xW _ _ af aI m (cE.z7 (ch:=bG) J.os J.base J.bM J.bare fun b aa=>⟨(hf b aa).2.2.2.1,(hf b aa).2.1,(hf b aa).2.2.2.2.1,(hf b aa).2.2.2.2.2⟩) q aR J.free (ne_of_gt cE.lt) (.inr cE.ef) (fun y c e=>?_) fun p aF=>?_
  ·obtain⟨v,o,aD,_⟩:=cE.cell y c e
   exact jH c o aD
  ·exact jH _ _ (cE.pin p aF).1
 have loop:∀hi:Shared,hi={ s3 with heap:=fU }→codeAny (model X.prog X.w) X.A (.compLoop (.ListComp elt [⟨.Name x hT,iter,[c],0⟩] scope pos) 0 (.ref it) (.ref s.heap.objs.size) (compEnvC scope cl s3.heap.objs.size X.env)) (RR (.ref s.heap.objs.size) s3.heap.objs.size) hi:=by
  rintro hi rfl
  refine Iq (fun m aI=>∃i ys th af,Inv (eE X cQ scope cl s3.heap.objs.size s3 (upd H s.heap.objs.size (.lst [])) bG) pins (th::pick σ fr) af aI∧eo i aI.heap∧(∀b∈bG,af b=none)∧W i ys af∧m=n - i) ?_ n ⟨0,[],none,_,jX,kH,fun b aa=>?_,qi,rfl⟩
  ·rintro m aI ⟨i,ys,th,af,fk,hE,ro,ec,rfl⟩
   rcases turn i ys af ec with ⟨stop,q⟩ | ⟨go,nW,step⟩
   ·refine bT (T.done (eE X cQ scope cl s3.heap.objs.size s3 (upd H s.heap.objs.size (.lst [])) bG) rfl rfl rfl ai i pins aI _ af (fun _ _=>False) fk (kE ro) hE stop) fun r s1 ⟨aE,a_⟩=>?_
    subst aE
    exact fin a_ q
   ·refine bT (T.item (eE X cQ scope cl s3.heap.objs.size s3 (upd H s.heap.objs.size (.lst [])) bG) rfl rfl rfl ai i pins aI _ af (fun _ _=>False) fk (kE ro) hE go) fun r s1 ⟨u,aE,dv⟩=>?_
    subst aE
    refine bT dv fun _ s5 ⟨v,dr,qA,mh,tg,kG,s8⟩=>?_
    have te:=qA.pinned (kE s8) (T.obj _ _ kG)
    have rF:(relabel scope X.env).names.lookup x=some .local:=lookup_relabel_local B.loc
    refine bT (fQ (X:=eE X cQ scope cl s3.heap.objs.size s3 (upd H s.heap.objs.size (.lst [])) bG) (i:=0) (x:=x) B.a3 B.bh (.inl rF) (.inr rF) _ s5 _ dr v u
     (fun bz dO=>bz=some v::pick σ fr∧dO=dr) te mh ⟨rfl,rfl⟩) fun _ nh ⟨Br,dO,tR,aG,aL⟩=>?_
    subst aG aL
    have again:∀{gT:ao} {zs:List V} {iE:Shared},Inv (eE X cQ scope cl s3.heap.objs.size s3 (upd H s.heap.objs.size (.lst [])) bG) (pins++ux bG s5.heap) (some v::pick σ fr) gT iE→W (i+1) zs gT →
      ∃m,m<n - i∧∃i ys th af,Inv (eE X cQ scope cl s3.heap.objs.size s3 (upd H s.heap.objs.size (.lst [])) bG) pins (th::pick σ fr) af iE∧eo i iE.heap∧(∀b∈bG,af b=none)∧W i ys af∧m=n - i:=fun {gT zs iE} k8 yo=>by
     refine⟨n - (i+1),by omega,i+1,zs,some v,_,k8.ua,T.keep _ _ _ kG fun b aa o e=>(k8.pin (b,o) (mem_append_right _ (mem_append_right _ (qJ aa e)))).1,fun b aa=>?_,yo,rfl⟩
     obtain⟨o,e,d⟩:=T.obj _ _ kG b aa
     exact (k8.pin (b,o) (mem_append_right _ (mem_append_right _ (qJ aa e)))).2.1
    refine bT (bk _ _ _ _ nh _ _ _ tR (step v _ tg)) fun ok EW ⟨abB,yb,xe⟩=>?_
    cases ok with
    | false=>exact again yb xe
    | true =>
     refine bT (he _ _ _ _ EW _ _ _ yb xe) fun y fz ⟨jL,dR,jW,bO,de,hlen,n8⟩=>?_
     refine bT (h_ _ fz _ dR (.ref s.heap.objs.size) [jL] (.ref s.heap.objs.size) [y] (fun _ gT=>gT=upd dR s.heap.objs.size (.lst (ys++[jL]))) jW rfl (.cons bO .nil) ⟨_,ys,jL,rfl,rfl,de,hlen,rfl⟩) fun _ iE ⟨_,gT,k8,_,lQ⟩=>?_
     subst lQ
     exact again k8 n8
  ·obtain⟨o,e,_⟩:=T.obj 0 _ st b aa
   rw[aB (ne_of_lt (lt_size e))]
   exact (hf b aa).1
 have bS:({ s with heap:=fU,toks:=s.toks+([]:List (Str × Value)).length }:Shared)={ s3 with heap:=fU }:=by rw[←rb];rfl
 rw[bS]
 exact codeAny_compStart_list (loop _ rfl) (T.self _ 0 _ _ _ kH (loop _ rfl))
section
variable {X:bI}{x y:Str}{hT py pos qY:Pos}{elt iter c:Expr}{scope:Scope}{cl:List (Str × Addr)}{cQ:List Str}{fr:List Nat}{fM:TI}{bY:TE}{tt:TT}
def LA (fM:TI) (fr:List Nat) (tt:TT) (bY:TE):TE:=fun σ H Q=>fM σ H fun J H1=>∀acc,H1 acc=none→z0 J tt bY (pick σ fr) Q H1 acc
theorem U_ (fr:List Nat) (cQ:List Str) (B:ic X x fr cQ scope cl) (ai:X.calm=true) (aP:pn X (.Name x hT) iter fM) (bk:∀C aI af bG,h5 (eE X cQ scope cl C aI af bG) c tt) (he:∀C aI af bG,b8 (eE X cQ scope cl C aI af bG) elt bY) (aJ:∀x,foldedSetIterable iter X.env x=pure x:=by intro _;rfl) :
  b8 X (.ListComp elt [⟨.Name x hT,iter,[c],0⟩] scope pos) (LA fM fr tt bY):=by
 intro pins s σ H Q I h
 rw[eval_ListComp]
 refine wpAny_comprehension_free (use:=none) rfl aJ B.nL B.kind B.names (bT (aP pins s σ H _ I h) fun v s1 aj=>bT aj fun sP s2 az=>?_)
 obtain⟨it,bG,eo,J,av,e,cK,T,nN,f2,aW⟩:=az
 subst e
 refine I_ (RR:=fun acc C=>compPost (model X.prog X.w) X.A X.dS none (hK X pins σ Q) acc C) B ai cK T nN f2 (fun C aI af=>bk C aI af bG) (fun C aI af=>he C aI af bG) aW ?_
 intro acc C af aI m fk q aR h0 aj ck dv gF
 refine⟨m,aR,fun h' jM=>⟨.ref acc,af,fk.turned (t':=aI.toks) (fun b o aa e=>(jM.2 b aa).trans e) h0 aj ck dv gF,rfl,q⟩⟩
def WM (i:Nat) (fM:TI) (fr:List Nat) (tt:TT) (bY:TE):fX:=fun D σ H=>LA fM fr tt bY σ H fun v H1=>D.dk (σ.set i (some v)) H1
theorem U7 {i:Nat}(fr:List Nat) (cQ:List Str) (fV:X.N.Nodup) (iQ:X.N[i]?=some y) (b6:X.env.kindOf y=some .local) (B:ic X x fr cQ scope cl) (ai:X.calm=true) (aP:pn X (.Name x hT) iter fM)
  (bk:∀C aI af bG,h5 (eE X cQ scope cl C aI af bG) c tt) (he:∀C aI af bG,b8 (eE X cQ scope cl C aI af bG) elt bY) (xF:swapsWith (.ListComp elt [⟨.Name x hT,iter,[c],0⟩] scope pos) (some (.Name y py)) qY.line X.env=pure true:=by rfl) (aJ:∀x,foldedSetIterable iter X.env x=pure x:=by intro _;rfl) :
  jV X (.Assign [.Name y py] (.ListComp elt [⟨.Name x hT,iter,[c],0⟩] scope pos) qY) (WM i fM fr tt bY):=by
 intro pins s σ H D I h
 rw[exec_Assign_Name_used _ _ _ _ xF]
 refine wpAny_bind (wpAny_standAt (wpAny_bind ?_))
 show wpAny _ X.A (do let _ ← comprehension (.ListComp elt [⟨.Name x hT,iter,[c],0⟩] scope pos) scope X.env _ (newList []) false (eval iter X.env) (some (assign (.Name y py) X.env))) _ _ s
 refine wpAny_bind (wpAny_mono (wpAny_comprehension_free (use:=some (assign (.Name y py) X.env)) (Q:=fun _ aI=>oq X pins D .next aI) rfl aJ B.nL B.kind B.names (bT (aP pins s σ H _ I h) fun v s1 aj=>bT aj fun sP s2 az=>?_))
  (fun _ aI bk=>wpAny_pure (wpAny_pure bk)) fun _ _ e=>e)
 obtain⟨it,bG,eo,J,av,e,cK,T,nN,f2,aW⟩:=az
 subst e
 refine I_ (RR:=fun acc C=>compPost (model X.prog X.w) X.A X.dS (some (assign (.Name y py) X.env)) (fun _ aI=>oq X pins D .next aI) acc C) B ai cK T nN f2 (fun C aI af=>bk C aI af bG) (fun C aI af=>he C aI af bG) aW ?_
 intro acc C af aI m fk q aR h0 aj ck dv gF
 show wpAny _ X.A (assign (.Name y py) X.env (.ref acc)) _ _ _
 refine wpAny_assign_Name (zp (v:=.ref acc) fk fV iQ (.inl b6) rfl (fun p6 yc xG=>?_) (.inr b6))
 obtain⟨a,jM,bo⟩:=xG
 have xX:C≠a:=by
  rcases bo with z | z
  ·rw[z];exact aj
  ·exact Ne.symm (dv _ _ z)
 refine⟨m,aR.sameBut jM xX,fun h' w9=>⟨_,af,yc.turned (t':=p6.toks) (fun b o aa e=>(w9.2 b aa).trans e) h0 aj ck dv gF,q⟩⟩
end
inductive bD where
 | put (d:Int) (p:Nat) (o n:Int)
 | fin (d:Int)
 deriving DecidableEq
def j0 (log:List bD) (d:Int):Bool:=log.any fun ln=>match ln with
 | .fin e=>e == d
 | .put .. => false
def nE (full:List bD):List bD→Nat→Option Int
 | [],_=>none
 | .put d p o _::r,q=>if p=q∧j0 full d=false then some o else nE full r q
 | .fin _::r,q=>nE full r q
def ey:List bD→Nat→Option Int→Option Int
 | [],_,a=>a
 | .put _ p _ n::r,q,a=>ey r q (if p=q then some n else a)
 | .fin _::r,q,a=>ey r q a
def oB (log:List bD) (q:Nat) (v:Int):Int:=(nE log log q).getD ((ey log q none).getD v)
theorem vI (a b:List bD) (q:Nat) (x:Option Int):ey (a++b) q x=ey b q (ey a q x):=by
 induction a generalizing x with
 | nil=>rfl
 | cons ln r b3=>cases ln <;> exact b3 _
theorem IK (l:List bD) (q:Nat) (x:Option Int):ey l q x=(ey l q none).or x:=by
 induction l generalizing x with
 | nil=>cases x <;> rfl
 | cons ln r b3 =>
  cases ln with
  | fin d=>exact b3 x
  | put d p o n =>
   show ey r q (if p=q then some n else x)=(ey r q (if p=q then some n else none)).or x
   by_cases h:p=q
   ·rw[if_pos h,if_pos h,b3 (some n)]
    cases ey r q none <;> rfl
   ·rw[if_neg h,if_neg h]
    exact b3 x
structure abz (log:List bD) (ss:List Int) (q:Nat) (t vA cN:Int):Prop where
 d4:t = -1∨(0≤t∧t≤2)
 e8:∀x,ey log q none=some x→x=vA
 gu:ey log q none=none→vA=cN
 fr:t = -1→vA=cN∧∀d o n,bD.put d q o n∈log→j0 log d=true
 bB:0≤t→∃d,ss[t.toNat]?=some d∧nE log log q=some cN∧∀d' o n,bD.put d' q o n∈log→j0 log d'=false→d'=d
structure Zu (m:Int) (log:List bD) (ss:List Int):Prop where
 len:ss.length=3
 lt:∀(s:Nat) (d:Int),ss[s]?=some d→d<m∧j0 log d=false
 inj:∀(s aI:Nat) (d:Int),ss[s]?=some d→ss[aI]?=some d→s=aI
 tF:∀d,bD.fin d∈log→d<m
 pu:∀d p o n,bD.put d p o n∈log→d<m
theorem Ci {log:List bD}{d:Int}:j0 log d=true↔bD.fin d∈log:=by
 unfold j0
 rw[any_eq_true]
 constructor
 ·rintro⟨ln,aj,az⟩
  cases ln with
  | fin e=>rw[←eq_of_beq az];exact aj
  | put d p o n=>cases az
 ·intro h
  exact⟨_,h,beq_self_eq_true d⟩
structure afl (n:Nat) (m:Int) (log:List bD) (ds aU ss aT:List Int):Prop where
 num:Zu m log ss
 bP:∀q,q<n→∃t vA cN,aT[q]?=some t∧ds[q]?=some vA∧aU[q]?=some cN∧abz log ss q t vA cN
def kF (H:ao):bD→V→Prop
 | .put d p o n,x=>∃a,x=.ref a∧H a=some (.tup [.str "put",.int d,.int (p:Nat),.int o,.int n])
 | .fin d,x=>∃a,x=.ref a∧H a=some (.tup [.str "end",.int d])
def bD.ok (c:Nat):bD→Prop
 | .put _ p _ _=>p<c
 | .fin _=>True
theorem kF.mono {H af:ao}(k:d1 H af):∀{ln:bD}{x:V},kF H ln x→kF af ln x
 | .put d p o n,x,⟨a,e,h⟩=>⟨a,e,k _ _ h⟩
 | .fin d,x,⟨a,e,h⟩=>⟨a,e,k _ _ h⟩
abbrev hu (H:ao) (log:List bD) (xs:List V):Prop:=fc (kF H) log xs
theorem r4 {n j:Nat}(h:j<n):oO n (j:Int)=some j:=by
 rw[Xe (Int.natCast_nonneg _) (by omega)]
 rfl
theorem uq (xs:List V) (k:Nat):j8 xs (some (k:Int)) none=xs.drop k:=by
 unfold j8
 rw[hp.CE,hp.C3]
 rw[take_of_length_le (by rw[length_drop];exact le_refl _)]
 by_cases h:k≤xs.length
 ·rw[Nat.min_eq_left h]
 ·rw[Nat.min_eq_right (by omega),drop_length,List.drop_eq_nil_of_le (by omega)]
theorem ints_of:∀{ys:List V},(∀v∈ys,∃z:Int,v=.int z)→∃ns:List Int,ys=ns.map V.int
 | [],_=>⟨[],rfl⟩
 | y::r,h=>by
  obtain⟨z,rfl⟩:=h y mem_cons_self
  obtain⟨ns,rfl⟩:=ints_of (ys:=r) fun v aX=>h v (mem_cons_of_mem _ aX)
  exact⟨z::ns,rfl⟩
theorem Ju (H:ao) (ns:List Int):∃l,a9 H l (ns.map V.int)∧fe l≤ns.length:=by
 obtain⟨l,aj,az⟩:=K7 (H:=H) (c:=1) (xs:=ns.map V.int) fun v aX=>by
  obtain⟨z,_,rfl⟩:=mem_map.mp aX
  exact⟨.int z,.ofInt,le_of_eq (wi z)⟩
 rw[length_map]at az
 exact⟨l,aj,by omega⟩
theorem mR {n:Nat}(h:n≤2000):n<sizeLine:=lt_of_le_of_lt h (by decide)
theorem uB:¬(V.str "end"=V.str "put"):=by decide +kernel
theorem Yg:¬(V.str "put"=V.str "end"):=by decide +kernel
structure tT (dG:ao) (n:Nat) (r:Addr) (H:ao) (i:Nat) (xs:List V) (log:List bD):Prop where
 dj:bx dG H
 aC:H r=some (.lst xs)
 cA:hu H log xs
 ok:∀ln∈log,ln.ok n
 le:log.length≤i
structure afi (dG:ao) (n:Nat) (l jT bw d5 bB:Addr) (H:ao) (i:Nat) (xs:List V) (log:List bD) (ds aU ss aT:List Int):Prop where
 g:tT dG n l H i xs log
 hd:H jT=some (.lst (ds.map V.int))
 aQ:H bw=some (.lst (aU.map V.int))
 aJ:H d5=some (.lst (ss.map V.int))
 bF:H bB=some (.lst (aT.map V.int))
 a3:ds.length=n
 rC:aU.length=n
 ns:ss.length=3
 nq:aT.length=n
structure adA (dG:ao) (l jT bw d5 bB:Addr):Prop where
 aj:dG l=none
 az:dG jT=none
 ck:dG bw=none
 dv:dG d5=none
 gF:dG bB=none
 adT:l≠jT
 adS:l≠bw
 adR:l≠d5
 adQ:l≠bB
 adP:jT≠bw
 adO:jT≠d5
 adN:jT≠bB
 adM:bw≠d5
 adL:bw≠bB
 adK:d5≠bB
section
variable {dG:ao}{n:Nat}{l jT bw d5 bB:Addr}{H:ao}{i:Nat}{xs:List V}{log:List bD}{ds aU ss aT:List Int}
end
theorem Ly {K:PySem.W.Frag}{t:Addr}{x y:V}{H:ao}{Q:cG}(bF:H t=some (.lst [x,y])) (aj:Q x H) (az:Q y H) (k:Bool):Ey K (.ref t) (.int (if k then 1 else 0)) H Q:=by
 cases k with
 | false=>exact⟨t,_,0,x,rfl,rfl,aM.of bF,rfl,aj⟩
 | true=>exact⟨t,_,1,y,rfl,rfl,aM.of bF,rfl,az⟩
def Xk (log:List bD) (p:Nat):Prop:=∃d o n,bD.put d p o n∈log
theorem S8 {log:List bD}{p:Nat}(h:Xk log p):ey log p none≠none:=by
 obtain⟨d,o,n,hm⟩:=h
 obtain⟨a,b,e⟩:=List.append_of_mem hm
 rw[e,vI]
 show ey b p (if p=p then some n else _)≠none
 rw[if_pos rfl,IK]
 cases ey b p none <;> exact fun z=>nomatch z
def ends (log:List bD):List Int:=log.filterMap fun ln=>match ln with
 | .fin d=>some d
 | .put .. => none
def i0 (q:Nat):bD→Bool
 | .put _ p _ _=>decide (p=q)
 | .fin _=>false
theorem Ku {log:List bD}{d:Int}:d∈ends log↔j0 log d=true:=by
 rw[Ci]
 unfold ends
 rw[mem_filterMap]
 constructor
 ·rintro⟨ln,aj,az⟩
  cases ln with
  | fin e=>cases az;exact aj
  | put d p o n=>cases az
 ·intro h
  exact⟨_,h,rfl⟩
def endOf:bD→List Int
 | .fin d=>[d]
 | .put .. => []
theorem JN {log:List bD}{i:Nat}{ln:bD}(h:log[i]?=some ln):ends (log.take (i+1))=ends (log.take i)++endOf ln:=by
 unfold ends
 rw[take_add_one,h,List.filterMap_append]
 cases ln <;> rfl
section
variable {X:bI}{K:PySem.W.Frag}
theorem wd (h:X.K=K):ya X (MW K):=by subst h;exact cC
theorem Ko (h:X.K=K):ya X (Ey K):=by subst h;exact fa
end
theorem B2:∀{xs:List V}{us:List Value},us.length=xs.length→(∀(j:Nat) (u:Value),us[j]?=some u→∃x,xs[j]?=some x∧RelV x u)→Vals xs us
 | [],[],_,_=>.nil
 | [],_::_,h,_=>by simp at h
 | _::_,[],h,_=>by simp at h
 | x::xs,u::us,h,f=>by
  obtain⟨y,e,r⟩:=f 0 u rfl
  have cF:x=y:=Option.some.inj e
  subst cF
  refine .cons r (B2 (by simpa using h) fun j o2 bq=>?_)
  obtain⟨z,aL,b4⟩:=f (j+1) o2 (by simpa using bq)
  exact⟨z,by simpa using aL,b4⟩
section
variable {X:bI}
def WQ:List V→ao→cG→Prop:=fun xs H Q=>∃d kvs,xs=[.ref d]∧H d=some (.bR kvs)∧∀l,H l=none→Q (.ref l) (upd H l (.lst (kvs.map fun z=>eu z.1)))
theorem Cj (c5:X.A.handled=none):lr X (.type "list") WQ:=by
 intro pins s σ H xs us Q I bX h
 obtain⟨d,kvs,rfl,hd,q⟩:=h
 obtain⟨u,rfl,eT⟩:=bX.one
 cases eT
 obtain⟨z,F1,vs,rel,dd⟩:=uF I.bM hd
 obtain⟨cu,acN⟩:=dd.dictAt
 have aC:kvs.length=vs.length:=rel.length
 refine PySem.W.kdl_call (PySem.W.kdl_dict F1) c5 acN (by rw[←aC];exact z) fun h' bB AD fO aQ fE de=>?_
 have aX:Vals (kvs.map fun z=>eu z.1) AD.toList:=by
  refine B2 (by rw[length_map,Array.length_toList,de.1,aC]) fun j u bq=>?_
  obtain⟨k,x,e,aQ⟩:=de.2 j u (by rw[←Array.getElem?_toList];exact bq)
  have cD:j<kvs.length:=by rw[aC];exact (List.getElem?_eq_some_iff.mp e).1
  have Yb:=rel.keys
  have aL:(kvs.map (·.1))[j]?=some k:=by rw[Yb,getElem?_map,e];rfl
  rw[getElem?_map,getElem?_eq_getElem cD]at aL
  have bH:kvs[j].1=k:=Option.some.inj aL
  refine⟨eu k,by rw[getElem?_map,getElem?_eq_getElem cD,←bH];rfl,?_⟩
  rcases ox aQ with ⟨i,t,rfl,rfl⟩ | ⟨y,t,rfl,rfl⟩
  ·exact⟨t,rfl⟩
  ·exact⟨t,rfl⟩
 refine⟨.ref s.heap.objs.size,_,I.laid (t':=bB) (o:=.lst (kvs.map fun z=>eu z.1)) aQ (le_refl _) ⟨by rw[length_map];exact z,AD.toList,fO,aX,by rw[Array.toArray_toList];exact fE⟩,rfl,q _ I.fresh⟩
theorem IF:∀(ns:List Int) (j:Nat),j≤ns.length→preSum (fun i=>ns.getD i 0) j=(ns.take j).sum
 | _,0,_=>rfl
 | ns,j+1,h=>by
  have cD:j<ns.length:=by omega
  show preSum (fun i=>ns.getD i 0) j+ns.getD j 0=_
  rw[IF ns j (by omega),take_add_one,getElem?_eq_getElem cD,sum_append,getD_eq_getElem?_getD,getElem?_eq_getElem cD]
  simp
def YM (K:PySem.W.Frag):List V→ao→cG→Prop:=fun xs H Q=>∃(l:Addr) (ns:List Int),xs=[.ref l]∧aM K H l (ns.map V.int)∧Q (.int ns.sum) H
theorem KC (c5:X.A.handled=none):lr X (.builtin "sum") (YM X.K):=by
 intro pins s σ H xs us Q I bX h
 obtain⟨l,ns,rfl,aC,q⟩:=h
 obtain⟨u,rfl,eT⟩:=bX.one
 cases eT
 obtain⟨its,r,p,hz⟩:=I.list aC
 have kW:=r.length
 rw[length_map]at kW
 refine call_sum_walkAnyS ?_
 refine wpAny_pyIter_list p.isList ?_
 have hg:l≠s.heap.objs.size:=by
  obtain⟨o,aD,_⟩:=p.isList
  exact ne_of_lt (lt_size aD)
 refine⟨s.heap.objs.size,_,_,_,its.toArray.size,_,_,fun i=>ns.getD i 0,rfl,(Walks.list (A:=X.A.in1) c5 s.heap.objs.size l hg its.toArray).toS,⟨⟨_,get?_push_size _ rfl,rfl,rfl⟩,p.isList.push _⟩,fun b aa=>?_,fun i v aX=>?_,fun aI t' M=>?_⟩
 ·rw[size_push]
  rcases mem_cons.mp aa with z | z
  ·rw[z];exact Nat.lt_succ_self _
  ·rw[mem_singleton.mp z]
   obtain⟨o,aD,_⟩:=p.isList
   exact Nat.lt_succ_of_lt (lt_size aD)
 ·have iP:its[i]?=some v:=by simpa using aX
  have aP:i<ns.length:=by rw[kW];exact (List.getElem?_eq_some_iff.mp iP).1
  obtain⟨u,e,eT⟩:=r.get (rT (getElem?_eq_getElem aP))
  rw[iP]at e
  cases e
  obtain⟨t,ja⟩:=eT
  refine⟨t,?_⟩
  have acL:ns.getD i 0=ns[i]:=by rw[getD_eq_getElem?_getD,getElem?_eq_getElem aP];rfl
  show _=Value.int (ns.getD i 0) t
  rw[ja,acL]
 ·have e:preSum (fun i=>ns.getD i 0) its.toArray.size=ns.sum:=by
   rw[size_toArray,←kW,IF ns ns.length (le_refl _),take_length]
  rw[e]
  have nv:∀b o,s.heap.get? b=some o→aI.heap.get? b=some o:=fun b o ej=>M.heap b o (fun aa=>absurd (mem_singleton.mp aa) (ne_of_lt (lt_size ej))) (get?_push_of_some _ ej)
  obtain⟨h',g',d',t0,os'⟩:=aI
  obtain rfl:g'=s.gens:=M.gens
  obtain rfl:d'=s.drawn:=M.drawn
  obtain rfl:os'=s.os:=M.os
  exact⟨.int ns.sum,H,I.kept (t':=t0) nv,⟨t',rfl⟩,q⟩
end
theorem Uq:typeLookup (.type "list_reverseiterator") "__len__"=pure none:=by rw[typeLookup_type,builtinLookup_eq_fast];kernel_rfl
theorem Vz:typeLookup (.type "list_reverseiterator") "__length_hint__"=pure (some (.builtin "list_reverseiterator.__length_hint__")):=by rw[typeLookup_type,builtinLookup_eq_fast];kernel_rfl
theorem UZ {prog:Program}{w:World}{A:Around}{E:Value→Shared→Prop}{s:Shared}{r:Addr}{Q:Bool→Shared→Prop}(i9:s.TypeIs (.ref r) "list_reverseiterator") (h:Q false s):wpAny (model prog w) A (Builtin.List.listLengthHint (.ref r)) Q E s:=by
 unfold Builtin.List.listLengthHint
 refine wpAny_bind (wpAny_specialOf i9 Uq ?_)
 show wpAny _ A (specialOf (Value.ref r) (Str.ofString "__length_hint__") >>= _) _ _ _
 refine wpAny_bind (wpAny_specialOf i9 Vz ?_)
 generalize Bb:("list_reverseiterator.__length_hint__":String)=aaq
 wp_delta
 rw[show splitId aaq=some ("list_reverseiterator","__length_hint__") from by subst Bb;decide +kernel]
 subst Bb
 refine wpAny_bind (wpAny_isInstance (T:="list_reverseiterator") (b:=true) i9 (by rw[isSubtype_type];kernel_rfl) ?_)
 refine wpAny_ite_split (fun xV=>absurd xV (by decide)) (fun _=>?_)
 refine wpAny_ite_split (fun _=>?_) (fun xV=>absurd (by decide +kernel) xV)
 refine wpAny_ite_split (fun xV=>absurd xV (by decide +kernel)) (fun _=>?_)
 exact wpAny_pure h
theorem UY {prog:Program}{w:World}{A:Around}{E:Value→Shared→Prop}{s:Shared}{it l:Addr}{items:Array Value}{Q:Value→Shared→Prop}(c5:A.handled=none) (hit:s.heap.IsRevIter it l ((items.size:Int) - 1)) (aC:s.heap.IsList l items) (hg:l≠it) (aR:items.size≤sizeLine)
  (qp:∀h' bB acc c,(∀b o,b≠it→s.heap.get? b=some o→h'.get? b=some o)→h'.get? s.heap.objs.size=some { cls:=.type "list",dict:=none,data:=.seq acc c,slots := #[] }→ItemsOf (fun i v=>items[items.size - 1 - i]?=some v) acc items.size→Q (.ref s.heap.objs.size) { s with heap:=h',toks:=bB }) :
  wpAny (model prog w) A (call (.type "list") [.ref it]) Q E s:=by
 refine callType_codes (Q₁:=fun b1 dw=>b1=.ref s.heap.objs.size∧dw={ s with heap:=s.heap.push { cls:=.type "list",data:=.seq #[] } }) PySem.F.called_list (PySem.F.typeCall_list_1 _) PySem.F.entry_list_init (code_list_new _ ⟨rfl,rfl⟩) fun b1 dw FL=>?_
 obtain⟨rfl,rfl⟩:=FL
 have Nm:it<s.heap.objs.size:=by obtain⟨o,aD,_⟩:=hit;exact lt_size aD
 have aaS:l<s.heap.objs.size:=by obtain⟨o,aD,_⟩:=aC;exact lt_size aD
 have g1:(s.heap.push { cls:=.type "list",data:=.seq #[] }).get? s.heap.objs.size=some { cls:=.type "list",data:=.seq #[] }:=get?_push_size _ rfl
 refine⟨⟨_,g1,rfl⟩,PySem.F.args_list_init_2 _ _,?_⟩
 show wpAny _ _ (do let old ← Builtin.List.listItems (.ref s.heap.objs.size);Builtin.List.listUpdate (.ref s.heap.objs.size) (fun _ => #[]);letGo old.toList.reverse;Builtin.List.listExtendWith (.ref s.heap.objs.size) (.ref it) .none) _ _ _
 refine wpAny_bind ?_
 unfold Builtin.List.listItems
 refine wpAny_bind (wpAny_seqItems g1 rfl (wpAny_pure ?_))
 show wpAny _ _ (updateSeq s.heap.objs.size (fun _ => #[]) >>= fun _=>letGo (#[]:Array Value).toList.reverse >>= fun _=>Builtin.List.listExtendWith (.ref s.heap.objs.size) (.ref it) .none) _ _ _
 refine wpAny_bind (wpAny_updateSeq g1 rfl ?_)
 have g2:=get?_update_self (Obj.mapSeq (fun _=>(#[]:Array Value))) g1 rfl
 have Ad:∀b o,s.heap.get? b=some o→((s.heap.push { cls:=.type "list",data:=.seq #[] }).update s.heap.objs.size (Obj.mapSeq (fun _=>(#[]:Array Value)))).get? b=some o :=
  fun b o e=>(get?_update_other _ _ (ne_of_gt (lt_size e))).trans (get?_push_of_some _ e)
 refine wpAny_bind (wpAny_letGo ?_)
 have acW:=(Walks.listRev (prog:=prog) (w:=w) (A:=A.in1.in1) c5 it l hg items)
 have abb:s.heap.objs.size∉[it,l]:=fun hm=>by
  rcases mem_cons.mp hm with z | z
  ·exact ne_of_gt Nm z
  ·exact ne_of_gt aaS (mem_singleton.mp z)
 have e0:(items.size:Int) - 1 - ((0:Nat):Int)=(items.size:Int) - 1:=by omega
 have key:∀(h:Heap) (c₁ bB:Nat),(∀b o,s.heap.get? b=some o→h.get? b=some o)→h.get? s.heap.objs.size=some { cls:=.type "list",data:=.seq #[] c₁ } →
   codeAny (model prog w) A.in1 (.builtin "list.extend.loop" ⟨[.ref s.heap.objs.size,.ref it,.none],[]⟩) (wants (fun r iR=>r=.none∧Q (.ref s.heap.objs.size) iR) E) { s with heap:=h,toks:=bB }:=by
  intro h c₁ bB aQ g
  refine codeAny_extend_loopS acW.toS aR s.heap.objs.size abb .none items.size 0 _ #[] c₁ rfl (zero_le _) ⟨zero_le _,by rw[e0];exact hit.at fun o e=>aQ it o e,aC.at fun o e=>aQ l o e⟩ g (ItemsOf.nil _) fun aI AD fO hm g' de=>?_
  rw[Moved.eq_with hm]
  refine⟨rfl,qp aI.heap aI.toks AD fO (fun b o aa e=>hm.heap b o (fun Zd=>?_) (aQ b o e)) g' de⟩
  rcases mem_cons.mp Zd with z | z
  ·exact absurd (lt_size e) (by rw[z];exact lt_irrefl _)
  ·exact aa (mem_singleton.mp z)
 have i9:Shared.TypeIs { s with heap:=(s.heap.push { cls:=.type "list",data:=.seq #[] }).update s.heap.objs.size (Obj.mapSeq (fun _=>(#[]:Array Value))) } (.ref it) "list_reverseiterator":=(hit.at fun o e=>Ad it o e).typeIs
 unfold Builtin.List.listExtendWith
 refine wpAny_bind (wpAny_typeOf i9 ?_)
 have aj:Builtin.List.listSameRef (.ref s.heap.objs.size) (.ref it)=false:=by simp[Builtin.List.listSameRef,ne_of_gt Nm]
 rw[if_neg (by rw[aj];decide)]
 refine wpAny_bind (wpAny_pyIter_revIter (hit.at fun o e=>Ad it o e) ?_)
 refine wpAny_bind (wpAny_holding (UZ i9 ?_))
 refine wpAny_ite_split (fun _=>?_) (fun _=>wpAny_pure ⟨plainId_quiet PySem.F.plain_extend_loop _,key _ _ _ Ad g2⟩)
 refine wpAny_bind (wpAny_rule ?_)
 refine wpAny_bind ?_
 show wpAny _ _ (updateSeq s.heap.objs.size (·.push .none) >>= fun _=>updateSeq s.heap.objs.size (·.pop)) _ _ _
 refine wpAny_bind (wpAny_updateSeq g2 rfl ?_)
 have g3:=get?_update_self (Obj.mapSeq (·.push Value.none)) g2 rfl
 refine wpAny_updateSeq (hz:=by seq_fits) g3 rfl ?_
 have jx:=get?_update_self (Obj.mapSeq (·.pop)) g3 rfl
 refine wpAny_pure ⟨plainId_quiet PySem.F.plain_extend_loop _,key _ _ _ (fun b o e=>?_) jx⟩
 exact (get?_update_other _ _ (ne_of_gt (lt_size e))).trans ((get?_update_other _ _ (ne_of_gt (lt_size e))).trans (Ad b o e))
section
variable {X:bI}
def US (K:PySem.W.Frag) (bY:TE):TE:=fun σ H Q=>bY σ H fun x H1=>∃a xs,x=.ref a∧aM K H1 a xs∧∀l,H1 l=none→Q (.ref l) (upd H1 l (.lst xs.reverse))
theorem TA {e:Expr}{bY:TE}{fi eK kh mq:Pos}(c5:X.A.handled=none) (cO:lX X "list") (hm:X.mg "list"=none) (aaY:lX X "reversed") (xP:X.mg "reversed"=none) (he:b8 X e bY)
  (aJ:starEach [.Call (.Name "reversed" eK) [e] [] kh] X.env=[(false,eval (.Call (.Name "reversed" eK) [e] [] kh) X.env)]:=by rfl) (jI:starEach [e] X.env=[(false,eval e X.env)]:=by rfl) :
  b8 X (.Call (.Name "list" fi) [.Call (.Name "reversed" eK) [e] [] kh] [] mq) (US X.K bY):=by
 intro pins s σ H Q I h
 refine Call_ (qR I cO hm boot_list (PyProof.Rows.callWith_type1 ?_ aJ rfl))
 rw[aJ]
 show wpAny _ _ (spliced [(false,eval (.Call (.Name "reversed" eK) [e] [] kh) X.env)]) _ _ s
 refine Calls.spliced_cons ?_
 refine Call_ (qR I aaY xP boot_reversed (PyProof.Rows.callWith_type1 ?_ jI rfl))
 rw[jI]
 show wpAny _ _ (spliced [(false,eval e X.env)]) _ _ s
 refine Calls.spliced_cons (bT (he pins s σ H _ I h) fun u s1 ⟨x,H1,a_,bE,a,xs,ex,bh,q⟩=>?_)
 subst ex
 cases bE
 obtain⟨its,bX,pl,hz⟩:=a_.list bh
 have kW:=bX.length
 refine Calls.spliced_nil (call_reversed_list pl.isList ?_)
 refine Calls.spliced_nil ?_
 have hg:a≠s1.heap.objs.size:=by
  obtain⟨o,aD,_⟩:=pl.isList
  exact ne_of_lt (lt_size aD)
 refine UY (items:=its.toArray) c5 ⟨_,get?_push_size _ rfl,rfl,rfl⟩ (pl.isList.push _) hg (by rw[size_toArray];omega) fun h' bB acc c aQ fE de=>?_
 have FT:∀b o,s1.heap.get? b=some o→h'.get? b=some o:=fun b o ej=>aQ b o (ne_of_lt (lt_size ej)) (get?_push_of_some _ ej)
 have aX:Vals xs.reverse acc.toList:=by
  refine B2 (by rw[length_reverse,Array.length_toList,de.1,size_toArray,kW]) fun j u bq=>?_
  have aG:=de.2 j u (by rw[←Array.getElem?_toList];exact bq)
  have cD:j<xs.length:=by
   have:=(List.getElem?_eq_some_iff.mp bq).1
   rw[Array.length_toList,de.1,size_toArray]at this
   omega
  rw[size_toArray]at aG
  have aL:its[its.length - 1 - j]?=some u:=by simpa using aG
  have u0:its.length - 1 - j<xs.length:=by omega
  obtain⟨gC,bH,gZ⟩:=bX.get (getElem?_eq_getElem u0)
  rw[aL]at bH
  cases bH
  refine⟨_,?_,gZ⟩
  rw[getElem?_reverse cD]
  have bS:xs.length - 1 - j=its.length - 1 - j:=by omega
  rw[bS]
  exact getElem?_eq_getElem u0
 rw[size_push]at fE
 have ek:(s1.heap.push (revObj a ((its.toArray.size:Int) - 1))).objs.size=s1.heap.objs.size+1:=size_push ..
 have oT:H1 (s1.heap.objs.size+1)=none:=a_.bM.fresh (le_succ _)
 show hK X pins σ Q (.ref (s1.heap.push (revObj a ((its.toArray.size:Int) - 1))).objs.size) _
 rw[ek]
 refine⟨.ref (s1.heap.objs.size+1),upd H1 (s1.heap.objs.size+1) (.lst xs.reverse),?_,rfl,q _ oT⟩
 refine Inv.laid (s:=s1) (t':=bB) (a:=s1.heap.objs.size+1) (o:=.lst xs.reverse) a_ FT (le_succ _) ⟨by rw[length_reverse];exact hz,acc.toList,c,aX,by rw[Array.toArray_toList];exact fE⟩
end
def rv (K:PySem.W.Frag) (a:Addr) (n:Nat):kr :=
 ⟨fun i H=>i<n∧∃xs x,aM K H a xs∧xs[n - 1 - i]?=some x,fun i H x af=>af=H∧∀xs,aM K H a xs→xs[n - 1 - i]?=some x,fun i _=>i=n⟩
theorem UQ {P:Program}{w:World}{K:PySem.W.Frag}{eS:Expr}(a it:Addr) (n:Nat):Turn P w K eS (rv K a n) [it] it (fun i h=>h.IsRevIter it a ((n:Int) - 1 - (i:Int))) where
 mem:=by simp
 obj:=fun i h st b aa=>by
  have e:b=it:=by simpa using aa
  subst e
  obtain⟨o,e,c,d⟩:=st
  exact⟨o,e,fun v z=>by rw[d]at z;cases z⟩
 keep:=fun i h h' st k=>st.at fun o e=>k it (by simp) o e
 item:=by
  intro X h1 hw i_ ai i pins s σ H E I hf st cO
  subst h1 hw i_
  obtain⟨aR,xs,x,bk,bh⟩:=cO
  obtain⟨its,bX,p,hz⟩:=I.list bk
  obtain⟨u,bq,eT⟩:=bX.get bh
  obtain⟨f0,f1,f2,gc,f4,hk⟩:=hf it (by simp)
  have iG:(n:Int) - 1 - (i:Int)=((n - 1 - i:Nat):Int):=by omega
  have ZI:s.heap.IsRevIter it a ((n - 1 - i:Nat):Int):=by rw[←iG];exact st
  refine wpAny_pyNext_rev_item ZI p.isList (x:=u) (by simpa using bq) fun h' hE jM=>?_
  have a_:Inv X pins σ H { s with heap:=h' }:=I.turned (t':=s.toks) (fun b o aa e=>(jM.2 b aa).trans e) f0 f1 gc f4 hk
  have kY:((n - 1 - i:Nat):Int) - 1=(n:Int) - 1 - ((i+1:Nat):Int):=by omega
  rw[kY]at hE
  obtain⟨o,e,c,d⟩:=id hE
  exact⟨u,rfl,El (s:={ s with heap:=h' }) e c d (by decide) ⟨x,H,a_,eT,⟨rfl,fun ys b6=>by rw[I.CJ b6 bk];exact bh⟩,hE,fun b aa=>(hf b aa).1⟩⟩
 done:=by
  intro X h1 hw i_ ai i pins s σ H E I hf st cO
  subst h1 hw i_
  have cO:i=n:=cO
  subst cO
  obtain⟨f0,f1,f2,gc,f4,hk⟩:=hf it (by simp)
  have iG:(i:Int) - 1 - (i:Int) = -1:=by omega
  rw[iG]at st
  exact wpAny_pyNext_rev_end (I.ok.hd ai) st fun h' ej=>⟨rfl,I.turned (t':=s.toks) (fun b o aa e=>ej b o aa e) f0 f1 gc f4 hk⟩
 self:=fun _ _ _ _ _ st h=>wpAny_pyIter_revIter st h
section
variable {X:bI}{eS:Expr}
def Y9 (K:PySem.W.Frag) (bY:TE):TI:=fun σ H R=>bY σ H fun x H1=>∃a xs,x=.ref a∧aM K H1 a xs∧R (rv K a xs.length) H1
theorem LO {l:Expr}{kg:TE}{p pos:Pos}(cO:lX X "reversed") (hm:X.mg "reversed"=none) (aC:b8 X l kg) (aJ:starEach [l] X.env=[(false,eval l X.env)]:=by rfl):pn X eS (.Call (.Name "reversed" p) [l] [] pos) (Y9 X.K kg):=by
 intro pins s σ H R I h
 refine Call_ (qR I cO hm boot_reversed (PyProof.Rows.callWith_type1 ?_ aJ rfl))
 rw[aJ]
 show wpAny _ _ (spliced [(false,eval l X.env)]) _ _ s
 refine Calls.spliced_cons (bT (aC pins s σ H _ I h) fun u s1 ⟨x,H1,a_,bE,a,xs,ex,bh,q⟩=>?_)
 subst ex
 cases bE
 obtain⟨its,bX,pl,hz⟩:=a_.list bh
 have kW:=bX.length
 refine Calls.spliced_nil (call_reversed_list pl.isList ?_)
 have st:(s1.heap.push (revObj a ((its.toArray.size:Int) - 1))).IsRevIter s1.heap.objs.size a ((xs.length:Int) - 1 - ((0:Nat):Int)):=by
  have e:((its.toArray.size:Nat):Int) - 1=(xs.length:Int) - 1 - ((0:Nat):Int):=by rw[size_toArray];omega
  rw[←e]
  exact⟨_,get?_push_size _ rfl,rfl,rfl⟩
 refine wpAny_pyIter_revIter (s:={ s1 with heap:=s1.heap.push (revObj a ((its.toArray.size:Int) - 1)) }) st ?_
 refine⟨s1.heap.objs.size,[s1.heap.objs.size],_,_,H1,rfl,a_.kept (t':=s1.toks) fun b o e=>get?_push_of_some _ e,UQ a _ xs.length,st,fun b aa=>?_,q⟩
 have e:b=s1.heap.objs.size:=by simpa using aa
 subst e
 exact a_.uR (le_refl _) (a_.bM.fresh (le_refl _))
end
theorem Wt {K:PySem.W.Frag}{a:Addr}{xs:List V}{g:iU}{d4:fX}{D:Ends}{σ:St}{H:ao}(Pv:Nat→St→ao→Prop) (h0:Pv 0 σ H) (aC:∀i σ H,i≤xs.length→Pv i σ H→aM K H a xs)
  (aJ:∀i x σ H,i<xs.length→xs[xs.length - 1 - i]?=some x→Pv i σ H→g x σ H fun hy av=>d4 { D with dk:=Pv (i+1),fG:=Pv (i+1),iu:=D.dk } hy av) (hd:∀σ H,Pv xs.length σ H→D.dk σ H) :
  ∃W:Nat→Nat→St→ao→Prop,(∃m,W 0 m σ H)∧∀i m σ H,W i m σ H →
   ((rv K a xs.length).stop i H∧D.dk σ H)∨((rv K a xs.length).go i H∧∃N:St→ao→Prop,(∀bz af,N bz af→∃gb,gb<m∧W (i+1) gb bz af)∧∀x af,(rv K a xs.length).oH i H x af→g x σ af fun hy av=>d4 { D with dk:=N,fG:=N,iu:=D.dk } hy av):=by
 refine⟨fun i m σ H=>m=xs.length - i∧i≤xs.length∧Pv i σ H,⟨xs.length,by simp,zero_le _,h0⟩,?_⟩
 rintro i m σ H ⟨rfl,aP,p⟩
 have q:=aC i σ H aP p
 by_cases c2:i<xs.length
 ·have cD:xs.length - 1 - i<xs.length:=by omega
  refine .inr ⟨⟨c2,xs,xs[xs.length - 1 - i],q,getElem?_eq_getElem cD⟩,Pv (i+1),fun bz af eH=>⟨xs.length - (i+1),by omega,rfl,c2,eH⟩,fun x af y=>?_⟩
  obtain⟨e,y⟩:=y
  subst e
  exact aJ i x σ _ c2 (y xs q) p
 ·have e:i=xs.length:=by omega
  subst e
  exact .inl ⟨rfl,hd σ H p⟩
theorem TU {K:PySem.W.Frag}{a:Addr}{xs:List V}{log:List bD}{tt:TT}{bY:TE}{bz:St}{Q:cG}{H:ao}{acc:Addr}{w:V}(bo:H a=some (.lst xs)) (eX:hu H log xs) (h0:H acc=none) (hz:log.length≤1000)
  (bF:∀ln x aS (k:Bool→ao→Prop),kF aS ln x→k (match ln with | .fin _=>true | .put .. => false) aS→tt (some x::bz) aS k)
  (he:∀d x aS (k:cG),kF aS (.fin d) x→(∀p,aS p=none→k (.ref p) (upd aS p (.tup [.int d,w])))→bY (some x::bz) aS k)
  (q:∀(ys:List V) (af:ao),bx H af→af acc=some (.lst ys)→fc (fun z x=>uz af x (Sum.inl z,w)) (ends log) ys→ys.length≤log.length→Q (.ref acc) af):z0 (oZ K a) tt bY bz Q H acc:=by
 have g4:=eX.1
 refine⟨xs.length,fun i ys av=>i≤xs.length∧bx H av∧av acc=some (.lst ys)∧ys.length≤i∧fc (fun z x=>uz av x (Sum.inl z,w)) (ends (log.take i)) ys,⟨zero_le _,bV h0 _,aV,le_refl _,.nil⟩,?_⟩
 rintro i ys av ⟨aP,dj,de,gR,aF⟩
 have kP:=dj _ _ bo
 by_cases c2:i<xs.length
 ·have bh:xs[i]?=some xs[i]:=getElem?_eq_getElem c2
  obtain⟨ln,fS,gX⟩:=eX.get bh
  refine .inr ⟨⟨xs,xs[i],aM.of kP,bh⟩,c2,?_⟩
  rintro v aS ⟨rfl,aX⟩
  have ev:v=xs[i]:=by
   have:=aX _ (aM.of kP)
   rw[bh]at this
   exact (Option.some.inj this).symm
  subst ev
  have Nr:=gX.mono dj.fy
  refine bF ln _ _ _ Nr ?_
  cases ln with
  | put d p o n =>
   refine dQ ⟨c2,dj,de,by omega,?_⟩
   rw[JN fS]
   show fc _ (ends (log.take i)++[]) ys
   rw[append_nil]
   exact aF
  | fin d =>
   refine eB (he d _ _ _ Nr fun p j_=>?_)
   have xr:p≠acc:=(ct de j_).symm
   have Ej:(upd aS p (.tup [.int d,w])) acc=some (.lst ys):=by rw[aB xr.symm];exact de
   refine⟨Ej,lt_of_le_of_lt (by omega:ys.length≤1000) (by decide),c2,(dj.trans (bV j_ _)).hr h0,aV,by rw[length_append,length_singleton];omega,?_⟩
   rw[JN fS]
   refine fc.snoc (aF.mono fun z x bh=>?_) ⟨p,rfl,by rw[aB xr,aV];rfl⟩
   obtain⟨b,aG,aL⟩:=bh
   exact⟨b,aG,by rw[aB (dt aL de (fun z=>nomatch z)),aB (ct aL j_)];exact aL⟩
 ·have e:i=xs.length:=by omega
  subst e
  have aL:log.take xs.length=log:=take_of_length_le (by omega)
  rw[aL]at aF
  exact .inl ⟨⟨xs,aM.of kP,le_refl _⟩,q ys av dj de aF (by omega)⟩
def n3 (log:List bD) (i:Nat) (ps ns:List Int):Prop:=ns.length=ps.length∧∀(q:Nat) (v:Int),ps[q]?=some v→ns[q]?=some ((ey (log.take i) q none).getD v)
theorem n3.start (log:List bD) (ps:List Int):n3 log 0 ps ps:=⟨rfl,fun q v h=>h⟩
theorem Ik {log:List bD}{i:Nat}{ln:bD}(h:log[i]?=some ln) (q:Nat):ey (log.take (i+1)) q none=ey [ln] q (ey (log.take i) q none):=by
 rw[take_add_one,h,vI]
 rfl
theorem n3.put {log:List bD}{i:Nat}{ps ns:List Int}{d o n:Int}{p:Nat}(F:n3 log i ps ns) (h:log[i]?=some (.put d p o n)):n3 log (i+1) ps (ns.set p n):=by
 refine⟨by rw[length_set];exact F.1,fun q v aX=>?_⟩
 have e:=F.2 q v aX
 rw[Ik h]
 show _=some ((if p=q then some n else ey (log.take i) q none).getD v)
 by_cases z:p=q
 ·subst z
  rw[if_pos rfl,getElem?_set_self (List.getElem?_eq_some_iff.mp e).1]
  rfl
 ·rw[if_neg z,getElem?_set_ne z]
  exact e
theorem n3.fin {log:List bD}{i:Nat}{ps ns:List Int}{d:Int}(F:n3 log i ps ns) (h:log[i]?=some (.fin d)):n3 log (i+1) ps ns:=by
 refine⟨F.1,fun q v aX=>?_⟩
 rw[Ik h]
 exact F.2 q v aX
def lI (log:List bD) (i:Nat) (ps ns:List Int):Prop:=ns.length=ps.length∧∀(q:Nat) (v:Int),ps[q]?=some v→ns[q]?=some ((nE log (log.drop (log.length - i)) q).getD v)
theorem lI.start (log:List bD) (ps:List Int):lI log 0 ps ps:=⟨rfl,fun q v h=>by
 rw[sub_zero,drop_length]
 exact h⟩
theorem Cw {α:Type}{l:List α}{i:Nat}{a:α}(aP:i<l.length) (h:l[l.length - 1 - i]?=some a):l.drop (l.length - (i+1))=a::l.drop (l.length - i):=by
 have aG:l.length - (i+1)=l.length - 1 - i:=by omega
 have aL:l.length - i=l.length - 1 - i+1:=by omega
 rw[aG,aL]
 obtain⟨aQ,e⟩:=List.getElem?_eq_some_iff.mp h
 rw[←e]
 exact List.drop_eq_getElem_cons aQ
theorem lI.ED {log:List bD}{i:Nat}{ps ns:List Int}{d o n:Int}{p:Nat}(F:lI log i ps ns) (aP:i<log.length) (h:log[log.length - 1 - i]?=some (.put d p o n)) (hd:j0 log d=false):lI log (i+1) ps (ns.set p o):=by
 refine⟨by rw[length_set];exact F.1,fun q v aX=>?_⟩
 have e:=F.2 q v aX
 rw[Cw aP h]
 show _=some ((if p=q∧j0 log d=false then some o else nE log (log.drop (log.length - i)) q).getD v)
 by_cases z:p=q
 ·subst z
  rw[if_pos ⟨rfl,hd⟩,getElem?_set_self (List.getElem?_eq_some_iff.mp e).1]
  rfl
 ·rw[if_neg fun w=>z w.1,getElem?_set_ne z]
  exact e
theorem lI.kept {log:List bD}{i:Nat}{ps ns:List Int}{d o n:Int}{p:Nat}(F:lI log i ps ns) (aP:i<log.length) (h:log[log.length - 1 - i]?=some (.put d p o n)) (hd:j0 log d=true):lI log (i+1) ps ns:=by
 refine⟨F.1,fun q v aX=>?_⟩
 rw[Cw aP h]
 show _=some ((if p=q∧j0 log d=false then some o else nE log (log.drop (log.length - i)) q).getD v)
 rw[if_neg fun w=>by rw[hd]at w;cases w.2]
 exact F.2 q v aX
theorem lI.fin {log:List bD}{i:Nat}{ps ns:List Int}{d:Int}(F:lI log i ps ns) (aP:i<log.length) (h:log[log.length - 1 - i]?=some (.fin d)):lI log (i+1) ps ns:=by
 refine⟨F.1,fun q v aX=>?_⟩
 rw[Cw aP h]
 exact F.2 q v aX
theorem VL {log:List bD}{ps ms ns:List Int}(F:n3 log log.length ps ms) (B:lI log log.length ms ns):ns.length=ps.length∧∀(q:Nat) (v:Int),ps[q]?=some v→ns[q]?=some (oB log q v):=by
 refine⟨B.1.trans F.1,fun q v aX=>?_⟩
 have e:=B.2 q _ (F.2 q v aX)
 rw[sub_self,take_length]at e
 exact e
structure w8 (X:bI) (m:Nat) (fr:List Nat) (cQ:List Str) (scope:Scope) (cl:List (Str × Addr)):Prop where
 nL:closureFor scope X.env=pure cl
 cell:∀y∈scope.names,y.2≠.cell
 kind:scope.kind=.function
 names:∀y∈scope.names,y.2=.local→scope.names.lookup y.1=some .local
 sub:∀y c,cl.lookup y=some c→X.env.cells.lookup y=some c
 has:∀y,((relabel scope X.env).names.lookup y=some .cell∨(relabel scope X.env).names.lookup y=some .free)→∃c,cl.lookup y=some c
 len:cQ.length=m+fr.length
 a3:cQ.Nodup
 p5:∀(i j:Nat) (y:Str),cQ[i+m]?=some y→fr[i]?=some j→X.N[j]?=some y∧X.env.scope.names.lookup y=some .cell∧(relabel scope X.env).names.lookup y=some .cell
theorem w8.YT {X:bI}{x1 x2 fv:Str}{j:Nat}{c:Addr}{scope:Scope}(sl:closureFor scope X.env=pure [(fv,c)]) (jh:∀y∈scope.names,y.2≠.cell) (iz:∀y∈scope.names,y.2=.free→y.1=fv) (pQ:scope.kind=.function)
  (sf:∀y∈scope.names,y.2=.local→scope.names.lookup y.1=some .local) (ai:X.env.cells.lookup fv=some c) (aaQ:[x1,x2,fv].Nodup) (fV:X.N[j]?=some fv) (aQ:X.env.scope.names.lookup fv=some .cell)
  (aE:(relabel scope X.env).names.lookup fv=some .cell):w8 X 2 [j] [x1,x2,fv] scope [(fv,c)] where
 nL:=sl
 cell:=jh
 kind:=pQ
 names:=sf
 sub:=fun y d e=>by
  rw[lookup_cons]at e
  cases z:y == fv with
  | true =>
   rw[z]at e
   have cF:some c=some d:=e
   cases cF
   rw[beq_iff_eq.mp z]
   exact ai
  | false=>rw[z]at e;simp at e
 has:=fun y b6=>by
  have:y=fv:=by
   rcases b6 with h | h
   ·exact t5 jh iz h (.inl rfl)
   ·exact t5 jh iz h (.inr rfl)
  subst this
  exact⟨c,by rw[lookup_cons,beq_self_eq_true]⟩
 len:=rfl
 a3:=aaQ
 p5:=fun i k y aj az=>by
  cases i with
  | zero =>
   have aG:fv=y:=Option.some.inj aj
   have aL:j=k:=Option.some.inj az
   subst aG aL
   exact⟨fV,aQ,aE⟩
  | succ i=>simp at az
theorem LP {X:bI}{cQ:List Str}{scope:Scope}{cl:List (Str × Addr)}{C:Addr}{s:Shared}{H:ao}{bG:List Addr}{x:Str}{hT:Pos}{i:Nat}(fV:cQ.Nodup) (aP:cQ[i]?=some x) (bh:scope.names.lookup x=some .local):pq (eE X cQ scope cl C s H bG) (.Name x hT) (wI i):=by
 have rF:(relabel scope X.env).names.lookup x=some .local:=lookup_relabel_local bh
 exact fQ (X:=eE X cQ scope cl C s H bG) (i:=i) fV aP (.inl rF) (.inr rF)
theorem V3 {X:bI}{K:PySem.W.Frag}{aA:List Expr}{k:Nat}{t:rt}{n:Nat}{pos:Pos}(i_:X.K=K) (ai:X.calm=true) (h:x8 X aA t)
  (aR:(assignEach aA X.env).length=n:=by rfl) (i3:(assignEach aA X.env).findIdx? (·.1)=none:=by rfl):pq X (.Tuple aA k pos) (EJ K n t):=by
 subst i_
 exact r_ ai h aR i3
def En (J:kr) (m:Nat) (g:iU) (tt:TT) (bY:TE) (bz:St) (Q:cG) (H:ao) (acc:Addr):Prop :=
 ∃(n:Nat) (W:Nat→List V→ao→Prop),W 0 [] (upd H acc (.lst []))∧∀i ys av,W i ys av→(J.stop i av∧Q (.ref acc) av) ∨
  (J.go i av∧i<n∧∀v aS aT,J.oH i av v aS→aT.length=m→g v (aT++bz) aS fun hy cB=>∃hP,hP.length=m∧hy=hP++bz∧tt (hP++bz) cB fun b dr=>if b=true then bY (hP++bz) dr fun y dO=>dO acc=some (.lst ys)∧ys.length<sizeLine∧W (i+1) (ys++[y]) (upd dO acc (.lst (ys++[y]))) else W (i+1) ys dr)
theorem TR {X:bI}{pins:List (Addr × Obj)}{σ:St}{H:ao}{s:Shared}{eS:Expr}{g:iU}{m:Nat}{elt iter c:Expr}{scope:Scope}{pos:Pos}{cl:List (Str × Addr)}{cQ:List Str}{fr:List Nat}{bY:TE}{tt:TT}{J:kr}{bG:List Addr}{it:Addr}
  {eo:Nat→Heap→Prop} {E:Value→Shared→Prop} {RR:Value→Addr→Result→Shared→Prop} {Q:cG} (B:w8 X m fr cQ scope cl) (ai:X.calm=true) (I:Inv X pins σ H s) (T:Turn X.prog X.w X.K eS J bG it eo)
  (st:eo 0 s.heap) (hf:∀b∈bG,l4 X pins H b) (cO:∀C aI af,pq (eE X cQ scope cl C aI af bG) eS g) (bk:∀C aI af,h5 (eE X cQ scope cl C aI af bG) c tt) (he:∀C aI af,b8 (eE X cQ scope cl C aI af bG) elt bY) (h:∀acc,H acc=none→En J m g tt bY (pick σ fr) Q H acc)
  (xW:∀acc C af aI m,Inv X pins σ af aI→Q (.ref acc) af→aI.heap.Ns C m→af C=none→C≠X.env.locals→(C∈X.ex∨X.fT.heap.objs.size≤C)→(∀y c,X.env.cells.lookup y=some c→c≠C)→(∀p∈X.bL++pins,p.1≠C)→RR (.ref acc) C (.ok .next) aI) :
  wpAny (model X.prog X.w) X.A (newList []) (fun acc hi=>wpAny (model X.prog X.w) X.A (newFunctionEnv scope X.env.globals cl [] X.env.qual none .none (some X.env)) (fun q3 ng =>
   codeAny (model X.prog X.w) X.A (.compStart (.ListComp elt [⟨eS,iter,[c],0⟩] scope pos) 0 (.ref it) acc { q3 with scope:=relabel scope X.env }) (RR acc q3.locals) ng) E hi) E s:=by
 refine wpAny_newObj_type (wpAny_newFunctionEnv B.cell (by intro y b6;simp at b6) (fun fU nK nJ=>?_) B.kind)
 have cE:Inv X pins σ (upd H s.heap.objs.size (.lst [])) { s with heap:=s.heap.push { cls:=.type "list",data:=.seq ([]:List Value).toArray } }:=I.Aw (its:=[]) (t':=s.toks) .nil (zero_le _)
 obtain⟨n,W,qi,turn⟩:=h s.heap.objs.size I.fresh
 dsimp only at nK nJ ⊢
 generalize rb:({ s with heap:=s.heap.push { cls:=.type "list",data:=.seq ([]:List Value).toArray } }:Shared)=s3 at *
 have rg:s.heap.push { cls:=.type "list",data:=.seq ([]:List Value).toArray }=s3.heap:=by rw[←rb]
 have w1:s.heap.push { cls:=.type "list",dict:=none,data:=.seq ([]:List Value).toArray }=s3.heap:=rg
 rw[w1]at nK nJ ⊢
 have jH:∀b o,s3.heap.get? b=some o→b≠s3.heap.objs.size:=fun b o e=>ne_of_lt (lt_size e)
 have jD:∀b o,s3.heap.get? b=some o→fU.get? b=some o:=fun b o e=>nJ.extBut b o (jH b o e) (get?_push_of_some _ e)
 have qU:∀b o,s.heap.get? b=some o→s3.heap.get? b=some o:=fun b o e=>by rw[←rg];exact get?_push_of_some _ e
 have kH:eo 0 fU:=T.keep 0 _ _ st fun b _ o e=>jD b o (qU b o e)
 have wO:∀b∈bG,∃o,s3.heap.get? b=some o:=fun b aa=>by
  obtain⟨o,e,_⟩:=T.obj 0 _ st b aa
  exact⟨o,qU b o e⟩
 have nH:∀b,b≠X.env.locals→b∉X.bQ→b∉gY X.stack:=fun b aj az aa=>by
  rcases mem_cons.mp (cE.uv b aa) with z | z
  ·exact aj z
  ·exact az z
 have ok:(eE X cQ scope cl s3.heap.objs.size s3 (upd H s.heap.objs.size (.lst [])) bG).Ok:=by
  refine⟨I.ok.mod,?_,I.ok.glob,I.ok.blt,le_refl _,fun y z c aj az=>I.ok.inj y z c (B.sub y c aj) (B.sub z c az),fun y b6=>B.has y b6,fun y c e _=>absurd (show false=true from e) Bool.false_ne_true,I.ok.hd,I.ok.frames,.inl rfl,fun b aa=>?_,cE.bs,
   le_trans I.ok.lG cE.ef,fun b o e aa=>?_,fun b aa=>nH b (hf b aa).2.1 (hf b aa).2.2.1,cE.stack,cE.v9⟩
  ·exact B.kind
  ·obtain⟨o,e⟩:=wO b aa
   exact⟨jH b o e,fun y c e=>(hf b aa).2.2.2.2.1 y c (B.sub y c e)⟩
  ·rcases (hf b aa).2.2.2.1 with z | z
   ·exact I.ok.nI b o e z
   ·exact absurd (lt_of_lt_of_le (lt_size (I.ok.bs b o e).1) z) (lt_irrefl _)
 have cellK:∀c v,s3.heap.IsCell c v→fU.IsCell c v:=fun c v ⟨o,aD,hd⟩=>⟨o,jD c o aD,hd⟩
 have kE:∀{af:ao},(∀b∈bG,af b=none)→∀b∈bG,l4 (eE X cQ scope cl s3.heap.objs.size s3 (upd H s.heap.objs.size (.lst [])) bG) pins af b:=fun aR b aa =>
  ⟨aR b aa,(ok.qc b aa).1,nH b (hf b aa).2.1 (hf b aa).2.2.1,.inl aa,fun y c e=>(hf b aa).2.2.2.2.1 y c (B.sub y c e),(hf b aa).2.2.2.2.2⟩
 have jX:Inv (eE X cQ scope cl s3.heap.objs.size s3 (upd H s.heap.objs.size (.lst [])) bG) pins (List.replicate m none++pick σ fr) (upd H s.heap.objs.size (.lst [])) { s3 with heap:=fU }:=by
  refine⟨ok,rfl,cE.bare,hC.kept jD,⟨_,nK,fun i y v aj az ck=>?_⟩,fun y c e=>?_,cE.fresh,fun y c e=>cE.jE y c (B.sub y c e),fun p aF=>?_,cE.bM.kept jD,?_⟩
  ·by_cases FY:i<m
   ·rw[getElem?_append_left (by rw[length_replicate];exact FY),List.getElem?_replicate,if_pos FY]at az
    cases az
   ·rw[getElem?_append_right (by rw[length_replicate];omega),length_replicate]at az
    unfold pick at az
    rw[getElem?_map]at az
    cases kY:fr[i - m]? with
    | none=>rw[kY]at az;cases az
    | some j =>
     rw[kY]at az
     have lE:(σ[j]?).getD none=some v:=Option.some.inj az
     have yH:σ[j]?=some (some v):=by
      cases q:σ[j]? with
      | none=>rw[q]at lE;cases lE
      | some o =>
       rw[q]at lE
       have:o=some v:=lE
       rw[this]
     obtain⟨eY,gh,k6⟩:=B.p5 (i - m) j y (by rw[Nat.sub_add_cancel (Nat.le_of_not_lt FY)];exact aj) kY
     obtain⟨fo,_,xQ⟩:=cE.loc
     obtain⟨u,eT,lk⟩:=xQ j y v eY yH (.inr (.inl gh))
     refine⟨u,eT,.inr ⟨.inl k6,?_⟩⟩
     rcases lk with ⟨k,_⟩ | ⟨_,c,e,z⟩
     ·have g5:X.env.scope.names.lookup y=some .local:=k
      rw[gh]at g5
      cases g5
     ·obtain⟨fO,cF⟩:=B.has y (.inl k6)
      have:=B.sub y fO cF
      rw[e]at this
      cases this
      exact⟨_,cF,cellK _ _ z⟩
  ·obtain⟨v,z⟩:=cE.cell y c (B.sub y c e)
   exact⟨v,cellK c v z⟩
  ·obtain⟨e,rD,ne,kU,d⟩:=cE.pin p aF
   exact⟨jD _ _ e,rD,jH _ _ e,nH _ ne kU,d⟩
  ·show (List.replicate m none++pick σ fr).length=cQ.length
   rw[B.len,length_append,length_replicate]
   unfold pick
   rw[length_map]
 have fin:∀{af:ao} {bz:St} {aI:Shared},Inv (eE X cQ scope cl s3.heap.objs.size s3 (upd H s.heap.objs.size (.lst [])) bG) pins bz af aI→Q (.ref s.heap.objs.size) af→RR (.ref s.heap.objs.size) s3.heap.objs.size (.ok .next) aI:=fun {af bz aI} J q=>by
  obtain⟨m,aR,_⟩:=J.loc
  refine xW _ _ af aI m (cE.z7 (ch:=bG) J.os J.base J.bM J.bare fun b aa=>⟨(hf b aa).2.2.2.1,(hf b aa).2.1,(hf b aa).2.2.2.2.1,(hf b aa).2.2.2.2.2⟩) q aR J.free (ne_of_gt cE.lt) (.inr cE.ef) (fun y c e=>?_) fun p aF=>?_
  ·obtain⟨v,o,aD,_⟩:=cE.cell y c e
   exact jH c o aD
  ·exact jH _ _ (cE.pin p aF).1
 have loop:∀hi:Shared,hi={ s3 with heap:=fU }→codeAny (model X.prog X.w) X.A (.compLoop (.ListComp elt [⟨eS,iter,[c],0⟩] scope pos) 0 (.ref it) (.ref s.heap.objs.size) (compEnvC scope cl s3.heap.objs.size X.env)) (RR (.ref s.heap.objs.size) s3.heap.objs.size) hi:=by
  rintro hi rfl
  refine Iq (fun k aI=>∃i ys aT af,Inv (eE X cQ scope cl s3.heap.objs.size s3 (upd H s.heap.objs.size (.lst [])) bG) pins (aT++pick σ fr) af aI∧aT.length=m∧eo i aI.heap∧(∀b∈bG,af b=none)∧W i ys af∧k=n - i) ?_ n ⟨0,[],List.replicate m none,_,jX,length_replicate,kH,fun b aa=>?_,qi,rfl⟩
  ·rintro k aI ⟨i,ys,aT,af,fk,Fp,hE,ro,ec,rfl⟩
   rcases turn i ys af ec with ⟨stop,q⟩ | ⟨go,nW,step⟩
   ·refine bT (T.done (eE X cQ scope cl s3.heap.objs.size s3 (upd H s.heap.objs.size (.lst [])) bG) rfl rfl rfl ai i pins aI _ af (fun _ _=>False) fk (kE ro) hE stop) fun r s1 ⟨aE,a_⟩=>?_
    subst aE
    exact fin a_ q
   ·refine bT (T.item (eE X cQ scope cl s3.heap.objs.size s3 (upd H s.heap.objs.size (.lst [])) bG) rfl rfl rfl ai i pins aI _ af (fun _ _=>False) fk (kE ro) hE go) fun r s1 ⟨u,aE,dv⟩=>?_
    subst aE
    refine bT dv fun _ s5 ⟨v,dr,qA,mh,tg,kG,s8⟩=>?_
    have te:=qA.pinned (kE s8) (T.obj _ _ kG)
    refine bT (cO _ _ _ _ s5 _ dr v u _ te mh (step v _ aT tg Fp)) fun _ nh ⟨Br,dO,tR,hP,Y5,aG,yv⟩=>?_
    subst aG
    have again:∀{gT:ao} {zs:List V} {iE:Shared},Inv (eE X cQ scope cl s3.heap.objs.size s3 (upd H s.heap.objs.size (.lst [])) bG) (pins++ux bG s5.heap) (hP++pick σ fr) gT iE→W (i+1) zs gT →
      ∃k,k<n - i∧∃i ys aT af,Inv (eE X cQ scope cl s3.heap.objs.size s3 (upd H s.heap.objs.size (.lst [])) bG) pins (aT++pick σ fr) af iE∧aT.length=m∧eo i iE.heap∧(∀b∈bG,af b=none)∧W i ys af∧k=n - i:=fun {gT zs iE} k8 yo=>by
     refine⟨n - (i+1),by omega,i+1,zs,hP,_,k8.ua,Y5,T.keep _ _ _ kG fun b aa o e=>(k8.pin (b,o) (mem_append_right _ (mem_append_right _ (qJ aa e)))).1,fun b aa=>?_,yo,rfl⟩
     obtain⟨o,e,d⟩:=T.obj _ _ kG b aa
     exact (k8.pin (b,o) (mem_append_right _ (mem_append_right _ (qJ aa e)))).2.1
    refine bT (bk _ _ _ _ nh _ _ _ tR yv) fun ok EW ⟨abB,yb,xe⟩=>?_
    cases ok with
    | false=>exact again yb xe
    | true =>
     refine bT (he _ _ _ _ EW _ _ _ yb xe) fun y fz ⟨jL,dR,jW,bO,de,hlen,n8⟩=>?_
     refine bT (h_ _ fz _ dR (.ref s.heap.objs.size) [jL] (.ref s.heap.objs.size) [y] (fun _ gT=>gT=upd dR s.heap.objs.size (.lst (ys++[jL]))) jW rfl (.cons bO .nil) ⟨_,ys,jL,rfl,rfl,de,hlen,rfl⟩) fun _ iE ⟨_,gT,k8,_,lQ⟩=>?_
     subst lQ
     exact again k8 n8
  ·obtain⟨o,e,_⟩:=T.obj 0 _ st b aa
   rw[aB (ne_of_lt (lt_size e))]
   exact (hf b aa).1
 have bS:({ s with heap:=fU,toks:=s.toks+([]:List (Str × Value)).length }:Shared)={ s3 with heap:=fU }:=by rw[←rb];rfl
 rw[bS]
 exact codeAny_compStart_list (loop _ rfl) (T.self _ 0 _ _ _ kH (loop _ rfl))
section
variable {X:bI}{y:Str}{py pos qY:Pos}{eS:Expr}{g:iU}{m:Nat}{elt iter c:Expr}{scope:Scope}{cl:List (Str × Addr)}{cQ:List Str}{fr:List Nat}{fM:TI}{bY:TE}{tt:TT}
def WD (fM:TI) (m:Nat) (g:iU) (fr:List Nat) (tt:TT) (bY:TE):TE:=fun σ H Q=>fM σ H fun J H1=>∀acc,H1 acc=none→En J m g tt bY (pick σ fr) Q H1 acc
def WN (i:Nat) (fM:TI) (m:Nat) (g:iU) (fr:List Nat) (tt:TT) (bY:TE):fX:=fun D σ H=>WD fM m g fr tt bY σ H fun v H1=>D.dk (σ.set i (some v)) H1
theorem U8 {i:Nat}(fr:List Nat) (cQ:List Str) (fV:X.N.Nodup) (iQ:X.N[i]?=some y) (b6:X.env.kindOf y=some .local) (B:w8 X m fr cQ scope cl) (ai:X.calm=true) (aP:pn X eS iter fM)
  (cO:∀C aI af bG,pq (eE X cQ scope cl C aI af bG) eS g) (bk:∀C aI af bG,h5 (eE X cQ scope cl C aI af bG) c tt) (he:∀C aI af bG,b8 (eE X cQ scope cl C aI af bG) elt bY) (xF:swapsWith (.ListComp elt [⟨eS,iter,[c],0⟩] scope pos) (some (.Name y py)) qY.line X.env=pure true:=by rfl) (aJ:∀x,foldedSetIterable iter X.env x=pure x:=by intro _;rfl) :
  jV X (.Assign [.Name y py] (.ListComp elt [⟨eS,iter,[c],0⟩] scope pos) qY) (WN i fM m g fr tt bY):=by
 intro pins s σ H D I h
 rw[exec_Assign_Name_used _ _ _ _ xF]
 refine wpAny_bind (wpAny_standAt (wpAny_bind ?_))
 show wpAny _ X.A (do let _ ← comprehension (.ListComp elt [⟨eS,iter,[c],0⟩] scope pos) scope X.env _ (newList []) false (eval iter X.env) (some (assign (.Name y py) X.env))) _ _ s
 refine wpAny_bind (wpAny_mono (wpAny_comprehension_free (use:=some (assign (.Name y py) X.env)) (Q:=fun _ aI=>oq X pins D .next aI) rfl aJ B.nL B.kind B.names (bT (aP pins s σ H _ I h) fun v s1 aj=>bT aj fun sP s2 az=>?_))
  (fun _ aI bk=>wpAny_pure (wpAny_pure bk)) fun _ _ e=>e)
 obtain⟨it,bG,eo,J,av,e,cK,T,nN,f2,aW⟩:=az
 subst e
 refine TR (RR:=fun acc C=>compPost (model X.prog X.w) X.A X.dS (some (assign (.Name y py) X.env)) (fun _ aI=>oq X pins D .next aI) acc C) B ai cK T nN f2 (fun C aI af=>cO C aI af bG) (fun C aI af=>bk C aI af bG) (fun C aI af=>he C aI af bG) aW ?_
 intro acc C af aI m fk q aR h0 aj ck dv gF
 show wpAny _ X.A (assign (.Name y py) X.env (.ref acc)) _ _ _
 refine wpAny_assign_Name (zp (v:=.ref acc) fk fV iQ (.inl b6) rfl (fun p6 yc xG=>?_) (.inr b6))
 obtain⟨a,jM,bo⟩:=xG
 have xX:C≠a:=by
  rcases bo with z | z
  ·rw[z];exact aj
  ·exact Ne.symm (dv _ _ z)
 refine⟨m,aR.sameBut jM xX,fun h' w9=>⟨_,af,yc.turned (t':=p6.toks) (fun b o aa e=>(w9.2 b aa).trans e) h0 aj ck dv gF,q⟩⟩
end
def bD.D:bD→D
 | .put d p o n=>.tup [.str "put",.int d,.int (p:Nat),.int o,.int n]
 | .fin d=>.tup [.str "end",.int d]
inductive a4 where
 | line (ln:bD)
 | dm (p:Nat) (n:Int)
 | cut (k:Nat)
def a4.D:a4→D
 | .line ln=>.tup [.str "line",ln.D]
 | .dm p n=>.tup [.str "page",.int (p:Nat),.int n]
 | .cut k=>.tup [.str "cut",.int (k:Nat)]
inductive bZ where
 | begin
 | put (d p n:Int)
 | fin (d:Int)
 | drop (d:Int)
 | look (p:Int)
 | carry (p:Int)
 | cut
def bZ.D:bZ→D
 | .begin=>.tup [.str "begin"]
 | .put d p n=>.tup [.str "put",.int d,.int p,.int n]
 | .fin d=>.tup [.str "end",.int d]
 | .drop d=>.tup [.str "drop",.int d]
 | .look p=>.tup [.str "look",.int p]
 | .carry p=>.tup [.str "carry",.int p]
 | .cut=>.tup [.str "cut"]
inductive cY where
 | num (i:Int)
 | word (x:Str)
def cY.D:cY→D
 | .num i=>.int i
 | .word x=>.str x
def cY.v:cY→V
 | .num i=>.int i
 | .word x=>.str x
mutual
def D.flat:D→Bool
 | .int _=>true
 | .str _=>true
 | .tup l=>qV l
 | .lst _=>false
def qV:List D→Bool
 | []=>true
 | d::r=>d.flat && qV r
end
mutual
theorem Rep.keep {H af:ao}(k:d1 H af):∀(d:D) (v:V),d.flat=true→Rep H d v→Rep af d v
 | .int _,_,_,h=>h
 | .str _,_,_,h=>h
 | .tup l,_,f,h=>by
  unfold Rep at h ⊢
  obtain⟨a,xs,e,q,r⟩:=h
  unfold D.flat at f
  exact⟨a,xs,e,k _ _ q,a9.keep k l xs f r⟩
 | .lst l,_,f,_=>by unfold D.flat at f;cases f
theorem a9.keep {H af:ao}(k:d1 H af):∀(l:List D) (xs:List V),qV l=true→a9 H l xs→a9 af l xs
 | [],_,_,h=>h
 | d::r,_,f,h=>by
  unfold a9 at h ⊢
  unfold qV at f
  rw[and_eq_true]at f
  obtain⟨x,t,e,q,z⟩:=h
  exact⟨x,t,e,Rep.keep k d x f.1 q,a9.keep k r t f.2 z⟩
end
theorem er {α:Type}{f:α→D}(h:∀a,(f a).flat=true):∀l:List α,qV (l.map f)=true
 | []=>by unfold qV;rfl
 | a::r=>by
  rw[map_cons]
  unfold qV
  rw[h a,er h r]
  rfl
theorem a4.f3 (s:a4):s.D.flat=true:=by
 cases s with
 | line ln=>cases ln <;> rfl
 | dm p n=>rfl
 | cut k=>rfl
theorem bZ.f3 (d:bZ):d.D.flat=true:=by cases d <;> rfl
theorem qM {H:ao}{a:D}{v:V}(h:Rep H (.tup [a]) v):∃c x,v=.ref c∧H c=some (.tup [x])∧Rep H a x:=by
 obtain⟨c,xs,rfl,ai,r⟩:=h.r1
 obtain⟨x,t,rfl,aj,r⟩:=r.inv
 cases r.lx
 exact⟨c,x,rfl,ai,aj⟩
theorem gj {H:ao}{a b:D}{v:V}(h:Rep H (.tup [a,b]) v):∃c x y,v=.ref c∧H c=some (.tup [x,y])∧Rep H a x∧Rep H b y:=by
 obtain⟨c,xs,rfl,ai,r⟩:=h.r1
 obtain⟨x,t,rfl,aj,r⟩:=r.inv
 obtain⟨y,t,rfl,az,r⟩:=r.inv
 cases r.lx
 exact⟨c,x,y,rfl,ai,aj,az⟩
theorem zA {H:ao}{a b d:D}{v:V}(h:Rep H (.tup [a,b,d]) v):∃c x y z,v=.ref c∧H c=some (.tup [x,y,z])∧Rep H a x∧Rep H b y∧Rep H d z:=by
 obtain⟨c,xs,rfl,ai,r⟩:=h.r1
 obtain⟨x,t,rfl,aj,r⟩:=r.inv
 obtain⟨y,t,rfl,az,r⟩:=r.inv
 obtain⟨z,t,rfl,ck,r⟩:=r.inv
 cases r.lx
 exact⟨c,x,y,z,rfl,ai,aj,az,ck⟩
theorem zz {H:ao}{a b d e:D}{v:V}(h:Rep H (.tup [a,b,d,e]) v):∃c x y z u,v=.ref c∧H c=some (.tup [x,y,z,u])∧Rep H a x∧Rep H b y∧Rep H d z∧Rep H e u:=by
 obtain⟨c,xs,rfl,ai,r⟩:=h.r1
 obtain⟨x,t,rfl,aj,r⟩:=r.inv
 obtain⟨y,t,rfl,az,r⟩:=r.inv
 obtain⟨z,t,rfl,ck,r⟩:=r.inv
 obtain⟨u,t,rfl,dv,r⟩:=r.inv
 cases r.lx
 exact⟨c,x,y,z,u,rfl,ai,aj,az,ck,dv⟩
theorem U0 {H:ao}{a b d e f:D}{v:V}(h:Rep H (.tup [a,b,d,e,f]) v):∃c x y z u w,v=.ref c∧H c=some (.tup [x,y,z,u,w])∧Rep H a x∧Rep H b y∧Rep H d z∧Rep H e u∧Rep H f w:=by
 obtain⟨c,xs,rfl,ai,r⟩:=h.r1
 obtain⟨x,t,rfl,aj,r⟩:=r.inv
 obtain⟨y,t,rfl,az,r⟩:=r.inv
 obtain⟨z,t,rfl,ck,r⟩:=r.inv
 obtain⟨u,t,rfl,dv,r⟩:=r.inv
 obtain⟨w,t,rfl,gF,r⟩:=r.inv
 cases r.lx
 exact⟨c,x,y,z,u,w,rfl,ai,aj,az,ck,dv,gF⟩
theorem kF.Eb {H:ao}{ln:bD}{x:V}(h:Rep H ln.D x):kF H ln x:=by
 cases ln with
 | put d p o n =>
  obtain⟨c,x1,x2,acj,ae6,ae5,rfl,ai,aj,az,ck,dv,gF⟩:=U0 h
  cases aj.str_inv
  cases az.int_inv
  cases ck.int_inv
  cases dv.int_inv
  cases gF.int_inv
  exact⟨c,rfl,ai⟩
 | fin d =>
  obtain⟨c,x1,x2,rfl,ai,aj,az⟩:=gj h
  cases aj.str_inv
  cases az.int_inv
  exact⟨c,rfl,ai⟩
structure aq where
 cg:List Int
 ay:List Int
 log:List bD
 aK:List (Int × List (Nat × Int))
 room:Int
 begun:Nat
 c9:List a4
namespace aq
def isOpen (h:aq) (d:Int):Bool:=h.aK.any fun z=>z.1 == d
def bound (h:aq):Int:=(h.aK.map fun z=>(z.2.length:Int)+1).sum
def c7 (h:aq) (d:Int):List (Nat × Int):=((h.aK.find? fun z=>z.1 == d).map (·.2)).getD []
def dT (h:aq) (p:Nat):Option Int:=(h.aK.find? fun z=>z.2.any fun y=>y.1 == p).map (·.1)
def dc (h:aq) (s:a4):aq:=match s with
 | .line ln=>{ h with c9:=h.c9++[s],log:=h.log++[ln] }
 | .dm p n=>{ h with c9:=h.c9++[s],cg:=h.cg.set p n }
 | .cut k=>{ h with c9:=h.c9++[s],log:=h.log.drop k }
end aq
def ez (ce ak:List Int) (op:Int→Bool):List bD→Nat
 | []=>0
 | .fin _::r=>ez ce ak op r+1
 | .put d p _ _::r=>if op d=true∨(r.any (i0 p)=false∧ce[p]?≠ak[p]?) then 0 else ez ce ak op r+1
namespace aq
def dW (h:aq):aq:=if 0<ez h.cg h.ay h.isOpen h.log then h.dc (.cut (ez h.cg h.ay h.isOpen h.log)) else h
def d0 (h:aq) (p:Nat):aq:=if h.cg[p]?=h.ay[p]? then h else h.dc (.dm p (h.ay.getD p 0))
def hN (h:aq) (more:Int):Bool:=decide ((h.log.length:Int)+h.bound+more≤h.room)
def gk (h:aq):aq:=((List.range h.ay.length).foldl d0 h).dW
def full (h:aq) (more:Int):aq × Bool:=if h.hN more=true then (h,false) else (h.gk, !h.gk.hN more)
def putIn (h:aq) (d:Int) (p:Nat) (n:Int):aq:={ h.dc (.line (.put d p (h.ay.getD p 0) n)) with ay:=h.ay.set p n }
def dU (h:aq) (d:Int):aq:=(h.c7 d).reverse.foldl (fun h z=>h.putIn d z.1 z.2) h
def fK (h:aq) (d:Int):aq:={ h.dc (.line (.fin d)) with aK:=h.aK.filter fun z=>z.1 != d }
def c1 (h:aq) (d:Int) (p:Nat):aq:={ h with aK:=h.aK.map fun z=>if z.1=d then (z.1,z.2++[(p,h.ay.getD p 0)]) else z }
def began (h:aq):aq:={ h with begun:=h.begun+1 }
def opened (h:aq):aq:={ h with aK:=h.aK++[(((h.begun:Int) - 1),[])] }
def refusal (h:aq):bZ→Option Str
 | .begin=>none
 | .put d p _=>if h.isOpen d=false then some "no dealing" else if p<0∨(h.ay.length:Int)≤p then some "no page" else if h.dT p.toNat=none∨h.dT p.toNat=some d then none else some "taken"
 | .fin d=>if h.isOpen d=false then some "no dealing" else none
 | .drop d=>if h.isOpen d=false then some "no dealing" else none
 | .look p=>if p<0∨(h.ay.length:Int)≤p then some "no page" else none
 | .carry p=>if p<0∨(h.ay.length:Int)≤p then some "no page" else none
 | .cut=>none
def gp (h:aq):bZ→aq × cY
 | .begin=>if (h.began.full 1).2=true then ((h.began.full 1).1,.word "no room") else ((h.began.full 1).1.opened,.num h.begun)
 | .put d p n=>if (h.full 2).2=true then ((h.full 2).1,.word "no room") else ((((h.full 2).1.c1 d p.toNat).putIn d p.toNat n),.word "done")
 | .fin d=>(h.fK d,.word "done")
 | .drop d=>((h.dU d).fK d,.word "done")
 | .look p=>(h,.num (h.ay.getD p.toNat 0))
 | .carry p=>(h.d0 p.toNat,.word "done")
 | .cut=>(h.dW,.word "done")
def a5 (h:aq) (x:bZ):aq × cY:=match h.refusal x with
 | some w=>(h,.word w)
 | none=>h.gp x
end aq
open PySem
theorem Wx {ns:List Int}{i:Nat}{v:Int}(h:ns[i]?=some v):n2 (ns.map V.int) ((i:Nat):Int)=some (.int v):=e4 (rT h)
def iK (ps aU:List Int):Nat→List a4
 | 0=>[]
 | i+1=>iK ps aU i++(if aU[i]?=ps[i]? then [] else [a4.dm i ((aU[i]?).getD 0)])
def mY (n:Nat):List a4:=if n=0 then [] else [.cut n]
def gz (ps aU:List Int) (n:Nat):List a4:=iK ps aU aU.length++mY n
theorem Jy (ps aU:List Int):∀i,(iK ps aU i).length≤i
 | 0=>le_refl _
 | i+1=>by
  have:=Jy ps aU i
  show (iK ps aU i++_).length≤_
  rw[length_append]
  split
  ·rw[length_nil];omega
  ·rw[length_singleton];omega
theorem Kx (n:Nat):(mY n).length≤1:=by
 unfold mY
 split
 ·exact zero_le _
 ·exact le_refl _
theorem CR (ps aU:List Int) (n:Nat):(gz ps aU n).length≤aU.length+1:=by
 unfold gz
 rw[length_append]
 have:=Jy ps aU aU.length
 have:=Kx n
 omega
theorem IY {ps aU:List Int}{i:Nat}{k:Int}(aj:aU[i]?=some k) (az:ps[i]?=some k):iK ps aU (i+1)=iK ps aU i:=by
 show iK ps aU i++(if aU[i]?=ps[i]? then [] else _)=_
 rw[if_pos (aj.trans az.symm),append_nil]
theorem IZ {ps aU:List Int}{i:Nat}{k p:Int}(aj:aU[i]?=some k) (az:ps[i]?=some p) (h:¬k=p):iK ps aU (i+1)=iK ps aU i++[.dm i k]:=by
 show iK ps aU i++(if aU[i]?=ps[i]? then [] else _)=_
 rw[if_neg (by rw[aj,az];exact fun z=>h (Option.some.inj z)),aj]
 rfl
theorem Kc {H:ao}{a:Addr}{p:Nat}{n:Int}(h:H a=some (.tup [.str "page",.int (p:Nat),.int n])):Rep H (a4.dm p n).D (.ref a) :=
 Rep.hs h (.cons .ofStr (.cons .ofInt (.cons .ofInt .nil)))
theorem K8 {H:ao}{a:Addr}{k:Nat}(h:H a=some (.tup [.str "cut",.int (k:Nat)])):Rep H (a4.cut k).D (.ref a) :=
 Rep.hs h (.cons .ofStr (.cons .ofInt .nil))
theorem Jt {H:ao}{l:List a4}{s:a4}{zs:List V}{v:V}(h:a9 H (l.map a4.D) zs) (r:Rep H s.D v):a9 H ((l++[s]).map a4.D) (zs++[v]):=by
 rw[map_append]
 exact h.append (.cons r .nil)
theorem Io (l:List a4):qV (l.map a4.D)=true:=er a4.f3 l
theorem Ts {K:PySem.W.Frag}{mu:Addr}{aU ps:List Int}{tt:TT}{bY:TE}{bz:St}{Q:cG}{H:ao}{acc:Addr}(aR:H mu=some (.lst (aU.map V.int))) (h0:H acc=none) (hz:aU.length≤1000) (aC:aU.length=ps.length)
  (bF:∀(i:Nat) (k p:Int) aS (c:Bool→ao→Prop),aU[i]?=some k→ps[i]?=some p→bx H aS→c (!decide (V.int k=V.int p)) aS→tt (some (.int (i:Nat))::some (.int k)::bz) aS c)
  (he:∀(i:Nat) (k:Int) aS (c:cG),bx H aS→(∀a,aS a=none→c (.ref a) (upd aS a (.tup [.str "page",.int (i:Nat),.int k])))→bY (some (.int (i:Nat))::some (.int k)::bz) aS c)
  (q:∀(ys:List V) (af:ao),bx H af→af acc=some (.lst ys)→a9 af ((iK ps aU aU.length).map a4.D) ys→ys.length≤aU.length→Q (.ref acc) af):En (ve K mu) 2 (EJ K 2 (Em (wI 0) (Em (wI 1) Nu))) tt bY bz Q H acc:=by
 refine⟨aU.length,fun i ys av=>i≤aU.length∧bx H av∧av acc=some (.lst ys)∧ys.length≤i∧a9 av ((iK ps aU i).map a4.D) ys,⟨zero_le _,bV h0 _,aV,le_refl _,.nil⟩,?_⟩
 rintro i ys av ⟨aP,dj,de,gR,aE⟩
 have oS:=dj _ _ aR
 by_cases c2:i<aU.length
 ·have aQ:aU[i]?=some aU[i]:=getElem?_eq_getElem c2
  have aF:ps[i]?=some (ps[i]'(by omega)):=getElem?_eq_getElem (by omega)
  generalize aU[i]=k at aQ
  generalize ps[i]'(by omega)=p at aF
  refine .inr ⟨⟨_,.int k,aM.of oS,rT aQ⟩,c2,?_⟩
  rintro v aS aT ⟨pr,x,E3,rfl,rfl,bh⟩ Fp
  have ex:x=.int k:=by
   have:=bh _ (aM.of oS)
   rw[rT aQ]at this
   exact (Option.some.inj this).symm
  subst ex
  obtain⟨t1,d_,rfl⟩:∃t1 d_,aT=[t1,d_]:=by
   match aT,Fp with
   | [a,b],_=>exact⟨a,b,rfl⟩
  refine⟨pr,_,rfl,aO.of aV,rfl,_,_,rfl,_,_,rfl,rfl,[some (.int (i:Nat)),some (.int k)],rfl,rfl,?_⟩
  have s3:=dj.trans (bV E3 (.tup [.int (i:Nat),.int k]))
  have w5:=(bV E3 (.tup [.int (i:Nat),.int k])) _ _ de
  have gZ:=a9.mono (bV E3 (.tup [.int (i:Nat),.int k])) _ _ aE
  generalize upd av pr (.tup [.int (i:Nat),.int k])=aS at s3 w5 gZ ⊢
  refine bF i k p aS _ aQ aF s3 ?_
  by_cases e:k=p
  ·subst e
   have d:(!decide (V.int k=V.int k))=false:=by rw[decide_eq_true rfl];rfl
   rw[d]
   refine dQ ⟨c2,s3,w5,by omega,?_⟩
   rw[IY aQ aF]
   exact gZ
  ·have d:(!decide (V.int k=V.int p))=true:=by rw[decide_eq_false (fun z=>e (by injection z))];rfl
   rw[d]
   refine eB (he i k aS _ s3 fun a bo=>?_)
   have aaf:a≠acc:=(ct w5 bo).symm
   have s4:=bV bo (.tup [.str "page",.int (i:Nat),.int k])
   refine⟨s4 _ _ w5,lt_of_le_of_lt (by omega:ys.length≤1000) (by decide),c2,(s3.trans s4).hr h0,aV,by rw[length_append,length_singleton];omega,?_⟩
   rw[IZ aQ aF e]
   have kt:d1 (upd aS a (.tup [.str "page",.int (i:Nat),.int k])) (upd (upd aS a (.tup [.str "page",.int (i:Nat),.int k])) acc (.lst (ys++[.ref a]))):=fun b xs aa=>by
    rw[aB (dt aa (s4 _ _ w5) (fun z=>nomatch z))]
    exact aa
   refine Jt (a9.keep kt _ _ (Io _) (a9.mono s4 _ _ gZ)) (Kc ?_)
   rw[aB aaf,aV]
 ·have e:i=aU.length:=by omega
  subst e
  exact .inl ⟨⟨_,aM.of oS,by rw[length_map];exact le_refl _⟩,q ys av dj de aE gR⟩
inductive dY where
 | line (v:V)
 | dm (p:Nat) (n:Int)
 | cut (k:Int)
def pZ (H:ao):dY→V→Prop
 | .line v,x=>∃a,x=.ref a∧H a=some (.tup [.str "line",v])
 | .dm p n,x=>∃a,x=.ref a∧H a=some (.tup [.str "page",.int (p:Nat),.int n])
 | .cut k,x=>∃a,x=.ref a∧H a=some (.tup [.str "cut",.int k])
def dY.ok (c:Nat):dY→Prop
 | .dm p _=>p<c
 | _=>True
def dY.bP (ps:List V):dY→List V
 | .dm p n=>ps.set p (.int n)
 | _=>ps
def dY.cA (ls:List V):dY→List V
 | .line v=>ls++[v]
 | .cut k=>j8 ls (some k) none
 | _=>ls
theorem pZ.mono {H af:ao}(k:d1 H af):∀{dg:dY}{x:V},pZ H dg x→pZ af dg x
 | .line v,x,⟨a,e,h⟩=>⟨a,e,k _ _ h⟩
 | .dm p n,x,⟨a,e,h⟩=>⟨a,e,k _ _ h⟩
 | .cut c,x,⟨a,e,h⟩=>⟨a,e,k _ _ h⟩
inductive mb (H:ao):List dY→List V→Prop where
 | nil:mb H [] []
 | snoc {gA:List dY} {xs:List V} {dg:dY} {x:V} (h:mb H gA xs) (q:pZ H dg x):mb H (gA++[dg]) (xs++[x])
theorem mb.len {H:ao}{gA:List dY}{xs:List V}(h:mb H gA xs):gA.length=xs.length:=by
 induction h with
 | nil=>rfl
 | snoc _ q b3=>rw[length_append,length_append,b3];rfl
theorem mb.get {H:ao}{gA:List dY}{xs:List V}(h:mb H gA xs):∀(i:Nat) (x:V),xs[i]?=some x→∃dg,gA[i]?=some dg∧pZ H dg x:=by
 induction h with
 | nil=>intro i x e;simp at e
 | @snoc gA xs dg x0 h q b3 =>
  intro i x e
  have aC:=h.len
  by_cases aP:i<xs.length
  ·rw[getElem?_append_left aP]at e
   obtain⟨ZK,cF,ni⟩:=b3 i x e
   exact⟨ZK,by rw[getElem?_append_left (by omega)];exact cF,ni⟩
  ·rw[getElem?_append_right (by omega)]at e
   have PU:i - xs.length=0:=by
    cases z:i - xs.length with
    | zero=>rfl
    | succ n=>rw[z]at e;simp at e
   rw[PU]at e
   have cF:x0=x:=Option.some.inj e
   subst cF
   refine⟨dg,?_,q⟩
   rw[getElem?_append_right (by omega),aC,PU]
   rfl
theorem JL {α β:Type}(f:β→α→β) (b:β) (l:List α) (i:Nat) (x:α) (h:l[i]?=some x):(l.take (i+1)).foldl f b=f ((l.take i).foldl f b) x:=by
 rw[take_add_one,h,foldl_append]
 rfl
theorem WU (dg:dY) (ps:List V):(dY.bP ps dg).length=ps.length:=by
 cases dg with
 | dm p n=>exact length_set
 | _=>rfl
theorem Lc:∀(gA:List dY) (ps:List V),(gA.foldl dY.bP ps).length=ps.length
 | [],_=>rfl
 | dg::r,ps=>by rw[foldl_cons,Lc r,WU]
theorem Yj:¬(V.str "cut"=V.str "page"):=by decide +kernel
theorem take_all {H:ao}{gA:List dY}{xs:List V}(h:mb H gA xs):gA.take xs.length=gA:=by
 rw[←h.len]
 exact take_length
def CA:dn:=fun vs H Q _=>∃(p l s:Addr) (ps ls xs:List V) (gA:List dY),vs=[.ref p,.ref l,.ref s]∧H p=some (.lst ps)∧H l=some (.lst ls)∧H s=some (.lst xs)∧mb H gA xs∧(∀dg∈gA,dg.ok ps.length)∧(∀i,((gA.take i).foldl dY.cA ls).length≤1999) ∧
 ∀(r eH fD:Addr) (af:ao),bx H af→H eH=none→H fD=none→eH≠fD→af r=some (.tup [.ref eH,.ref fD])→af eH=some (.lst (gA.foldl dY.bP ps))→af fD=some (.lst (gA.foldl dY.cA ls))→Q (.ref r) af
theorem DN:¬(("pages":Str)="log"):=by decide +kernel
def l1 (bP cA:Addr):List (Str × V):=d9 "log" (.ref cA) (d9 "pages" (.ref bP) [])
theorem CQ (bP cA:Addr):l1 bP cA=([("pages",V.ref bP),("log",V.ref cA)]:List (Str × V)):=by
 show (if ("pages":Str)="log" then [(("pages":Str),V.ref cA)] else (("pages":Str),V.ref bP)::d9 "log" (V.ref cA) [])=_
 rw[if_neg DN]
 rfl
theorem zf (bP cA:Addr):(l1 bP cA).lookup ("pages":Str)=some (.ref bP):=by
 unfold l1
 rw[rU,if_neg DN,rU,if_pos rfl]
theorem vV (bP cA:Addr):(l1 bP cA).lookup ("log":Str)=some (.ref cA):=by
 unfold l1
 rw[rU,if_pos rfl]
theorem Kz (bP cA:Addr) {m:Str}(aj:¬m="log") (az:¬m="pages"):(l1 bP cA).lookup m=none:=by
 unfold l1
 rw[rU,if_neg aj,rU,if_neg az]
 rfl
theorem UI (bP cA lB:Addr):d9 "log" (.ref lB) (l1 bP cA)=l1 bP lB:=by
 rw[CQ,CQ]
 show (if ("pages":Str)="log" then _ else (("pages":Str),V.ref bP)::(if ("log":Str)="log" then [(("log":Str),V.ref lB)] else _))=_
 rw[if_neg DN,if_pos rfl]
structure wD (C:Addr) (H:ao) (c bP cA:Addr) (ps ls:List V):Prop where
 b1:∃dx,H c=some (.ins C dx (l1 bP cA))
 aF:H bP=some (.lst ps)
 aC:H cA=some (.lst ls)
 ne:bP≠cA
structure pG (K:PySem.W.Frag) (mg:Str→Option Value) (C:Addr):Prop where
 cl:lH K C
 yw:jC K C "pages"
 tv:jC K C "log"
 AX:mg "Cellar"=some (.ref C)
def zK (C:Addr):dn:=fun vs H Q _=>∃(c dx a b:Addr) (ps ls:List V),vs=[.ref c,.ref a,.ref b]∧H c=some (.ins C dx [])∧H a=some (.lst ps)∧H b=some (.lst ls) ∧
 ∀(bP cA:Addr) (af:ao),H bP=none→H cA=none→wD C af c bP cA ps ls→(∀b o,H b=some o→b≠c→af b=some o)→Q .cS af
theorem Tv (log:List bD) (q:Nat) (v:Int):oB log q (oB log q v)=oB log q v:=by
 unfold oB
 cases nE log log q with
 | some x=>rfl
 | none =>
  cases ey log q none with
  | some x=>rfl
  | none=>rfl
def kp (ps:List Int) (log:List bD) (aU:List Int):Prop:=aU.length=ps.length∧∀(q:Nat) (v:Int),ps[q]?=some v→aU[q]?=some (oB log q v)
theorem kp.uniq {ps:List Int}{log:List bD}{aU PD:List Int}(h:kp ps log aU) (h':kp ps log PD):PD=aU:=by
 refine List.ext_getElem? fun q=>?_
 by_cases bk:q<ps.length
 ·rw[h.2 q _ (getElem?_eq_getElem bk),h'.2 q _ (getElem?_eq_getElem bk)]
 ·rw[getElem?_eq_none (by rw[h'.1];omega),getElem?_eq_none (by rw[h.1];omega)]
theorem kp.done (aU:List Int):kp aU [] aU:=⟨rfl,fun q v h=>h⟩
def oL (ps:List Int):a4→List Int
 | .dm p n=>ps.set p n
 | _=>ps
theorem V4 (ps:List Int) (s:a4):(oL ps s).length=ps.length:=by
 cases s with
 | dm p n=>exact length_set ..
 | line _=>rfl
 | cut _=>rfl
theorem zD:∀(l:List a4) (ps:List Int),(l.foldl oL ps).length=ps.length
 | [],_=>rfl
 | s::r,ps=>by rw[foldl_cons,zD r,V4]
theorem Jz {ps aU:List Int}(aC:aU.length=ps.length):∀i,i≤aU.length→∀q:Nat,((iK ps aU i).foldl oL ps)[q]?=if q<i then aU[q]? else ps[q]?
 | 0,_,q=>by
  rw[if_neg (not_lt_zero _)]
  rfl
 | i+1,aP,q=>by
  have b3:=Jz aC i (by omega)
  have aQ:aU[i]?=some aU[i]:=getElem?_eq_getElem (by omega)
  have aF:ps[i]?=some (ps[i]'(by omega)):=getElem?_eq_getElem (by omega)
  generalize aU[i]=k at aQ
  generalize ps[i]'(by omega)=p at aF
  by_cases e:k=p
  ·subst e
   rw[IY aQ aF,b3 q]
   by_cases bk:q<i
   ·rw[if_pos bk,if_pos (by omega)]
   ·rw[if_neg bk]
    by_cases z:q=i
    ·subst z
     rw[if_pos (by omega),aQ,aF]
    ·rw[if_neg (by omega)]
  ·rw[IZ aQ aF e,foldl_append]
   show (((iK ps aU i).foldl oL ps).set i k)[q]?=_
   by_cases z:q=i
   ·subst z
    rw[if_pos (by omega),aQ,getElem?_set_self (by rw[zD];omega)]
   ·rw[getElem?_set_ne (Ne.symm z),b3 q]
    by_cases bk:q<i
    ·rw[if_pos bk,if_pos (by omega)]
    ·rw[if_neg bk,if_neg (by omega)]
theorem TC {ps aU:List Int}(aC:aU.length=ps.length):(iK ps aU aU.length).foldl oL ps=aU:=by
 refine List.ext_getElem? fun q=>?_
 rw[Jz aC _ (le_refl _)]
 by_cases bk:q<aU.length
 ·rw[if_pos bk]
 ·rw[if_neg bk,getElem?_eq_none (by omega),getElem?_eq_none (by omega)]
theorem vQ {ps aU:List Int}:∀{i:Nat}{s:a4},s∈iK ps aU i→i≤aU.length→∃q k,s=.dm q k∧q<i∧aU[q]?=some k
 | 0,s,h,_=>by cases h
 | i+1,s,h,aP=>by
  rcases mem_append.mp h with z | z
  ·obtain⟨q,k,e,aj,az⟩:=vQ z (by omega)
   exact⟨q,k,e,by omega,az⟩
  ·have aQ:aU[i]?=some aU[i]:=getElem?_eq_getElem (by omega)
   rw[aQ]at z
   split at z
   ·cases z
   ·rw[mem_singleton.mp z]
    exact⟨i,aU[i],rfl,by omega,aQ⟩
theorem part_of {ps aU:List Int}:∀(l:List a4) (eU:List Int),eU.length=ps.length→(∀s∈l,∃q k,s=a4.dm q k∧aU[q]?=some k)→(∀q:Nat,eU[q]?=ps[q]?∨eU[q]?=aU[q]?)→∀q:Nat,(l.foldl oL eU)[q]?=ps[q]?∨(l.foldl oL eU)[q]?=aU[q]?
 | [],eU,_,_,h=>h
 | s::r,eU,aC,aJ,h=>by
  obtain⟨RW,k,rfl,aQ⟩:=aJ s mem_cons_self
  refine part_of r (eU.set RW k) (by rw[length_set];exact aC) (fun s hm=>aJ s (mem_cons_of_mem _ hm)) fun q=>?_
  by_cases z:q=RW
  ·subst z
   by_cases bk:q<eU.length
   ·rw[getElem?_set_self bk]
    exact .inr aQ.symm
   ·rw[getElem?_eq_none (by rw[length_set];omega),getElem?_eq_none (by omega)]
    exact .inl rfl
  ·rw[getElem?_set_ne (Ne.symm z)]
   exact h q
theorem kp.part {ps eU aU:List Int}{log:List bD}(h:kp ps log aU) (aC:eU.length=ps.length) (bk:∀q:Nat,eU[q]?=ps[q]?∨eU[q]?=aU[q]?):kp eU log aU:=by
 refine⟨h.1.trans aC.symm,fun q v aX=>?_⟩
 have aF:q<ps.length:=by
  have:=(List.getElem?_eq_some_iff.mp aX).1
  omega
 have e:=h.2 q _ (getElem?_eq_getElem aF)
 rcases bk q with z | z
 ·rw[aX]at z
  exact h.2 q v z.symm
 ·rw[aX,e]at z
  have iD:v=oB log q ps[q]:=Option.some.inj z
  rw[iD,Tv]
  exact e
def upTo (ps aU:List Int) (log:List bD) (h:Nat):List Int × List bD :=
 if (gz ps aU log.length).length≤h then (aU,[]) else (((gz ps aU log.length).take h).foldl oL ps,log)
theorem J2 {ps aU:List Int}{n h:Nat}(c5:h<(gz ps aU n).length):(gz ps aU n).take h=(iK ps aU aU.length).take h:=by
 unfold gz at c5 ⊢
 rw[length_append]at c5
 have:=Kx n
 rw[take_append_of_le_length (by omega)]
theorem VN {ps aU:List Int}{log:List bD}(h:kp ps log aU) (j:Nat):kp (upTo ps aU log j).1 (upTo ps aU log j).2 aU:=by
 unfold upTo
 split
 ·exact kp.done aU
 ·rename_i z
  rw[J2 (by omega)]
  refine h.part (zD _ _) (part_of _ _ rfl (fun s aJ=>?_) fun q=>.inl rfl)
  obtain⟨q,k,e,_,aQ⟩:=vQ (mem_of_mem_take aJ) (le_refl _)
  exact⟨q,k,e,aQ⟩
theorem J1 {ps aU:List Int}{log:List bD}(h:aU.length=ps.length) (j:Nat):(upTo ps aU log j).1.length=ps.length:=by
 unfold upTo
 split
 ·exact h
 ·exact zD _ _
theorem UO {ps aU:List Int}{log:List bD}{j:Nat}{ln:bD}(h:ln∈(upTo ps aU log j).2):ln∈log:=by
 unfold upTo at h
 split at h
 ·cases h
 ·exact h
theorem Td (ps aU:List Int) (log:List bD) (j:Nat):(upTo ps aU log j).2.length≤log.length:=by
 unfold upTo
 split
 ·exact zero_le _
 ·exact le_refl _
theorem TX {ps aU:List Int}{log:List bD}{j:Nat}(cD:aU.length+1≤j):upTo ps aU log j=(aU,[]):=by
 unfold upTo
 rw[if_pos (le_trans (CR ps aU log.length) cD)]
def a4.dg:a4→dY
 | .line _=>.cut 0
 | .dm p n=>.dm p n
 | .cut k=>.cut (k:Nat)
def a4.se:a4→Prop
 | .line _=>False
 | _=>True
theorem XH {H:ao}{s:a4}{v:V}(h:Rep H s.D v) (n:s.se):pZ H s.dg v:=by
 cases s with
 | line ln=>exact n.elim
 | dm p n =>
  obtain⟨c,x,y,z,rfl,ai,aj,az,ck⟩:=zA h
  cases aj.str_inv
  cases az.int_inv
  cases ck.int_inv
  exact⟨c,rfl,ai⟩
 | cut k =>
  obtain⟨c,x,y,rfl,ai,aj,az⟩:=gj h
  cases aj.str_inv
  cases az.int_inv
  exact⟨c,rfl,ai⟩
theorem zh {ps aU:List Int}{n:Nat}{s:a4}(h:s∈gz ps aU n):s.se:=by
 rcases mem_append.mp h with z | z
 ·obtain⟨q,k,rfl,_⟩:=vQ z (le_refl _)
  trivial
 ·unfold mY at z
  split at z
  ·cases z
  ·rw[mem_singleton.mp z]
   trivial
theorem Lw {ps aU:List Int}{n:Nat}(aC:aU.length=ps.length) {s:a4}(h:s∈gz ps aU n):s.dg.ok ps.length:=by
 rcases mem_append.mp h with z | z
 ·obtain⟨q,k,rfl,bk,_⟩:=vQ z (le_refl _)
  show q<ps.length
  omega
 ·unfold mY at z
  split at z
  ·cases z
  ·rw[mem_singleton.mp z]
   trivial
theorem Ld:∀(l:List a4) (ps:List Int),(∀s∈l,s.se)→(l.map a4.dg).foldl dY.bP (ps.map V.int)=(l.foldl oL ps).map V.int
 | [],_,_=>rfl
 | s::r,ps,h=>by
  rw[map_cons,foldl_cons,foldl_cons,←Ld r (oL ps s) fun s aJ=>h s (mem_cons_of_mem _ aJ)]
  congr 1
  cases s with
  | line ln=>exact (h _ mem_cons_self).elim
  | dm p n=>exact pC ..
  | cut k=>rfl
theorem CK:∀(l:List a4) (ls:List V),(∀s∈l,∃q k,s=a4.dm q k)→(l.map a4.dg).foldl dY.cA ls=ls
 | [],_,_=>rfl
 | s::r,ls,h=>by
  obtain⟨q,k,rfl⟩:=h s mem_cons_self
  exact CK r ls fun s aJ=>h s (mem_cons_of_mem _ aJ)
theorem Tw {ps aU:List Int}{log:List bD}(aC:aU.length=ps.length) (j:Nat):(((gz ps aU log.length).take j).map a4.dg).foldl dY.bP (ps.map V.int)=(upTo ps aU log j).1.map V.int:=by
 rw[Ld _ _ fun s aJ=>zh (mem_of_mem_take aJ)]
 unfold upTo
 split
 ·rename_i z
  rw[take_of_length_le z]
  unfold gz
  rw[foldl_append,TC aC]
  unfold mY
  split <;> rfl
 ·rfl
theorem TV {ps aU:List Int}{log:List bD}{ls:List V}(aC:log.length=ls.length) (j:Nat):(((gz ps aU log.length).take j).map a4.dg).foldl dY.cA ls=if (gz ps aU log.length).length≤j then [] else ls:=by
 have NY:∀s∈iK ps aU aU.length,∃q k,s=a4.dm q k:=fun s aJ=>by
  obtain⟨q,k,e,_⟩:=vQ aJ (le_refl _)
  exact⟨q,k,e⟩
 split
 ·rename_i z
  rw[take_of_length_le z]
  unfold gz
  rw[map_append,foldl_append,CK _ _ NY]
  unfold mY
  split
  ·rename_i e
   show ls=[]
   exact List.eq_nil_of_length_eq_zero (by omega)
  ·show j8 ls (some ((log.length:Nat):Int)) none=[]
   rw[uq,List.drop_eq_nil_of_le (by omega)]
 ·rename_i z
  rw[J2 (by omega)]
  exact CK _ _ fun s aJ=>NY s (mem_of_mem_take aJ)
theorem KZ {H:ao}:∀(n:Nat) {l:List a4}{zs:List V},l.length=n→a9 H (l.map a4.D) zs→(∀s∈l,s.se)→mb H (l.map a4.dg) zs
 | 0,l,zs,e,h,_=>by
  have cF:=List.eq_nil_of_length_eq_zero e
  subst cF
  rw[a9.lx h]
  exact .nil
 | n+1,l,zs,e,h,nl=>by
  have hg:l≠[]:=fun z=>by rw[z]at e;cases e
  have da:=List.dropLast_concat_getLast hg
  generalize l.dropLast=fD at da
  generalize l.getLast hg=s at da
  subst da
  rw[map_append]at h ⊢
  obtain⟨ys,x,rfl,aj,az⟩:=a9.snoc h
  have cF:fD.length=n:=by rw[length_append,length_singleton]at e;omega
  exact .snoc (KZ n cF aj fun s aJ=>nl s (mem_append_left _ aJ)) (XH az (nl s (mem_append_right _ (mem_singleton.mpr rfl))))
theorem LL {H:ao}{l:List a4}{zs:List V}(h:a9 H (l.map a4.D) zs) (n:∀s∈l,s.se):mb H (l.map a4.dg) zs:=KZ _ rfl h n
theorem Cr {H:ao}:∀{l:List D}{zs:List V}(j:Nat),a9 H l zs→a9 H (l.take j) (zs.take j)
 | [],zs,j,h=>by
  rw[h.lx,take_nil,take_nil]
  exact .nil
 | d::r,zs,0,h=>by
  rw[List.take_zero,List.take_zero]
  exact .nil
 | d::r,zs,j+1,h=>by
  obtain⟨x,t,rfl,aj,az⟩:=h.inv
  rw[List.take_succ_cons,List.take_succ_cons]
  exact .cons aj (Cr j az)
theorem L0 (xs:List V) (k:Nat):j8 xs none (some (k:Int))=xs.take k:=by
 by_cases h:k≤xs.length
 ·rw[TP (by omega) (by omega)]
  rfl
 ·unfold j8
  rw[hp.CE,hp.C3,Nat.min_eq_right (by omega),drop_zero,sub_zero,take_length,take_of_length_le (by omega)]
def aQ (ce ak lo pu st:Addr) (room begun:Int):List (Key × V):=[(Sum.inr "cellar",.ref ce),(Sum.inr "desk",.ref ak),(Sum.inr "log",.ref lo),(Sum.inr "puts",.ref pu),(Sum.inr "room",.int room),(Sum.inr "begun",.int begun),(Sum.inr "strokes",.ref st)]
section
variable (ce ak lo pu st lo' hE:Addr) (room begun L1:Int)
theorem Uy:dF (aQ ce ak lo pu st room begun) (Sum.inr "cellar")=some (.ref ce):=by kernel_rfl
theorem Wo:dF (aQ ce ak lo pu st room begun) (Sum.inr "desk")=some (.ref ak):=by kernel_rfl
theorem Xj:dF (aQ ce ak lo pu st room begun) (Sum.inr "log")=some (.ref lo):=by kernel_rfl
theorem Wn:dF (aQ ce ak lo pu st room begun) (Sum.inr "puts")=some (.ref pu):=by kernel_rfl
theorem Wm:dF (aQ ce ak lo pu st room begun) (Sum.inr "room")=some (.int room):=by kernel_rfl
theorem VD:dF (aQ ce ak lo pu st room begun) (Sum.inr "begun")=some (.int begun):=by kernel_rfl
theorem TN:dF (aQ ce ak lo pu st room begun) (Sum.inr "strokes")=some (.ref st):=by kernel_rfl
theorem JH:putK (aQ ce ak lo pu st room begun) (Sum.inr "log") (.ref lo')=aQ ce ak lo' pu st room begun:=by kernel_rfl
theorem IM:putK (aQ ce ak lo pu st room begun) (Sum.inr "begun") (.int L1)=aQ ce ak lo pu st room L1:=by kernel_rfl
theorem S0:putK (aQ ce ak lo pu st room begun) (Sum.inr "strokes") (.ref hE)=aQ ce ak lo pu hE room begun:=by kernel_rfl
end
def pairD (z:Nat × Int):D:=.tup [.int (z.1:Nat),.int z.2]
theorem hD (z:Nat × Int):(pairD z).flat=true:=rfl
def d6 (pl:List (Int × Addr)):List (Key × V):=pl.map fun z=>(Sum.inl z.1,V.ref z.2)
def own (h ce ak pu st:Addr) (pl:List (Int × Addr)):List Addr:=h::ce::ak::pu::st::pl.map (·.2)
structure br (H:ao) (h ce ak lo pu st:Addr) (pl:List (Int × Addr)) (x:aq):Prop where
 c5:H h=some (.bR (aQ ce ak lo pu st x.room x.begun))
 ai:H ce=some (.lst (x.cg.map V.int))
 hd:H ak=some (.lst (x.ay.map V.int))
 aC:∃xs,H lo=some (.lst xs)∧hu H x.log xs
 aF:H pu=some (.bR (d6 pl))
 e6:pl.map (·.1)=x.aK.map (·.1)
 ah:∀(i:Nat) z w,pl[i]?=some z→x.aK[i]?=some w→∃ys,H z.2=some (.lst ys)∧a9 H (w.2.map pairD) ys
 bL:(x.aK.map (·.1)).Nodup
 dg:∃zs,H st=some (.lst zs)∧a9 H (x.c9.map a4.D) zs
 ap:(own h ce ak pu st pl).Nodup
 nl:lo∉own h ce ak pu st pl
 cd:x.cg.length=x.ay.length
def hh (gD:List Addr) (H af:ao):Prop:=∀b o,b∉gD→H b=some o→af b=some o
theorem hh.refl (gD:List Addr) (H:ao):hh gD H H:=fun _ _ _ h=>h
theorem hh.trans {gD:List Addr}{H H1 av:ao}(a:hh gD H H1) (b:hh gD H1 av):hh gD H av:=fun c o ai h=>b c o ai (a c o ai h)
theorem bx.et {gD:List Addr}{H af:ao}(s:bx H af):hh gD H af:=fun b o _ h=>s b o h
theorem kB {gD:List Addr}{H:ao}{a:Addr}{o:fH}(h:a∈gD):hh gD H (upd H a o):=fun b u aa q=>by
 rw[aB (fun e=>aa (by rw[e];exact h))]
 exact q
section
variable {H af:ao}{h ce ak lo pu st:Addr}{pl:List (Int × Addr)}{x:aq}
theorem br.same (A:br H h ce ak lo pu st pl x) (s:bx H af):br af h ce ak lo pu st pl x:=by
 obtain⟨xs,aG,aL⟩:=A.aC
 obtain⟨zs,bH,bS⟩:=A.dg
 refine⟨s _ _ A.c5,s _ _ A.ai,s _ _ A.hd,⟨xs,s _ _ aG,aL.mono fun a y q=>q.mono s.fy⟩,s _ _ A.aF,A.e6,fun i z w a b=>?_,A.bL,⟨zs,s _ _ bH,a9.mono s _ _ bS⟩,A.ap,A.nl,A.cd⟩
 obtain⟨ys,bu,aW⟩:=A.ah i z w a b
 exact⟨ys,s _ _ bu,a9.mono s _ _ aW⟩
theorem br.ne (A:br H h ce ak lo pu st pl x):h≠ce∧h≠ak∧h≠pu∧h≠st∧ce≠ak∧ce≠pu∧ce≠st∧ak≠pu∧ak≠st∧pu≠st∧lo≠h∧lo≠ce∧lo≠ak∧lo≠pu∧lo≠st∧(∀z∈pl,z.2≠h∧z.2≠ce∧z.2≠ak∧z.2≠pu∧z.2≠st∧z.2≠lo):=by
 have ap:=A.ap
 have nl:=A.nl
 unfold own at ap nl
 simp only[nodup_cons,mem_cons,not_or]at ap nl
 obtain⟨⟨a1,a2,jU,pk,tL⟩,⟨gh,k6,BJ,acR⟩,⟨e_,hn,oo⟩,⟨Sk,BF⟩,ek,_⟩:=ap
 obtain⟨e8,gu,qn,mz,nu,vo⟩:=nl
 refine⟨a1,a2,jU,pk,gh,k6,BJ,e_,hn,Sk,e8,gu,qn,mz,nu,fun z hz=>?_⟩
 have hm:z.2∈pl.map (·.2):=mem_map.mpr ⟨z,hz,rfl⟩
 exact⟨fun e=>tL (e ▸ hm),fun e=>acR (e ▸ hm),fun e=>oo (e ▸ hm),fun e=>BF (e ▸ hm),fun e=>ek (e ▸ hm),fun e=>vo (e ▸ hm)⟩
theorem br.setC (A:br H h ce ak lo pu st pl x) {c:List Int}(ai:c.length=x.ay.length):br (upd H ce (.lst (c.map V.int))) h ce ak lo pu st pl { x with cg:=c }:=by
 obtain⟨dN,dI,eV,fN,gr,gE,gQ,i5,lK,l6,cp,cy,fo,gs,i6,np⟩:=A.ne
 have kt:d1 H (upd H ce (.lst (c.map V.int))):=rX A.ai
 obtain⟨xs,aG,aL⟩:=A.aC
 obtain⟨zs,bH,bS⟩:=A.dg
 refine⟨by rw[aB dN];exact A.c5,aV,by rw[aB gr.symm];exact A.hd,⟨xs,by rw[aB cy];exact aG,aL.mono fun a y q=>q.mono kt⟩,by rw[aB gE.symm];exact A.aF,A.e6,fun i z w a b=>?_,A.bL,⟨zs,by rw[aB gQ.symm];exact bH,a9.keep kt _ _ (er a4.f3 _) bS⟩,A.ap,A.nl,ai⟩
 obtain⟨ys,bu,aW⟩:=A.ah i z w a b
 exact⟨ys,by rw[aB (np z (mem_of_getElem? a)).2.1];exact bu,a9.keep kt _ _ (er hD _) aW⟩
theorem br.uJ (A:br H h ce ak lo pu st pl x) {c:List Int}(ai:c.length=x.ay.length):br (upd H ak (.lst (c.map V.int))) h ce ak lo pu st pl { x with ay:=c }:=by
 obtain⟨dN,dI,eV,fN,gr,gE,gQ,i5,lK,l6,cp,cy,fo,gs,i6,np⟩:=A.ne
 have kt:d1 H (upd H ak (.lst (c.map V.int))):=rX A.hd
 obtain⟨xs,aG,aL⟩:=A.aC
 obtain⟨zs,bH,bS⟩:=A.dg
 refine⟨by rw[aB dI];exact A.c5,by rw[aB gr];exact A.ai,aV,⟨xs,by rw[aB fo];exact aG,aL.mono fun a y q=>q.mono kt⟩,by rw[aB i5.symm];exact A.aF,A.e6,fun i z w a b=>?_,A.bL,⟨zs,by rw[aB lK.symm];exact bH,a9.keep kt _ _ (er a4.f3 _) bS⟩,A.ap,A.nl,by rw[A.cd,ai]⟩
 obtain⟨ys,bu,aW⟩:=A.ah i z w a b
 exact⟨ys,by rw[aB (np z (mem_of_getElem? a)).2.2.1];exact bu,a9.keep kt _ _ (er hD _) aW⟩
theorem br.MP (A:br H h ce ak lo pu st pl x) {s:a4}{v:V}{zs:List V}(bH:H st=some (.lst zs)) (bS:a9 H (x.c9.map a4.D) zs) (aX:Rep H s.D v):br (upd H st (.lst (zs++[v]))) h ce ak lo pu st pl { x with c9:=x.c9++[s] }:=by
 obtain⟨dN,dI,eV,fN,gr,gE,gQ,i5,lK,l6,cp,cy,fo,gs,i6,np⟩:=A.ne
 have kt:d1 H (upd H st (.lst (zs++[v]))):=rX bH
 obtain⟨xs,aG,aL⟩:=A.aC
 refine⟨by rw[aB fN];exact A.c5,by rw[aB gQ];exact A.ai,by rw[aB lK];exact A.hd,⟨xs,by rw[aB i6];exact aG,aL.mono fun a y q=>q.mono kt⟩,by rw[aB l6];exact A.aF,A.e6,fun i z w a b=>?_,A.bL,⟨zs++[v],aV,?_⟩,A.ap,A.nl,A.cd⟩
 ·obtain⟨ys,bu,aW⟩:=A.ah i z w a b
  exact⟨ys,by rw[aB (np z (mem_of_getElem? a)).2.2.2.2.1];exact bu,a9.keep kt _ _ (er hD _) aW⟩
 ·show a9 _ ((x.c9++[s]).map a4.D) _
  rw[map_append]
  exact (a9.keep kt _ _ (er a4.f3 _) bS).append (.cons (Rep.keep kt _ _ (a4.f3 s) aX) .nil)
theorem br.Ep (A:br H h ce ak lo pu st pl x) {lo':Addr}{log:List bD}{xs:List V}(aG:H lo'=some (.lst xs)) (aL:hu H log xs) (aR:lo'∉own h ce ak pu st pl):br (upd H h (.bR (putK (aQ ce ak lo pu st x.room x.begun) (Sum.inr "log") (.ref lo')))) h ce ak lo' pu st pl { x with log:=log }:=by
 obtain⟨dN,dI,eV,fN,gr,gE,gQ,i5,lK,l6,cp,cy,fo,gs,i6,np⟩:=A.ne
 rw[JH]
 have kt:d1 H (upd H h (.bR (aQ ce ak lo' pu st x.room x.begun))):=fun b ys q=>by
  rw[aB (dt q A.c5 (fun z=>nomatch z))]
  exact q
 obtain⟨zs,bH,bS⟩:=A.dg
 have N8:lo'≠h:=fun e=>aR (by rw[e];exact mem_cons_self)
 refine⟨aV,by rw[aB dN.symm];exact A.ai,by rw[aB dI.symm];exact A.hd,⟨xs,by rw[aB N8];exact aG,aL.mono fun a y q=>q.mono kt⟩,by rw[aB eV.symm];exact A.aF,A.e6,fun i z w a b=>?_,A.bL,⟨zs,by rw[aB fN.symm];exact bH,a9.keep kt _ _ (er a4.f3 _) bS⟩,A.ap,aR,A.cd⟩
 obtain⟨ys,bu,aW⟩:=A.ah i z w a b
 exact⟨ys,by rw[aB (np z (mem_of_getElem? a)).1];exact bu,a9.keep kt _ _ (er hD _) aW⟩
theorem br.setB (A:br H h ce ak lo pu st pl x) {n:Nat}{b:Int}(aa:b=(n:Int)):br (upd H h (.bR (putK (aQ ce ak lo pu st x.room x.begun) (Sum.inr "begun") (.int b)))) h ce ak lo pu st pl { x with begun:=n }:=by
 subst aa
 obtain⟨dN,dI,eV,fN,gr,gE,gQ,i5,lK,l6,cp,cy,fo,gs,i6,np⟩:=A.ne
 rw[IM]
 have kt:d1 H (upd H h (.bR (aQ ce ak lo pu st x.room (n:Int)))):=fun b ys q=>by
  rw[aB (dt q A.c5 (fun z=>nomatch z))]
  exact q
 obtain⟨xs,aG,aL⟩:=A.aC
 obtain⟨zs,bH,bS⟩:=A.dg
 refine⟨aV,by rw[aB dN.symm];exact A.ai,by rw[aB dI.symm];exact A.hd,⟨xs,by rw[aB cp];exact aG,aL.mono fun a y q=>q.mono kt⟩,by rw[aB eV.symm];exact A.aF,A.e6,fun i z w a b=>?_,A.bL,⟨zs,by rw[aB fN.symm];exact bH,a9.keep kt _ _ (er a4.f3 _) bS⟩,A.ap,A.nl,A.cd⟩
 obtain⟨ys,bu,aW⟩:=A.ah i z w a b
 exact⟨ys,by rw[aB (np z (mem_of_getElem? a)).1];exact bu,a9.keep kt _ _ (er hD _) aW⟩
end
def a4.okIn (x:aq):a4→Prop
 | .line ln=>ln.ok x.ay.length
 | .dm p _=>p<x.ay.length
 | .cut _=>True
def aq.fits (x:aq) (k:Nat):Prop:=x.c9.length+k≤100000∧x.log.length+k≤100000∧∀ln∈x.log,ln.ok x.ay.length
theorem jB {n:Nat}(h:n≤200000):n<sizeLine:=by
 rw[sizeLine_eq]
 omega
theorem d1.zT {H:ao}{a:Addr}{o:fH}{kvs:List (Key × V)}(h:H a=some (.bR kvs)):d1 H (upd H a o):=fun b ys q=>by
 rw[aB (dt q h (fun z=>nomatch z))]
 exact q
section
variable {H af:ao}{h ce ak lo pu st:Addr}{pl:List (Int × Addr)}{x:aq}
theorem br.Dg (A:br H h ce ak lo pu st pl x):fl H h (.str "cellar") (some (.ref ce)):=.inl ⟨_,Sum.inr "cellar",.inl A.c5,rfl,(Uy ..).symm⟩
theorem br.l0 (A:br H h ce ak lo pu st pl x):fl H h (.str "desk") (some (.ref ak)):=.inl ⟨_,Sum.inr "desk",.inl A.c5,rfl,(Wo ..).symm⟩
theorem br.w3 (A:br H h ce ak lo pu st pl x):fl H h (.str "log") (some (.ref lo)):=.inl ⟨_,Sum.inr "log",.inl A.c5,rfl,(Xj ..).symm⟩
theorem br.lq (A:br H h ce ak lo pu st pl x):fl H h (.str "puts") (some (.ref pu)):=.inl ⟨_,Sum.inr "puts",.inl A.c5,rfl,(Wn ..).symm⟩
theorem br.Mm (A:br H h ce ak lo pu st pl x):fl H h (.str "room") (some (.int x.room)):=.inl ⟨_,Sum.inr "room",.inl A.c5,rfl,(Wm ..).symm⟩
theorem br.DU (A:br H h ce ak lo pu st pl x):fl H h (.str "begun") (some (.int x.begun)):=.inl ⟨_,Sum.inr "begun",.inl A.c5,rfl,(VD ..).symm⟩
theorem br.Kp (A:br H h ce ak lo pu st pl x):fl H h (.str "strokes") (some (.ref st)):=.inl ⟨_,Sum.inr "strokes",.inl A.c5,rfl,(TN ..).symm⟩
theorem br.M4 (A:br H h ce ak lo pu st pl x) (v:V):oG H h (.str "log") v (upd H h (.bR (putK (aQ ce ak lo pu st x.room x.begun) (Sum.inr "log") v))):=.inl ⟨_,Sum.inr "log",A.c5,rfl,(by show 7<sizeLine;rw[sizeLine_eq];decide),rfl⟩
theorem br.WX (A:br H h ce ak lo pu st pl x) (v:V):oG H h (.str "begun") v (upd H h (.bR (putK (aQ ce ak lo pu st x.room x.begun) (Sum.inr "begun") v))):=.inl ⟨_,Sum.inr "begun",A.c5,rfl,(by show 7<sizeLine;rw[sizeLine_eq];decide),rfl⟩
theorem br.o7 (h ce ak pu st:Addr) (pl:List (Int × Addr)):h∈own h ce ak pu st pl:=mem_cons_self
theorem br.tw (h ce ak pu st:Addr) (pl:List (Int × Addr)):ce∈own h ce ak pu st pl:=mem_cons_of_mem _ mem_cons_self
theorem br.eW (h ce ak pu st:Addr) (pl:List (Int × Addr)):ak∈own h ce ak pu st pl:=mem_cons_of_mem _ (mem_cons_of_mem _ mem_cons_self)
theorem br.mp (h ce ak pu st:Addr) (pl:List (Int × Addr)):pu∈own h ce ak pu st pl:=mem_cons_of_mem _ (mem_cons_of_mem _ (mem_cons_of_mem _ mem_cons_self))
theorem br.ms (h ce ak pu st:Addr) (pl:List (Int × Addr)):st∈own h ce ak pu st pl:=mem_cons_of_mem _ (mem_cons_of_mem _ (mem_cons_of_mem _ (mem_cons_of_mem _ mem_cons_self)))
theorem br.yx {pl:List (Int × Addr)}{z:Int × Addr}(hz:z∈pl) (h ce ak pu st:Addr):z.2∈own h ce ak pu st pl:=mem_cons_of_mem _ (mem_cons_of_mem _ (mem_cons_of_mem _ (mem_cons_of_mem _ (mem_cons_of_mem _ (mem_map.mpr ⟨z,hz,rfl⟩)))))
theorem br.there (A:br H h ce ak lo pu st pl x) {b:Addr}(aa:H b=none):b∉own h ce ak pu st pl:=by
 intro hm
 unfold own at hm
 simp only[mem_cons,mem_map]at hm
 obtain⟨zs,bH,_⟩:=A.dg
 rcases hm with e | e | e | e | e | ⟨z,hz,e⟩
 ·rw[e,A.c5]at aa;cases aa
 ·rw[e,A.ai]at aa;cases aa
 ·rw[e,A.hd]at aa;cases aa
 ·rw[e,A.aF]at aa;cases aa
 ·rw[e,bH]at aa;cases aa
 ·obtain⟨i,aP⟩:=getElem?_of_mem hz
  have aC:i<x.aK.length:=by
   have:=congrArg List.length A.e6
   rw[length_map,length_map]at this
   rw[←this]
   exact (List.getElem?_eq_some_iff.mp aP).1
  obtain⟨ys,q,_⟩:=A.ah i z _ aP (getElem?_eq_getElem aC)
  rw[e,aa]at q
  cases q
theorem qN:∀(pl:List (Int × Addr)) (d:Int),dF (d6 pl) (Sum.inl d)=(pl.find? fun z=>z.1 == d).map fun z=>V.ref z.2
 | [],d=>rfl
 | z::r,d=>by
  show dF ((Sum.inl z.1,V.ref z.2)::d6 r) (Sum.inl d)=_
  by_cases e:z.1=d
  ·rw[mJ (by rw[e]),List.find?_cons_of_pos (by rw[e];exact beq_self_eq_true d)]
   rfl
  ·rw[mK (fun y=>e (Sum.inl.inj y)),find?_cons_of_neg (by simpa using e)]
   exact qN r d
theorem CO {α β γ:Type} [BEq α]:∀{l:List (α × β)}{m:List (α × γ)}(d:α),l.map (·.1)=m.map (·.1)→(l.find? fun z=>z.1 == d).isSome=(m.find? fun z=>z.1 == d).isSome
 | [],[],_,_=>rfl
 | [],_::_,_,h=>by cases h
 | _::_,[],_,h=>by cases h
 | a::l,b::m,d,h=>by
  rw[map_cons,map_cons]at h
  injection h with aj az
  rw[find?_cons,find?_cons,aj]
  cases b.1 == d with
  | true=>rfl
  | false=>exact CO d az
theorem br.isOpen (A:br H h ce ak lo pu st pl x) (d:Int):(dF (d6 pl) (Sum.inl d)).isSome=x.isOpen d:=by
 rw[qN,Option.isSome_map,CO d A.e6]
 unfold aq.isOpen
 induction x.aK with
 | nil=>rfl
 | cons z r b3 =>
  rw[find?_cons,any_cons]
  cases z.1 == d with
  | true=>rfl
  | false=>exact b3
theorem br.uE (A:br H h ce ak lo pu st pl x) (d:Int):fl H pu (.int d) (dF (d6 pl) (Sum.inl d)):=.inl ⟨_,Sum.inl d,.inl A.aF,rfl,rfl⟩
theorem br.atC (A:br H h ce ak lo pu st pl x) {p:Nat}(aF:p<x.ay.length):∃c,x.cg[p]?=some c∧n2 (x.cg.map V.int) (p:Int)=some (.int c):=by
 obtain⟨z,a,b⟩:=ll (ns:=x.cg) (k:=(p:Int)) (by omega) (by rw[A.cd];omega)
 exact⟨z,by simpa using a,b⟩
theorem br.rr (A:br H h ce ak lo pu st pl x) {p:Nat}(aF:p<x.ay.length):∃c,x.ay[p]?=some c∧n2 (x.ay.map V.int) (p:Int)=some (.int c):=by
 obtain⟨z,a,b⟩:=ll (ns:=x.ay) (k:=(p:Int)) (by omega) (by omega)
 exact⟨z,by simpa using a,b⟩
end
theorem Ky {K:PySem.W.Frag}{a:Addr}{xs:List V}{bY:TE}{bz:St}{Q:cG}{H:ao}{acc:Addr}(W:Nat→List V→ao→Prop) (hz:xs.length≤1000) (start:W 0 [] (upd H acc (.lst []))) (j5:∀i ys av,W i ys av→av a=some (.lst xs)∧ys.length=i)
  (step:∀(i:Nat) x ys av (k:cG),i<xs.length→xs[i]?=some x→W i ys av→(∀jL dR,dR acc=some (.lst ys)→W (i+1) (ys++[jL]) (upd dR acc (.lst (ys++[jL])))→k jL dR)→bY (some x::bz) av k)
  (fin:∀ys av,W xs.length ys av→Q (.ref acc) av):sq (oZ K a) bY bz Q H acc:=by
 refine⟨xs.length,fun i ys av=>i≤xs.length∧W i ys av,⟨zero_le _,start⟩,?_⟩
 rintro i ys av ⟨aP,Hv⟩
 obtain⟨kP,gR⟩:=j5 i ys av Hv
 by_cases c2:i<xs.length
 ·have bh:xs[i]?=some xs[i]:=getElem?_eq_getElem c2
  refine .inr ⟨⟨xs,xs[i],aM.of kP,bh⟩,c2,?_⟩
  rintro v aS ⟨rfl,aX⟩
  have ev:v=xs[i]:=by
   have:=aX _ (aM.of kP)
   rw[bh]at this
   exact (Option.some.inj this).symm
  subst ev
  exact step i _ ys _ _ c2 bh Hv fun jL dR Hx n8=>⟨Hx,lt_of_le_of_lt (by omega:ys.length≤1000) (by decide),c2,n8⟩
 ·have e:i=xs.length:=by omega
  subst e
  exact .inl ⟨⟨xs,aM.of kP,le_refl _⟩,fin ys av Hv⟩
theorem JQ {K:PySem.W.Frag}{a:Addr}{xs zs:List V}{bY:TE}{bz:St}{Q:cG}{H:ao}{acc:Addr}(bo:H a=some (.lst xs)) (h0:H acc=none) (hz:xs.length≤1000) (aC:zs.length=xs.length)
  (he:∀(i:Nat) x z aS (k:cG),xs[i]?=some x→zs[i]?=some z→bx H aS→k z aS→bY (some x::bz) aS k)
  (q:Q (.ref acc) (upd H acc (.lst zs))):sq (oZ K a) bY bz Q H acc:=by
 have AV:a≠acc:=ct bo h0
 refine Ky (fun i ys av=>ys.length=i∧ys=zs.take i∧av=upd H acc (.lst ys)) hz ⟨rfl,rfl,rfl⟩ (fun i ys av ⟨e0,e,aL⟩=>?_) (fun i x ys av k aP bh ⟨e0,aG,aL⟩ aQ=>?_) (fun ys av ⟨e0,aG,aL⟩=>?_)
 ·subst aL
  exact⟨by rw[aB AV];exact bo,e0⟩
 ·have sX:i<zs.length:=by omega
  obtain⟨z,A2⟩:∃z,zs[i]?=some z:=⟨_,getElem?_eq_getElem sX⟩
  subst aL
  refine he i x z _ _ bh A2 (bV h0 _) (aQ _ _ aV ⟨by rw[length_append,e0];rfl,?_,by rw[r0]⟩)
  rw[take_add_one,A2,←aG]
  rfl
 ·rw[←aC,take_length]at aG
  subst aG aL
  exact q
section
variable {X:bI}{K:PySem.W.Frag}
theorem Ih (h:X.K=K):lr X (.builtin "len") (fun xs H Q=>∃p ys,xs=[.ref p]∧(aM K H p ys∨aO K H p ys)∧Q (.int ys.length) H):=by subst h;exact gU
end
section
variable {x:aq}{s:a4}{k:Nat}
theorem aq.fits.mono {j:Nat}(h:x.fits k) (cD:j≤k):x.fits j:=⟨by have:=h.1;omega,by have:=h.2.1;omega,h.2.2⟩
theorem rS:(x.dc s).ay=x.ay:=by cases s <;> rfl
theorem pB:(x.dc s).aK=x.aK:=by cases s <;> rfl
theorem IB:(x.dc s).room=x.room:=by cases s <;> rfl
theorem rQ:(x.dc s).begun=x.begun:=by cases s <;> rfl
theorem H8:(x.dc s).c9=x.c9++[s]:=by cases s <;> rfl
theorem aq.fits.dc (h:x.fits (k+1)) (ok:s.okIn x):(x.dc s).fits k:=by
 obtain⟨aj,az,ck⟩:=h
 refine⟨?_,?_,?_⟩
 ·rw[H8,length_append,length_singleton]
  omega
 ·cases s with
  | line ln =>
   show (x.log++[ln]).length+k≤_
   rw[length_append,length_singleton]
   omega
  | dm p n =>
   show x.log.length+k≤_
   omega
  | cut j =>
   show (x.log.drop j).length+k≤_
   rw[length_drop]
   omega
 ·rw[rS]
  intro l aC
  cases s with
  | line ln =>
   have FP:l∈x.log++[ln]:=aC
   rcases mem_append.mp FP with z | z
   ·exact ck l z
   ·rw[mem_singleton.mp z];exact ok
  | dm p n=>exact ck l aC
  | cut j=>exact ck l (List.mem_of_mem_drop aC)
theorem y_ {p:Nat}:(x.d0 p).ay=x.ay:=by
 unfold aq.d0
 split
 ·rfl
 ·exact rS
theorem t2 {p:Nat}:(x.d0 p).aK=x.aK:=by
 unfold aq.d0
 split
 ·rfl
 ·exact pB
theorem aq.fits.carry {p:Nat}(h:x.fits (k+1)) (aF:p<x.ay.length):(x.d0 p).fits k:=by
 unfold aq.d0
 split
 ·exact h.mono (by omega)
 ·exact h.dc aF
theorem zo:x.dW.ay=x.ay:=by
 unfold aq.dW
 split
 ·exact rS
 ·rfl
theorem t8:x.dW.aK=x.aK:=by
 unfold aq.dW
 split
 ·exact pB
 ·rfl
theorem aq.fits.dW (h:x.fits (k+1)):x.dW.fits k:=by
 unfold aq.dW
 split
 ·exact h.dc True.intro
 ·exact h.mono (by omega)
def aq.e2 (x:aq) (i:Nat):aq:=(List.range i).foldl aq.d0 x
theorem ks {i:Nat}:x.e2 (i+1)=(x.e2 i).d0 i:=by
 unfold aq.e2
 rw[List.range_succ,foldl_append]
 rfl
theorem rR:∀{i:Nat},(x.e2 i).ay=x.ay
 | 0=>rfl
 | i+1=>by rw[ks,y_];exact rR
theorem It:∀{i:Nat},(x.e2 i).aK=x.aK
 | 0=>rfl
 | i+1=>by rw[ks,t2];exact It
theorem aq.fits.e2:∀{i k:Nat},x.fits (i+k)→i≤x.ay.length→(x.e2 i).fits k
 | 0,k,h,_=>by rw[zero_add]at h;exact h
 | i+1,k,h,aP=>by
  rw[ks]
  exact (aq.fits.e2 (k:=k+1) (by rw[←Nat.add_assoc,Nat.add_right_comm];exact h) (by omega)).carry (by rw[rR];omega)
theorem ku:x.gk=(x.e2 x.ay.length).dW:=rfl
theorem SY:x.gk.ay=x.ay:=by rw[ku,zo,rR]
theorem Ic:x.gk.aK=x.aK:=by rw[ku,t8,It]
end
theorem lZ {β:Type}:∀{l:List (Int × β)},(l.map (·.1)).Nodup→∀{i:Nat}{z:Int × β},l[i]?=some z→l.find? (fun y=>y.1 == z.1)=some z
 | [],_,i,z,h=>by simp at h
 | a::l,aR,i,z,h=>by
  rw[map_cons,nodup_cons]at aR
  cases i with
  | zero =>
   have e:a=z:=Option.some.inj h
   subst e
   rw[find?_cons,beq_self_eq_true]
  | succ i =>
   have az:l[i]?=some z:=by simpa using h
   have ne:¬a.1=z.1:=fun e=>aR.1 (mem_map.mpr ⟨z,mem_of_getElem? az,e.symm⟩)
   rw[find?_cons_of_neg (by simpa using ne)]
   exact lZ aR.2 az
theorem I7 {α:Type}{f:α→Bool}:∀{l:List α}{i:Nat}{z:α},l[i]?=some z→(l.take i).find? f=none→f z=true→l.find? f=some z
 | [],i,z,h,_,_=>by simp at h
 | a::l,0,z,h,_,hf=>by
  have e:a=z:=Option.some.inj h
  subst e
  rw[List.find?_cons_of_pos hf]
 | a::l,i+1,z,h,aR,hf=>by
  rw[List.take_succ_cons,find?_cons]at aR
  cases bo:f a with
  | true=>rw[bo]at aR;cases aR
  | false =>
   rw[bo]at aR
   rw[find?_cons_of_neg (by rw[bo];decide)]
   exact I7 (by simpa using h) aR hf
theorem UC {α:Type}{f:α→Bool}{l:List α}{i:Nat}{z:α}(h:l[i]?=some z) (aR:(l.take i).find? f=none) (hf:f z=false):(l.take (i+1)).find? f=none:=by
 rw[take_add_one,h,List.find?_append,aR]
 show ([z].find? f)=none
 rw[find?_cons_of_neg (by rw[hf];decide)]
 rfl
theorem qL {α:Type}{f:α→D}{H:ao}:∀{l:List α}{ys:List V},a9 H (l.map f) ys→∀{j:Nat}{v:V},ys[j]?=some v→∃z,l[j]?=some z∧Rep H (f z) v
 | [],ys,r,j,v,h=>by
  rw[map_nil]at r
  cases r.lx
  simp at h
 | a::l,ys,r,j,v,h=>by
  rw[map_cons]at r
  obtain⟨x,t,rfl,bE,b4⟩:=r.inv
  cases j with
  | zero =>
   have e:x=v:=Option.some.inj h
   subst e
   exact⟨a,rfl,bE⟩
  | succ j =>
   obtain⟨z,du,dK⟩:=qL b4 (j:=j) (v:=v) (by simpa using h)
   exact⟨z,by simpa using du,dK⟩
section
variable {H af:ao}{h ce ak lo pu st:Addr}{pl:List (Int × Addr)}{x:aq}
theorem br.mW (A:br H h ce ak lo pu st pl x):pl.length=x.aK.length:=by
 have:=congrArg List.length A.e6
 rw[length_map,length_map]at this
 exact this
theorem br.at_ (A:br H h ce ak lo pu st pl x) {i:Nat}{z:Int × Addr}(hz:pl[i]?=some z):∃w ys,x.aK[i]?=some w∧w.1=z.1∧H z.2=some (.lst ys)∧a9 H (w.2.map pairD) ys∧fl H pu (.int z.1) (some (.ref z.2)):=by
 have aP:i<x.aK.length:=by rw[←A.mW];exact (List.getElem?_eq_some_iff.mp hz).1
 have hw:x.aK[i]?=some x.aK[i]:=getElem?_eq_getElem aP
 obtain⟨ys,bu,aW⟩:=A.ah i z _ hz hw
 have aG:(pl.map (·.1))[i]?=some z.1:=by rw[getElem?_map,hz];rfl
 have aL:(x.aK.map (·.1))[i]?=some (x.aK[i]).1:=by rw[getElem?_map,hw];rfl
 rw[A.e6,aL]at aG
 refine⟨_,ys,hw,Option.some.inj aG,bu,aW,?_⟩
 have g:=A.uE z.1
 rw[qN,lZ (by rw[A.e6];exact A.bL) hz]at g
 exact g
theorem C6 (pl:List (Int × Addr)):((d6 pl).map fun z=>eu z.1)=(pl.map (·.1)).map V.int:=by
 unfold d6
 rw[map_map,map_map]
 rfl
end
theorem La (pl:List (Int × Addr)) (d:Int):j4 (d6 pl) (Sum.inl d)=d6 (pl.filter fun z=>z.1 != d):=by
 unfold j4 d6
 induction pl with
 | nil=>rfl
 | cons z r b3 =>
  rw[map_cons,filter_cons,filter_cons,b3]
  by_cases e:z.1=d
  ·rw[e]
   simp
  ·have aG:(z.1 != d)=true:=bne_iff_ne.mpr e
   have aL:decide ((Sum.inl z.1:Key)≠Sum.inl d)=true:=decide_eq_true fun y=>e (Sum.inl.inj y)
   rw[if_pos aG]
   show (if decide ((Sum.inl z.1:Key)≠Sum.inl d)=true then _ else _)=_
   rw[if_pos aL]
   rfl
theorem B0 {R:Int × Addr→Int × List (Nat × Int)→Prop}(f:Int→Bool):∀{l:List (Int × Addr)}{m:List (Int × List (Nat × Int))},l.map (·.1)=m.map (·.1)→(∀(i:Nat) z w,l[i]?=some z→m[i]?=some w→R z w) →
  ((l.filter fun z=>f z.1).map (·.1)=(m.filter fun z=>f z.1).map (·.1))∧∀(i:Nat) z w,(l.filter fun z=>f z.1)[i]?=some z→(m.filter fun z=>f z.1)[i]?=some w→R z w
 | [],[],_,_=>⟨rfl,fun i z w h=>by simp at h⟩
 | [],_::_,h,_=>by cases h
 | _::_,[],h,_=>by cases h
 | a::l,b::m,h,aE=>by
  rw[map_cons,map_cons]at h
  injection h with aj az
  obtain⟨i8,nA⟩:=B0 (R:=R) f az fun i z w p q=>aE (i+1) z w (by simpa using p) (by simpa using q)
  rw[filter_cons,filter_cons,aj]
  cases hf:f b.1 with
  | false =>
   rw[if_neg Bool.false_ne_true,if_neg Bool.false_ne_true]
   exact⟨i8,nA⟩
  | true =>
   rw[if_pos rfl,if_pos rfl]
   refine⟨by rw[map_cons,map_cons,aj,i8],fun i z w p q=>?_⟩
   cases i with
   | zero=>exact aE 0 z w (by simpa using p) (by simpa using q)
   | succ i=>exact nA i z w (by simpa using p) (by simpa using q)
theorem pJ {h ce ak pu st b:Addr}{pl:List (Int × Addr)}:b∈own h ce ak pu st pl↔b=h∨b=ce∨b=ak∨b=pu∨b=st∨∃z∈pl,z.2=b:=by
 unfold own
 simp only[mem_cons,mem_map]
section
variable {H af:ao}{h ce ak lo pu st:Addr}{pl:List (Int × Addr)}{x:aq}
theorem br.ended (A:br H h ce ak lo pu st pl x) (d:Int):br (upd H pu (.bR (j4 (d6 pl) (Sum.inl d)))) h ce ak lo pu st (pl.filter fun z=>z.1 != d) { x with aK:=x.aK.filter fun z=>z.1 != d }:=by
 obtain⟨dN,dI,eV,fN,gr,gE,gQ,i5,lK,l6,cp,cy,fo,gs,i6,np⟩:=A.ne
 have kt:d1 H (upd H pu (.bR (j4 (d6 pl) (Sum.inl d)))):=d1.zT A.aF
 obtain⟨xs,aG,aL⟩:=A.aC
 obtain⟨zs,bH,bS⟩:=A.dg
 obtain⟨i8,nA⟩:=B0 (R:=fun z w=>z∈pl∧∃ys,H z.2=some (.lst ys)∧a9 H (w.2.map pairD) ys) (fun y=>y != d) A.e6 fun i z w p q=>⟨mem_of_getElem? p,A.ah i z w p q⟩
 have sub:(own h ce ak pu st (pl.filter fun z=>z.1 != d)).Sublist (own h ce ak pu st pl):=by
  unfold own
  exact ((((filter_sublist.map _).cons_cons _).cons_cons _).cons_cons _).cons_cons _ |>.cons_cons _
 refine⟨by rw[aB eV];exact A.c5,by rw[aB gE];exact A.ai,by rw[aB i5];exact A.hd,⟨xs,by rw[aB gs];exact aG,aL.mono fun a y q=>q.mono kt⟩,by rw[aV,La],i8,fun i z w a b=>?_,(filter_sublist.map _).nodup A.bL,⟨zs,by rw[aB l6.symm];exact bH,a9.keep kt _ _ (er a4.f3 _) bS⟩,sub.nodup A.ap,fun m=>A.nl (sub.mem m),A.cd⟩
 obtain⟨hz,ys,bu,aW⟩:=nA i z w a b
 exact⟨ys,by rw[aB (np z hz).2.2.2.1];exact bu,a9.keep kt _ _ (er hD _) aW⟩
theorem br.opened (A:br H h ce ak lo pu st pl x) {d:Int}{a:Addr}(bo:H a=some (.lst [])) (aR:a∉own h ce ak pu st pl) (aC:a≠lo) (hd:x.isOpen d=false) :
  br (upd H pu (.bR (putK (d6 pl) (Sum.inl d) (.ref a)))) h ce ak lo pu st (pl++[(d,a)]) { x with aK:=x.aK++[(d,[])] }:=by
 obtain⟨dN,dI,eV,fN,gr,gE,gQ,i5,lK,l6,cp,cy,fo,gs,i6,np⟩:=A.ne
 have kt:d1 H (upd H pu (.bR (putK (d6 pl) (Sum.inl d) (.ref a)))):=d1.zT A.aF
 obtain⟨xs,aG,aL⟩:=A.aC
 obtain⟨zs,bH,bS⟩:=A.dg
 have gO:dF (d6 pl) (Sum.inl d)=none:=by
  have:=A.isOpen d
  rw[hd]at this
  exact Option.isNone_iff_eq_none.mp (by rw[←Option.not_isSome,this];rfl)
 have cu:putK (d6 pl) (Sum.inl d) (.ref a)=d6 (pl++[(d,a)]):=by
  rw[Kd _ gO]
  unfold d6
  rw[map_append]
  rfl
 have a3:¬d∈x.aK.map (·.1):=by
  intro m
  obtain⟨z,hz,e⟩:=mem_map.mp m
  have:x.isOpen d=true:=any_eq_true.mpr ⟨z,hz,by rw[e];exact beq_self_eq_true d⟩
  rw[hd]at this
  cases this
 have kX:=A.mW
 have iS:own h ce ak pu st (pl++[(d,a)])=own h ce ak pu st pl++[a]:=by
  unfold own
  rw[map_append]
  rfl
 refine⟨by rw[aB eV];exact A.c5,by rw[aB gE];exact A.ai,by rw[aB i5];exact A.hd,⟨xs,by rw[aB gs];exact aG,aL.mono fun a y q=>q.mono kt⟩,by rw[aV,cu],by rw[map_append,map_append,A.e6];rfl,fun i z w p q=>?_,?_,⟨zs,by rw[aB l6.symm];exact bH,a9.keep kt _ _ (er a4.f3 _) bS⟩,?_,?_,A.cd⟩
 ·by_cases aP:i<pl.length
  ·rw[getElem?_append_left aP]at p
   rw[getElem?_append_left (by omega)]at q
   obtain⟨ys,bu,aW⟩:=A.ah i z w p q
   exact⟨ys,by rw[aB (np z (mem_of_getElem? p)).2.2.2.1];exact bu,a9.keep kt _ _ (er hD _) aW⟩
  ·have sX:i=pl.length:=by
    have:=(List.getElem?_eq_some_iff.mp p).1
    rw[length_append,length_singleton]at this
    omega
   subst sX
   rw[getElem?_append_right (le_refl _),sub_self]at p
   rw[kX,getElem?_append_right (le_refl _),sub_self]at q
   have gd:(d,a)=z:=Option.some.inj p
   have ko:((d,[]):Int × List (Nat × Int))=w:=Option.some.inj q
   subst gd ko
   have na:a≠pu:=fun e=>aR (by rw[e];exact br.mp ..)
   exact⟨[],by rw[aB na];exact bo,.nil⟩
 ·rw[map_append,nodup_append]
  refine⟨A.bL,by simp,fun u bq v aX=>?_⟩
  have iP:v=d:=by simpa using aX
  subst iP
  exact fun e=>a3 (e ▸ bq)
 ·rw[iS,nodup_append]
  refine⟨A.ap,by simp,fun u bq v aX=>?_⟩
  have iP:v=a:=by simpa using aX
  subst iP
  exact fun e=>aR (e ▸ bq)
 ·rw[iS]
  intro m
  rcases mem_append.mp m with z | z
  ·exact A.nl z
  ·exact aC (mem_singleton.mp z).symm
theorem LN:∀{l:List (Int × List (Nat × Int))}{d:Int}{y:Nat × Int}{j:Nat}{w:Int × List (Nat × Int)},(l.map fun z=>if z.1=d then (z.1,z.2++[y]) else z)[j]?=some w→∃ec,l[j]?=some ec∧w=if ec.1=d then (ec.1,ec.2++[y]) else ec:=fun {l d y j w} h=>by
 rw[getElem?_map]at h
 cases e:l[j]? with
 | none=>rw[e]at h;cases h
 | some ec =>
  rw[e]at h
  exact⟨ec,rfl,(Option.some.inj h).symm⟩
theorem br.c1 (A:br H h ce ak lo pu st pl x) {i:Nat}{d:Int}{a:Addr}{ys:List V}{y:Nat × Int}{v:V}(aP:pl[i]?=some (d,a)) (bo:H a=some (.lst ys)) (aX:Rep H (pairD y) v) :
  br (upd H a (.lst (ys++[v]))) h ce ak lo pu st pl { x with aK:=x.aK.map fun z=>if z.1=d then (z.1,z.2++[y]) else z }:=by
 obtain⟨dN,dI,eV,fN,gr,gE,gQ,i5,lK,l6,cp,cy,fo,gs,i6,np⟩:=A.ne
 obtain⟨k1,k2,k3,ny,k5,acA⟩:=np _ (mem_of_getElem? aP)
 have kt:d1 H (upd H a (.lst (ys++[v]))):=rX bo
 obtain⟨xs,aG,aL⟩:=A.aC
 obtain⟨zs,bH,bS⟩:=A.dg
 have gx:(x.aK.map fun z=>if z.1=d then (z.1,z.2++[y]) else z).map (·.1)=x.aK.map (·.1):=by
  rw[map_map]
  refine map_congr_left fun z _=>?_
  show (if z.1=d then (z.1,z.2++[y]) else z).1=z.1
  split <;> rfl
 have ap:=A.ap
 have E_:(pl.map (·.2)).Nodup:=by
  unfold own at ap
  simp only[nodup_cons]at ap
  exact ap.2.2.2.2.2
 refine⟨by rw[aB (Ne.symm k1)];exact A.c5,by rw[aB (Ne.symm k2)];exact A.ai,by rw[aB (Ne.symm k3)];exact A.hd,⟨xs,by rw[aB (Ne.symm acA)];exact aG,aL.mono fun a y q=>q.mono kt⟩,by rw[aB (Ne.symm ny)];exact A.aF,by rw[gx];exact A.e6,fun j z w p q=>?_,by rw[gx];exact A.bL,⟨zs,by rw[aB (Ne.symm k5)];exact bH,a9.keep kt _ _ (er a4.f3 _) bS⟩,A.ap,A.nl,A.cd⟩
 obtain⟨ec,bu,rfl⟩:=LN q
 obtain⟨us,gM,gC⟩:=A.ah j z ec p bu
 obtain⟨eG,_,t1,d_,_,_,_⟩:=A.at_ p
 rw[bu]at t1
 cases t1
 by_cases e:z=(d,a)
 ·subst e
  rw[if_pos d_]
  rw[bo]at gM
  cases gM
  refine⟨ys++[v],aV,?_⟩
  show a9 _ ((ec.2++[y]).map pairD) _
  rw[map_append]
  exact (a9.keep kt _ _ (er hD _) gC).append (.cons (Rep.keep kt _ _ (hD y) aX) .nil)
 ·have a3:¬ec.1=d:=by
   intro c3
   have f1:=lZ (l:=pl) (by rw[A.e6];exact A.bL) p
   have f2:=lZ (l:=pl) (by rw[A.e6];exact A.bL) aP
   rw[←d_,c3]at f1
   have gc:pl.find? (fun y=>y.1 == d)=some (d,a):=f2
   rw[gc]at f1
   exact e (Option.some.inj f1).symm
  have na:z.2≠a:=by
   intro c3
   obtain⟨afa,ek⟩:=List.getElem?_eq_some_iff.mp p
   have g1:(pl.map (·.2))[j]?=some a:=by rw[getElem?_map,p];exact congrArg some c3
   have g2:(pl.map (·.2))[i]?=some a:=by rw[getElem?_map,aP];rfl
   have cD:j=i:=by
    have e8:=(List.getElem?_eq_some_iff.mp g1).1
    exact (List.getElem?_inj e8 E_).mp (g1.trans g2.symm)
   subst cD
   rw[p]at aP
   exact e (Option.some.inj aP)
  rw[if_neg a3]
  exact⟨us,by rw[aB na];exact gM,a9.keep kt _ _ (er hD _) gC⟩
theorem br.qP (A:br H h ce ak lo pu st pl x) {d:Int}(hd:x.isOpen d=true):∃(i:Nat) (a:Addr) (ys:List V),pl[i]?=some (d,a)∧x.aK[i]?=some (d,x.c7 d)∧H a=some (.lst ys)∧a9 H ((x.c7 d).map pairD) ys∧fl H pu (.int d) (some (.ref a)):=by
 obtain⟨w,hw,e⟩:=any_eq_true.mp hd
 obtain⟨i,aP⟩:=getElem?_of_mem hw
 have cF:w.1=d:=beq_iff_eq.mp e
 have aC:i<pl.length:=by rw[A.mW];exact (List.getElem?_eq_some_iff.mp aP).1
 have hz:pl[i]?=some pl[i]:=getElem?_eq_getElem aC
 obtain⟨eG,ys,bu,aW,fs,ju,ml⟩:=A.at_ hz
 rw[aP]at bu
 cases bu
 have cu:x.c7 d=w.2:=by
  unfold aq.c7
  have:=lZ A.bL aP
  rw[cF]at this
  rw[this]
  rfl
 have gd:pl[i]=(d,(pl[i]).2):=by
  rw[←cF,aW]
 refine⟨i,(pl[i]).2,ys,by rw[hz];exact congrArg some gd,by rw[aP,cu,←cF],fs,by rw[cu];exact ju,?_⟩
 rw[←aW,cF]at ml
 exact ml
end
section
variable {H af:ao}{h ce ak lo pu st:Addr}{pl:List (Int × Addr)}{x:aq}
theorem br.uH (A:br H h ce ak lo pu st pl x) {b:Addr}{xs:List V}(aa:H b=some (.tup xs)):b∉own h ce ak pu st pl:=by
 intro hm
 rw[pJ]at hm
 obtain⟨zs,bH,_⟩:=A.dg
 rcases hm with e | e | e | e | e | ⟨z,hz,e⟩
 ·rw[e,A.c5]at aa;cases aa
 ·rw[e,A.ai]at aa;cases aa
 ·rw[e,A.hd]at aa;cases aa
 ·rw[e,A.aF]at aa;cases aa
 ·rw[e,bH]at aa;cases aa
 ·obtain⟨i,aP⟩:=getElem?_of_mem hz
  obtain⟨w,ys,_,_,q,_,_⟩:=A.at_ aP
  rw[e,aa]at q
  cases q
theorem br.fy (A:br H h ce ak lo pu st pl x) (o:hh (own h ce ak pu st pl) H af):d1 H af:=fun b xs q=>o b _ (A.uH q) q
end
section
variable {x:aq}{d n:Int}{p k:Nat}
theorem t7:(x.putIn d p n).ay.length=x.ay.length:=by
 show (x.ay.set p n).length=_
 rw[length_set]
theorem aq.fits.putIn (h:x.fits (k+1)) (aF:p<x.ay.length):(x.putIn d p n).fits k:=by
 have aj:(x.dc (.line (.put d p (x.ay.getD p 0) n))).fits k:=h.dc (s:=.line (.put d p (x.ay.getD p 0) n)) aF
 obtain⟨a,b,c⟩:=aj
 refine⟨a,b,fun ln aC=>?_⟩
 rw[t7]
 exact c ln aC
def aq.ee (x:aq) (d:Int) (l:List (Nat × Int)):aq:=l.foldl (fun h z=>h.putIn d z.1 z.2) x
theorem Iz {l:List (Nat × Int)}{z:Nat × Int}:x.ee d (l++[z])=(x.ee d l).putIn d z.1 z.2:=by
 unfold aq.ee
 rw[foldl_append]
 rfl
theorem mG:∀{l:List (Nat × Int)}{x:aq},(x.ee d l).aK=x.aK
 | [],_=>rfl
 | z::l,x=>by
  show ((x.putIn d z.1 z.2).ee d l).aK=_
  rw[mG]
  rfl
theorem vM:∀{l:List (Nat × Int)}{x:aq},(x.ee d l).ay.length=x.ay.length
 | [],_=>rfl
 | z::l,x=>by
  show ((x.putIn d z.1 z.2).ee d l).ay.length=_
  rw[vM,t7]
theorem vK:∀{l:List (Nat × Int)}{x:aq},(x.ee d l).begun=x.begun
 | [],_=>rfl
 | z::l,x=>by
  show ((x.putIn d z.1 z.2).ee d l).begun=_
  rw[vK]
  rfl
theorem B3:∀{l:List (Nat × Int)}{x:aq},(x.ee d l).room=x.room
 | [],_=>rfl
 | z::l,x=>by
  show ((x.putIn d z.1 z.2).ee d l).room=_
  rw[B3]
  rfl
theorem aq.fits.ee:∀{l:List (Nat × Int)}{x:aq}{k:Nat},x.fits (l.length+k)→(∀z∈l,z.1<x.ay.length)→(x.ee d l).fits k
 | [],x,k,h,_=>by
  rw[length_nil,zero_add]at h
  exact h
 | z::l,x,k,h,hz=>by
  show ((x.putIn d z.1 z.2).ee d l).fits k
  refine aq.fits.ee ?_ fun y b6=>by rw[t7];exact hz y (mem_cons_of_mem _ b6)
  refine aq.fits.putIn ?_ (hz z mem_cons_self)
  rw[length_cons]at h
  exact h.mono (by omega)
theorem g9:x.dU d=x.ee d (x.c7 d).reverse:=rfl
end
def jk (gD:List Addr) (lo lo':Addr) (H af:ao):Prop:=hh gD H af∧(lo'=lo∨lo'∈gD∨H lo'=none)
theorem hh.l {gD:List Addr}{lo:Addr}{H af:ao}(o:hh gD H af):jk gD lo lo H af:=⟨o,.inl rfl⟩
theorem jk.trans {gD:List Addr}{fC e8 gu:Addr}{H H1 av:ao}(a:jk gD fC e8 H H1) (b:jk gD e8 gu H1 av):jk gD fC gu H av:=by
 refine⟨a.1.trans b.1,?_⟩
 rcases b.2 with z | z | z
 ·rw[z];exact a.2
 ·exact .inr (.inl z)
 ·by_cases m:gu∈gD
  ·exact .inr (.inl m)
  ·cases e:H gu with
   | none=>exact .inr (.inr rfl)
   | some o=>rw[a.1 _ _ m e]at z;cases z
theorem jk.fresh {gD:List Addr}{lo lo':Addr}{H H1 af:ao}(a:hh gD H H1) (h:H1 lo'=none) (b:hh gD H af):jk gD lo lo' H af :=
 ⟨b,by
  by_cases m:lo'∈gD
  ·exact .inr (.inl m)
  ·cases e:H lo' with
   | none=>exact .inr (.inr rfl)
   | some o=>rw[a _ _ m e]at h;cases h⟩
structure aq.good (n:Nat) (x:aq):Prop where
 gg:1≤x.ay.length
 e9:x.ay.length≤100
 d3:∀z∈x.aK,0≤z.1∧z.1<x.begun∧z.2.length≤n∧∀y∈z.2,y.1<x.ay.length
 pl:x.aK.length≤n
 d5:x.c9.length≤300 * n
 jv:x.log.length≤300 * n
 ok:∀ln∈x.log,ln.ok x.ay.length
section
variable {x:aq}{n k:Nat}{m:Int}
theorem aq.good.fits (g:x.good n) (aR:n≤150) (aQ:k≤50000):x.fits k:=⟨by have:=g.d5;omega,by have:=g.jv;omega,g.ok⟩
theorem vJ {p:Nat}:(x.d0 p).begun=x.begun:=by
 unfold aq.d0
 split
 ·rfl
 ·exact rQ
theorem vO:x.dW.begun=x.begun:=by
 unfold aq.dW
 split
 ·exact rQ
 ·rfl
theorem Ie:∀{i:Nat},(x.e2 i).begun=x.begun
 | 0=>rfl
 | i+1=>by rw[ks,vJ];exact Ie
theorem SP:x.gk.begun=x.begun:=by rw[ku,vO,Ie]
theorem qK:(x.full m).1=x∨(x.full m).1=x.gk:=by
 unfold aq.full
 split
 ·exact .inl rfl
 ·exact .inr rfl
theorem oz:(x.full m).1.ay=x.ay:=by
 rcases qK (x:=x) (m:=m) with e | e
 ·rw[e]
 ·rw[e,SY]
theorem je:(x.full m).1.aK=x.aK:=by
 rcases qK (x:=x) (m:=m) with e | e
 ·rw[e]
 ·rw[e,Ic]
theorem mH:(x.full m).1.begun=x.begun:=by
 rcases qK (x:=x) (m:=m) with e | e
 ·rw[e]
 ·rw[e,SP]
theorem aq.fits.full (h:x.fits (x.ay.length+1+k)):(x.full m).1.fits k:=by
 rcases qK (x:=x) (m:=m) with e | e
 ·rw[e];exact h.mono (by omega)
 ·rw[e,ku]
  exact (aq.fits.e2 (i:=x.ay.length) (k:=k+1) (h.mono (by omega)) (le_refl _)).dW
theorem Ks:∀(l:List (Int × List (Nat × Int))) (d:Int),(l.any fun z=>z.1 == d)=true→(d,((l.find? fun z=>z.1 == d).map (·.2)).getD [])∈l
 | [],d,h=>by cases h
 | z::r,d,h=>by
  rw[find?_cons]
  cases e:z.1 == d with
  | true =>
   have cF:z.1=d:=beq_iff_eq.mp e
   subst cF
   exact mem_cons_self
  | false =>
   rw[any_cons,e,Bool.false_or]at h
   exact mem_cons_of_mem _ (Ks r d h)
theorem kv {d:Int}(h:x.isOpen d=true):(d,x.c7 d)∈x.aK:=Ks x.aK d h
theorem qG {e:bZ}{w:Str}(h:x.refusal e=some w):¬(V.str w=V.str "done"):=by
 have key:w="no dealing"∨w="no page"∨w="taken":=by
  cases e with
  | begin=>cases h
  | cut=>cases h
  | put d p n =>
   have h:(if x.isOpen d=false then some "no dealing" else if p<0∨(x.ay.length:Int)≤p then some "no page" else if x.dT p.toNat=none∨x.dT p.toNat=some d then none else some "taken":Option Str)=some w:=h
   split at h
   ·exact .inl (Option.some.inj h).symm
   split at h
   ·exact .inr (.inl (Option.some.inj h).symm)
   split at h
   ·cases h
   ·exact .inr (.inr (Option.some.inj h).symm)
  | fin d =>
   have h:(if x.isOpen d=false then some "no dealing" else none:Option Str)=some w:=h
   split at h
   ·exact .inl (Option.some.inj h).symm
   ·cases h
  | drop d =>
   have h:(if x.isOpen d=false then some "no dealing" else none:Option Str)=some w:=h
   split at h
   ·exact .inl (Option.some.inj h).symm
   ·cases h
  | look p =>
   have h:(if p<0∨(x.ay.length:Int)≤p then some "no page" else none:Option Str)=some w:=h
   split at h
   ·exact .inr (.inl (Option.some.inj h).symm)
   ·cases h
  | carry p =>
   have h:(if p<0∨(x.ay.length:Int)≤p then some "no page" else none:Option Str)=some w:=h
   split at h
   ·exact .inr (.inl (Option.some.inj h).symm)
   ·cases h
 rcases key with rfl | rfl | rfl <;> decide +kernel
theorem iv {d:Int}{e:bZ}(he:(∃p n,e=.put d p n)∨e=.fin d∨e=.drop d) (h:x.refusal e=none):x.isOpen d=true:=by
 cases aD:x.isOpen d with
 | true=>rfl
 | false =>
  rcases he with ⟨p,n,rfl⟩ | rfl | rfl <;> unfold aq.refusal at h <;> dsimp only at h <;> rw[aD,if_pos rfl]at h <;> cases h
theorem nD {p:Int}{e:bZ}(he:(∃d n,e=.put d p n)∨e=.look p∨e=.carry p) (h:x.refusal e=none):0≤p∧p<x.ay.length:=by
 have key:¬(p<0∨(x.ay.length:Int)≤p):=by
  intro ai
  rcases he with ⟨d,n,rfl⟩ | rfl | rfl
  ·have aD:x.isOpen d=true:=iv (.inl ⟨p,n,rfl⟩) h
   unfold aq.refusal at h
   dsimp only at h
   rw[aD,if_neg (fun z=>nomatch z),if_pos ai]at h
   cases h
  ·unfold aq.refusal at h
   dsimp only at h
   rw[if_pos ai]at h
   cases h
  ·unfold aq.refusal at h
   dsimp only at h
   rw[if_pos ai]at h
   cases h
 omega
end
def aq.grow (x y:aq) (k:Nat):Prop:=y.c9.length≤x.c9.length+k∧y.log.length≤x.log.length+k
section
variable {x y z:aq}{n k j:Nat}{m:Int}{d:Int}{p:Nat}{s:a4}
theorem aq.grow.refl:x.grow x k:=⟨Nat.le_add_right _ _,Nat.le_add_right _ _⟩
theorem aq.grow.trans (a:x.grow y j) (b:y.grow z k):x.grow z (j+k):=⟨by have:=a.1;have:=b.1;omega,by have:=a.2;have:=b.2;omega⟩
theorem aq.grow.mono (a:x.grow y j) (h:j≤k):x.grow y k:=⟨by have:=a.1;omega,by have:=a.2;omega⟩
theorem vN:x.grow (x.dc s) 1:=by
 refine⟨by rw[H8,length_append,length_singleton];exact le_refl _,?_⟩
 cases s with
 | line ln =>
  show (x.log++[ln]).length≤_
  rw[length_append,length_singleton]
  exact le_refl _
 | dm p n=>exact Nat.le_add_right _ _
 | cut j =>
  show (x.log.drop j).length≤_
  rw[length_drop]
  omega
theorem Cd:x.grow (x.d0 p) 1:=by
 unfold aq.d0
 split
 ·exact .refl
 ·exact vN
theorem CM:x.grow x.dW 1:=by
 unfold aq.dW
 split
 ·exact vN
 ·exact .refl
theorem Im:∀{i:Nat},x.grow (x.e2 i) i
 | 0=>.refl
 | i+1=>by
  rw[ks]
  exact Im.trans Cd
theorem zw:x.grow (x.full m).1 (x.ay.length+1):=by
 rcases qK (x:=x) (m:=m) with e | e
 ·rw[e];exact .refl
 ·rw[e,ku]
  exact Im.trans CM
theorem CL {nn:Int}:x.grow (x.putIn d p nn) 1:=by
 have h:=vN (x:=x) (s:=.line (.put d p (x.ay.getD p 0) nn))
 exact⟨h.1,h.2⟩
theorem B6:∀{l:List (Nat × Int)}{x:aq},x.grow (x.ee d l) l.length
 | [],_=>.refl
 | w::l,x=>by
  show x.grow ((x.putIn d w.1 w.2).ee d l) (l.length+1)
  exact ((CL (x:=x) (d:=d) (p:=w.1) (nn:=w.2)).trans (B6 (l:=l))).mono (by omega)
theorem aq.good.more (g:x.good n):x.good (n+1):=⟨g.gg,g.e9,fun z hz=>⟨(g.d3 z hz).1,(g.d3 z hz).2.1,le_succ_of_le (g.d3 z hz).2.2.1,(g.d3 z hz).2.2.2⟩,le_succ_of_le g.pl,by have:=g.d5;omega,by have:=g.jv;omega,g.ok⟩
theorem aq.good.step (g:x.good n) (cO:x.grow y 300) (hd:y.ay.length=x.ay.length) (aa:x.begun≤y.begun) (aF:y.aK=x.aK) (hf:y.fits 0):y.good (n+1):=by
 refine⟨by rw[hd];exact g.gg,by rw[hd];exact g.e9,fun z hz=>?_,by rw[aF];exact le_succ_of_le g.pl,by have:=g.d5;have:=cO.1;omega,by have:=g.jv;have:=cO.2;omega,hf.2.2⟩
 rw[aF]at hz
 obtain⟨a,b,c,e⟩:=g.d3 z hz
 exact⟨a,by omega,le_succ_of_le c,by rw[hd];exact e⟩
theorem aq.good.aK (g:x.good (n+1)) {ps:List (Int × List (Nat × Int))}(h:∀z∈ps,0≤z.1∧z.1<x.begun∧z.2.length≤n+1∧∀y∈z.2,y.1<x.ay.length) (aC:ps.length≤n+1):({ x with aK:=ps }:aq).good (n+1):=⟨g.gg,g.e9,h,aC,g.d5,g.jv,g.ok⟩
theorem aq.good.a5 (g:x.good n) (aR:n≤110) (e:bZ):(x.a5 e).1.good (n+1):=by
 cases dz:x.refusal e with
 | some ww =>
  have aY:x.a5 e=(x,.word ww):=by unfold aq.a5;rw[dz]
  rw[aY]
  exact g.more
 | none =>
  have aY:x.a5 e=x.gp e:=by unfold aq.a5;rw[dz]
  rw[aY]
  have aea:=g.e9
  have F:∀k,k≤50000→x.fits k:=fun k aQ=>g.fits (by omega) aQ
  cases e with
  | begin =>
   have acJ:x.began.good n:=⟨g.gg,g.e9,fun z hz=>⟨(g.d3 z hz).1,(by have:=(g.d3 z hz).2.1;show z.1<((x.begun+1:Nat):Int);omega),(g.d3 z hz).2.2⟩,g.pl,g.d5,g.jv,g.ok⟩
   have qv:x.began.fits (x.began.ay.length+1+0):=F _ (by show x.ay.length+1+0≤_;omega)
   have od:(x.began.full 1).1.good (n+1):=acJ.step (zw.mono (by show x.ay.length+1≤_;omega)) (by rw[oz]) (by rw[mH];exact le_refl _) je qv.full
   show (if (x.began.full 1).2=true then ((x.began.full 1).1,cY.word "no room") else ((x.began.full 1).1.opened,cY.num x.begun)).1.good (n+1)
   split
   ·exact od
   ·refine od.aK (fun z hz=>?_) ?_
    ·have ej:(x.began.full 1).1.begun=x.begun+1:=mH
     rcases mem_append.mp hz with hz | hz
     ·exact od.d3 z hz
     ·rw[mem_singleton.mp hz]
      refine⟨?_,?_,zero_le _,fun y b6=>by cases b6⟩
      ·show 0≤(((x.began.full 1).1.begun:Nat):Int) - 1
       rw[ej]
       omega
      ·show (((x.began.full 1).1.begun:Nat):Int) - 1<(((x.began.full 1).1.begun:Nat):Int)
       omega
    ·rw[length_append,length_singleton,je]
     have:=g.pl
     show x.aK.length+1≤_
     omega
  | put d p nn =>
   obtain⟨o6,fi⟩:=nD (.inl ⟨d,nn,rfl⟩) dz
   have j_:p.toNat<x.ay.length:=by omega
   have qv:x.fits (x.ay.length+1+1):=F _ (by omega)
   have g1:x.grow (x.full 2).1 (x.ay.length+1):=zw
   have rJ:(x.full 2).1.fits 1:=qv.full
   have od:(x.full 2).1.good (n+1):=g.step (g1.mono (by omega)) (by rw[oz]) (by rw[mH];exact le_refl _) je (rJ.mono (by omega))
   have cu:(x.full 2).1.aK=x.aK:=je
   have d8:(x.full 2).1.ay=x.ay:=oz
   show (if (x.full 2).2=true then ((x.full 2).1,cY.word "no room") else (((x.full 2).1.c1 d p.toNat).putIn d p.toNat nn,cY.word "done")).1.good (n+1)
   split
   ·exact od
   ·generalize (x.full 2).1=y at g1 rJ od cu d8
    have gt:(y.c1 d p.toNat).good (n+1):=by
     refine od.aK (fun z hz=>?_) (by rw[length_map];exact od.pl)
     obtain⟨w,hw,e⟩:=mem_map.mp hz
     have ra:=od.d3 w hw
     have aax:=g.d3 w (cu ▸ hw)
     by_cases ko:w.1=d
     ·rw[if_pos ko]at e
      subst e
      refine⟨ra.1,ra.2.1,?_,fun q bk=>?_⟩
      ·show (w.2++[_]).length≤_
       rw[length_append,length_singleton]
       have:=aax.2.2.1
       omega
      ·rcases mem_append.mp bk with bk | bk
       ·exact ra.2.2.2 q bk
       ·rw[mem_singleton.mp bk,d8]
        exact j_
     ·rw[if_neg ko]at e
      subst e
      exact ra
    have bG:((y.c1 d p.toNat).putIn d p.toNat nn).fits 0:=aq.fits.putIn (k:=0) (x:=y.c1 d p.toNat) rJ (by show p.toNat<y.ay.length;rw[d8];exact j_)
    have g2:x.grow ((y.c1 d p.toNat).putIn d p.toNat nn) (x.ay.length+1+1):=g1.trans (show y.grow ((y.c1 d p.toNat).putIn d p.toNat nn) 1 from (⟨(CL (x:=y.c1 d p.toNat) (d:=d) (p:=p.toNat) (nn:=nn)).1,(CL (x:=y.c1 d p.toNat) (d:=d) (p:=p.toNat) (nn:=nn)).2⟩:(y.c1 d p.toNat).grow _ 1))
    have ld:((y.c1 d p.toNat).putIn d p.toNat nn).ay.length=y.ay.length:=t7 (x:=y.c1 d p.toNat)
    show ((y.c1 d p.toNat).putIn d p.toNat nn).good (n+1)
    refine⟨by rw[ld];exact od.gg,by rw[ld];exact od.e9,fun z hz=>?_,gt.pl,by have:=g2.1;have:=g.d5;omega,by have:=g2.2;have:=g.jv;omega,bG.2.2⟩
    obtain⟨a,b,c,dd⟩:=gt.d3 z hz
    exact⟨a,b,c,by rw[ld];exact dd⟩
  | fin d =>
   show (x.fK d).good (n+1)
   have f1:=(F 1 (by omega)).dc (k:=0) (s:=.line (.fin d)) True.intro
   have yK:(x.dc (.line (.fin d))).good (n+1):=g.step (vN.mono (by omega)) (by rw[rS]) (by rw[rQ];exact le_refl _) pB f1
   exact yK.aK (fun z hz=>yK.d3 z ((mem_filter.mp hz).1)) (le_trans (length_filter_le _ _) (le_succ_of_le g.pl))
  | drop d =>
   show ((x.dU d).fK d).good (n+1)
   have aD:x.isOpen d=true:=iv (.inr (.inr rfl)) dz
   have RY:=g.d3 _ (kv aD)
   have kW:(x.c7 d).length≤n:=RY.2.2.1
   have hz:∀y∈(x.c7 d).reverse,y.1<x.ay.length:=fun y b6=>RY.2.2.2 y (mem_reverse.mp b6)
   have acK:(x.dU d).fits 1:=by
    rw[g9]
    exact aq.fits.ee (k:=1) (F _ (by rw[length_reverse];omega)) hz
   have acI:x.grow (x.dU d) (x.c7 d).length:=by
    have:=B6 (d:=d) (l:=(x.c7 d).reverse) (x:=x)
    rw[length_reverse]at this
    exact this
   have f1:=acK.dc (k:=0) (s:=.line (.fin d)) True.intro
   have AI:(x.dU d).aK=x.aK:=by rw[g9,mG]
   have yK:((x.dU d).dc (.line (.fin d))).good (n+1):=g.step ((acI.trans vN).mono (by omega)) (by rw[rS,g9,vM]) (by rw[rQ,g9,vK];exact le_refl _) (by rw[pB];exact AI) f1
   exact yK.aK (fun z hz=>yK.d3 z (by rw[pB];exact (mem_filter.mp hz).1)) (le_trans (length_filter_le _ _) (by rw[AI];exact le_succ_of_le g.pl))
  | look p=>exact g.more
  | carry p =>
   obtain⟨o6,fi⟩:=nD (.inr (.inr rfl)) dz
   show (x.d0 p.toNat).good (n+1)
   exact g.step (Cd.mono (by omega)) (by rw[y_]) (by rw[vJ];exact le_refl _) t2 ((F 1 (by omega)).carry (k:=0) (by omega))
  | cut =>
   show x.dW.good (n+1)
   exact g.step (CM.mono (by omega)) (by rw[zo]) (by rw[vO];exact le_refl _) t8 ((F 1 (by omega)).dW (k:=0))
end
def aq.run (x:aq):List bZ→aq
 | []=>x
 | e::r=>aq.run (x.a5 e).1 r
def aq.says (x:aq):List bZ→List cY
 | []=>[]
 | e::r=>(x.a5 e).2::aq.says (x.a5 e).1 r
theorem CG:∀(l:List bZ) (x:aq) (e:bZ),x.run (l++[e])=((x.run l).a5 e).1
 | [],_,_=>rfl
 | _::l,x,e=>CG l _ e
theorem Jq:∀(l:List bZ) (x:aq) (e:bZ),x.says (l++[e])=x.says l++[((x.run l).a5 e).2]
 | [],_,_=>rfl
 | a::l,x,e=>by
  show _::aq.says _ (l++[e])=_
  rw[Jq l]
  rfl
theorem ID:∀(l:List bZ) (x:aq),(x.says l).length=l.length
 | [],_=>rfl
 | a::l,x=>by
  show (aq.says _ l).length+1=_
  rw[ID l]
  rfl
theorem aq.good.run:∀(l:List bZ) {x:aq}{n:Nat},x.good n→n+l.length≤110→(x.run l).good (n+l.length)
 | [],_,_,g,_=>g
 | e::l,x,n,g,h=>by
  rw[length_cons]at h ⊢
  have:=aq.good.run l (g.a5 (by omega) e) (by omega)
  have acM:n+1+l.length=n+(l.length+1):=by omega
  rw[acM]at this
  exact this
theorem Tq {lo:Int}{n:Nat}{bY:TE}{bz:St}{Q:cG}{H:ao}{acc:Addr}(R:V→Prop) (h0:H acc=none) (aR:n≤1000)
  (he:∀(i:Nat) aS (k:cG),i<n→(∀v cB,R v→bx aS cB→k v cB)→bY (some (.int (lo+i))::bz) aS k)
  (q:∀(ys:List V) (af:ao),ys.length=n→(∀v∈ys,R v)→bx H af→af acc=some (.lst ys)→Q (.ref acc) af):sq (rx lo n) bY bz Q H acc:=by
 refine⟨n,fun i ys av=>i≤n∧ys.length=i∧(∀v∈ys,R v)∧bx H av∧av acc=some (.lst ys),⟨zero_le _,rfl,fun v aX=>by simp at aX,bV h0 _,aV⟩,?_⟩
 rintro i ys av ⟨aP,aC,yI,dj,de⟩
 by_cases c2:i<n
 ·refine .inr ⟨c2,c2,?_⟩
  rintro v aS ⟨rfl,rfl⟩
  refine he i _ _ c2 fun v cB aX s4=>⟨s4 _ _ de,lt_of_le_of_lt (by omega:ys.length≤1000) (by decide),c2,by rw[length_append,aC];rfl,fun w hw=>?_,(dj.trans s4).hr h0,aV⟩
  rcases mem_append.mp hw with z | z
  ·exact yI w z
  ·rw[mem_singleton.mp z];exact aX
 ·have e:i=n:=by omega
  subst e
  exact .inl ⟨le_refl _,q ys av aC yI dj de⟩
open PySem.Spec PyProof.Rows
section
variable {X:bI}
def WR:iW:=fun x y H Q=>∃a b xs,x=.ref a∧y=.ref b∧H a=some (.lst xs)∧H b=some (.lst [])∧Q (.b0 xs.isEmpty) H
theorem Ve (bq:X.A.units<cLine):hS X (compareOp .Eq) WR:=by
 intro pins s σ H x y v u Q I bN bO h
 obtain⟨a,b,xs,rfl,rfl,bo,aa,q⟩:=h
 cases bN
 cases bO
 obtain⟨its,r,p,_⟩:=I.list (aM.of bo)
 obtain⟨j6,b4,eK,_⟩:=I.list (aM.of aa)
 cases b4
 cases xs with
 | nil =>
  cases r
  exact SeqAt.RcAt.lists (e:=fun _=>true) p.isList eK.isList rfl bq (fun j aj _=>absurd aj (by simp)) X.prog X.w X.dS _ ⟨.b0 true,H,I,rfl,q⟩
 | cons x xs =>
  cases r
  exact SeqAt.RcAt.lists_lengths p.isList eK.isList (by simp) bq X.prog X.w X.dS _ ⟨.b0 false,H,I,rfl,q⟩
end
theorem TS {K:PySem.W.Frag}{a:Addr}{ns:List Int}{tt:TT}{bY:TE}{bz:St}{Q:cG}{H:ao}{acc:Addr}(p:Int→Bool) (bo:H a=some (.lst (ns.map V.int))) (h0:H acc=none) (hz:ns.length≤1000)
  (bF:∀(z:Int) aS (k:Bool→ao→Prop),k (p z) aS→tt (some (.int z)::bz) aS k)
  (he:∀(z:Int) aS (k:cG),k (.int z) aS→bY (some (.int z)::bz) aS k)
  (q:Q (.ref acc) (upd H acc (.lst ((ns.filter p).map V.int)))):z0 (oZ K a) tt bY bz Q H acc:=by
 have AV:a≠acc:=ct bo h0
 have g4:(ns.map V.int).length=ns.length:=length_map _
 refine⟨ns.length,fun i ys av=>i≤ns.length∧ys=((ns.take i).filter p).map V.int∧av=upd H acc (.lst ys),⟨zero_le _,rfl,rfl⟩,?_⟩
 rintro i ys av ⟨aP,rfl,rfl⟩
 have kP:(upd H acc (.lst (((ns.take i).filter p).map V.int))) a=some (.lst (ns.map V.int)):=by rw[aB AV];exact bo
 by_cases c2:i<ns.length
 ·have PG:ns[i]?=some ns[i]:=getElem?_eq_getElem c2
  have bh:(ns.map V.int)[i]?=some (.int ns[i]):=rT PG
  refine .inr ⟨⟨_,_,aM.of kP,bh⟩,c2,?_⟩
  rintro v aS ⟨rfl,aX⟩
  have ev:v=.int ns[i]:=by
   have:=aX _ (aM.of kP)
   rw[bh]at this
   exact (Option.some.inj this).symm
  subst ev
  have ja:(ns.take (i+1)).filter p=(ns.take i).filter p++[ns[i]].filter p:=by
   rw[take_add_one,PG,List.filter_append]
   rfl
  refine bF _ _ _ ?_
  cases aF:p ns[i] with
  | false =>
   refine dQ ⟨c2,?_,rfl⟩
   rw[ja,filter_cons,aF]
   simp
  | true =>
   refine eB (he _ _ _ ?_)
   have lf:(((ns.take i).filter p).map V.int).length≤1000:=by
    rw[length_map]
    have aj:=length_filter_le p (ns.take i)
    rw[length_take]at aj
    omega
   refine⟨aV,lt_of_le_of_lt lf (by decide),c2,?_,by rw[r0]⟩
   rw[ja,filter_cons,aF]
   simp
 ·have e:i=ns.length:=by omega
  subst e
  refine .inl ⟨⟨_,aM.of kP,by rw[g4];exact le_refl _⟩,?_⟩
  rw[take_length]
  exact q
structure uS (bQ ex:List Addr) (h h':Heap):Prop where
 keep:∀b o,h.get? b=some o→b∉bQ→b∉ex→h'.get? b=some o
 slot:∀b o,h.get? b=some o→b∈bQ→b∉ex→∃d5,h'.get? b=some { o with slots:=d5 }
theorem uS.there {bQ ex:List Addr}{h h':Heap}(x:uS bQ ex h h') {b:Addr}{o:Obj}(e:h.get? b=some o) (aa:b∉ex):∃fB,h'.get? b=some fB:=by
 by_cases z:b∈bQ
 ·obtain⟨d5,q⟩:=x.slot b o e z aa
  exact⟨_,q⟩
 ·exact⟨_,x.keep b o e z aa⟩
theorem fm.held {P:Program}{w:World}{bQ ex:List Addr}{h h':Heap}{H:ao}(k:fm P w H h) (x:uS bQ ex h h') (hf:∀b∈bQ,H b=none) (he:∀b∈ex,H b=none):fm P w H h':=fun a o e =>
 (k a o e).j5 (fun b u aa q=>by
  have aR:H b≠none:=by
   rcases aa with z | z
   ·rw[z,e];exact fun y=>nomatch y
   ·rw[z];exact fun y=>nomatch y
  exact x.keep b u q (fun z=>aR (hf b z)) fun z=>aR (he b z)) (fun _ q=>q) fun _ _ q=>q
theorem fR.obj {P:Program}{w:World}{H:ao}{h:Heap}{a:Addr}{o:fH}(x:fR P w H h a o):∃b1,h.get? a=some b1:=by
 cases o with
 | lst xs=>obtain⟨_,_,_,_,e⟩:=x;exact⟨_,e⟩
 | tup xs=>obtain⟨_,_,_,b1,e,_⟩:=x;exact⟨_,e⟩
 | bR kvs=>obtain⟨_,_,_,_,o,_,_,e,_⟩:=x;exact⟨_,e⟩
 | gS kvs=>obtain⟨_,_,_,_,o,_,_,e,_⟩:=x;exact⟨_,e⟩
 | set S n=>obtain⟨o,_,_,_,e,_⟩:=x;exact⟨_,e⟩
 | ins C dx bQ=>obtain⟨_,_,_,e,_⟩:=x;exact⟨_,e⟩
 | own y=>obtain⟨_,e⟩:=x;exact⟨_,e⟩
 | Bt bQ=>obtain⟨_,⟨_,_,_,e,_⟩,_⟩:=x;exact⟨_,e⟩
 | i2 lo aP=>obtain⟨_,_,_,e⟩:=x;exact⟨_,e⟩
 | jJ b1 u=>obtain⟨e,_⟩:=x;exact⟨_,e⟩
 | q5 ps=>exact⟨_,(show h.get? a=some _ from x)⟩
 | met f y=>exact⟨_,(show h.get? a=some _ from x)⟩
 | ext φ=>obtain⟨_,⟨_,e⟩,_⟩:=x;exact⟨_,e⟩
section
variable {X:bI}{pins:List (Addr × Obj)}{σ:St}{H:ao}{s:Shared}{h':Heap}
theorem Inv.held {ex:List Addr}{t':Nat}(I:Inv X pins σ H s) (qo:X.ex=[]) (x:uS (gY X.stack) ex s.heap h') (ir:∀b∈ex,H b=none) (h0:∀b∈ex,X.fT.heap.get? b=none) (aC:∀b∈ex,b≠X.env.locals) (ai:∀b∈ex,∀y c,X.env.cells.lookup y=some c→c≠b)
  (aF:∀b∈ex,∀p∈X.bL++pins,p.1≠b):Inv X pins σ H { s with heap:=h',toks:=t' }:=by
 have bM:fm X.prog X.w H h':=fm.held I.bM x I.v9 ir
 have nM:∀b,b≠X.env.locals→b∉X.bQ→b∉gY X.stack:=fun b aj az aa=>(mem_cons.mp (I.uv b aa)).elim aj az
 have AR:∀b o,X.fT.heap.get? b=some o→b∉ex:=fun b o e aa=>by rw[h0 b aa]at e;cases e
 have anyS:∀b o,s.heap.get? b=some o→b∉ex→∃d5,h'.get? b=some { o with slots:=d5 }:=fun b o e aa=>by
  by_cases z:b∈gY X.stack
  ·exact x.slot b o e z aa
  ·exact⟨o.slots,x.keep b o e z aa⟩
 have cellK:∀y c,X.env.cells.lookup y=some c→∀v,s.heap.IsCell c v→h'.IsCell c v:=fun y c e v ⟨o,aD,hd⟩=>by
  obtain⟨d5,q⟩:=anyS c o aD fun z=>ai c z y c e rfl
  exact⟨_,q,hd⟩
 have AS:∀b o,X.fT.heap.get? b=some o→b≠X.env.locals:=fun b o e=>ne_of_lt (lt_of_lt_of_le (lt_size e) I.ok.above)
 refine⟨I.ok,I.os,I.bare,⟨fun b o e n aa bh=>?_,fun b o e n aa bh=>?_,fun b o e n bh=>I.base.free b o e n bh,fun b o e bh=>?_,I.base.pS,I.base.oF,I.base.pT⟩,?_,fun y c e=>?_,I.free,I.jE,fun p uY=>?_,bM,I.len⟩
 ·exact x.keep b o (I.base.keep b o e n aa bh) (nM b (AS b o e) aa) (AR b o e)
 ·obtain⟨d5,aG⟩:=I.base.slot b o e n aa bh
  obtain⟨ES,aL⟩:=anyS b _ aG (AR b o e)
  exact⟨ES,aL⟩
 ·obtain⟨fB,aG⟩:=I.base.there b o e bh
  exact x.there aG (AR b o e)
 ·obtain⟨m,⟨G_,aA,cu,aD,hd,aQ,hf⟩,FP⟩:=I.loc
  obtain⟨d5,q⟩:=anyS _ G_ aD fun z=>aC _ z rfl
  refine⟨m,⟨_,aA,cu,q,hd,aQ,hf⟩,fun i y v aG aL bH=>?_⟩
  obtain⟨u,r,l⟩:=FP i y v aG aL bH
  refine⟨u,r,?_⟩
  rcases l with l | ⟨k,c,e,z⟩
  ·exact .inl l
  ·exact .inr ⟨k,c,e,cellK y c e _ z⟩
 ·obtain⟨v,z⟩:=I.cell y c e
  exact⟨v,cellK y c e v z⟩
 ·obtain⟨e,n,ne,kU,d⟩:=I.pin p uY
  exact⟨x.keep p.1 p.2 e (nM p.1 ne kU) fun z=>aF p.1 z p uY rfl,n,ne,kU,d⟩
end
def Gx (h0:Heap) (H:ao) (h:Heap) (e:Addr) (cls:Value):Prop :=
 ∃jO vs T nk aT a0,h.get? e=some jO∧jO.cls=cls∧jO.data=.fields vs∧vs[0]?=some a0∧vs[1]?=some (.ref T)∧T≠e∧h.get? T=some nk∧nk.data=.fields aT∧aT[3]?=some .none∧h0.get? e=none∧h0.get? T=none∧H e=none∧H T=none
def eb (P:Program) (w:World):m_:=fun outer H s E e aI=>∃aY cls af,e=.ref aY∧aI.os=s.os∧AllBare aI.gens∧hC (gY outer) [] H af s.heap aI.heap∧fm P w af aI.heap∧Gx s.heap af aI.heap aY cls∧E cls none af
theorem Df {h h':Heap}{bQ ex:List Addr}(st:(hideAll h (ex++bQ)).StaysIn h') (up:h.UpToSlots h') (hf:∀b∈bQ,∀o,h.get? b=some o→∀vs,o.data≠.fields vs):uS bQ ex h h' :=
 ⟨fun b o e aj az=>st b o (PySem.W.hideAll_get _ e fun z=>(mem_append.mp z).elim az aj),fun b o e aj _=>up b o e (hf b aj o e)⟩
theorem LX {P:Program}{w:World}{h0 h h':Heap}{H:ao}{bQ ex:List Addr}{e:Addr}{cls a0:Value}(G5:h'.TracedW (hideAll h (ex++bQ)) e cls a0) (d:uS bQ ex h h') (nW:∀b,h.get? b=none→h0.get? b=none) (k:fm P w H h)
  (bh:∀b∈ex,h0.get? b=none∧H b=none) (hf:∀b∈bQ,∃o,h.get? b=some o∧∀vs,o.data≠.fields vs) (he:e∈ex):Gx h0 H h' e cls:=by
 obtain⟨jO,vs,T,nk,aT,g1,⟨g2,g3⟩,jx,oj,qu,rI,oi,mA,qb⟩:=G5
 have i9:h0.get? T=none∧H T=none:=by
  cases q:h.get? T with
  | none =>
   refine⟨nW T q,?_⟩
   cases z:H T with
   | none=>rfl
   | some u =>
    obtain⟨b1,y⟩:=(k T u z).obj
    rw[q]at y
    cases y
  | some o =>
   by_cases hm:T∈ex++bQ
   ·rcases mem_append.mp hm with z | z
    ·exact bh T z
    ·by_cases RK:T∈ex
     ·exact bh T RK
     ·obtain⟨b7,c3,di⟩:=hf T z
      obtain⟨d5,n7⟩:=d.slot T b7 c3 z RK
      rw[oi]at n7
      have yl:nk={ b7 with slots:=d5 }:=Option.some.inj n7
      rw[yl]at mA
      exact absurd mA (di aT)
   ·rw[PySem.W.hideAll_get _ q hm]at qu
    cases qu
 exact⟨jO,vs,T,nk,aT,a0,g1,g2,jx,g3,oj,rI,oi,mA,qb,(bh e he).1,i9.1,(bh e he).2,i9.2⟩
section
variable {X:bI}{pins:List (Addr × Obj)}{σ:St}{H:ao}{s:Shared}
theorem Inv.wJ (I:Inv X pins σ H s):∀b∈gY X.stack,∃o,s.heap.get? b=some o∧∀vs,o.data≠.fields vs:=fun b aa=>(I.stack.mem aa).2
theorem Inv.xC (I:Inv X pins σ H s) (qo:X.ex=[]):∀b,s.heap.get? b=none→X.fT.heap.get? b=none:=fun b e=>by
 cases q:X.fT.heap.get? b with
 | none=>rfl
 | some o =>
  obtain⟨fB,y⟩:=I.base.there b o q (by rw[qo];simp)
  rw[e]at y
  cases y
theorem Inv.CN (I:Inv X pins σ H s) (ex:List Addr):s.heap.FunFrames (hideAll s.heap (ex++gY X.stack)) X.stack :=
 PySem.W.funFrames_hide I.stack fun env he a hf=>mem_append_right _ (mem_filterMap.mpr ⟨env,he,hf⟩)
theorem Inv.dA (I:Inv X pins σ H s) {b:Addr}(e:s.heap.get? b=none):b≠X.env.locals∧(∀y c,X.env.cells.lookup y=some c→c≠b)∧∀p∈X.bL++pins,p.1≠b:=by
 refine⟨fun z=>?_,fun y c q z=>?_,fun p aF z=>?_⟩
 ·obtain⟨m,⟨o,_,_,aD,_⟩,_⟩:=I.loc
  rw[←z,e]at aD
  cases aD
 ·obtain⟨v,o,aD,_⟩:=I.cell y c q
  rw[z,e]at aD
  cases aD
 ·have:=(I.pin p aF).1
  rw[z,e]at this
  cases this
end
structure BK (X:bI) (pins:List (Addr × Obj)) (σ:St) (H:ao) (s:Shared) (e:Addr) (cls:Value):Prop where
 inv:Inv X pins σ H s
 P9:Gx X.fT.heap H s.heap e cls
 dA:∀b,(b=e∨∃jO vs,s.heap.get? e=some jO∧jO.data=.fields vs∧vs[1]?=some (.ref b))→b≠X.env.locals∧(∀y c,X.env.cells.lookup y=some c→c≠b)∧∀p∈X.bL++pins,p.1≠b
section
variable {X:bI}{pins:List (Addr × Obj)}{σ:St}{H af:ao}{s aI:Shared}{E:hB}{e:Value}
theorem Inv.Lr (I:Inv X pins σ H s) (qo:X.ex=[]) (h:eb X.prog X.w X.stack H s E e aI):∃aY cls af,e=.ref aY∧BK X pins σ af aI aY cls∧E cls none af:=by
 obtain⟨aY,cls,af,rfl,os,bare,un,bM,gv,q⟩:=h
 refine⟨aY,cls,af,rfl,⟨I.z7 (ch:=[]) os un bM bare (fun b z=>absurd z (by simp)),?_,?_⟩,q⟩
 ·obtain⟨jO,vs,T,nk,aT,a0,g1,g2,g3,jx,oj,qu,rI,oi,mA,qb,s6,u5,u4⟩:=gv
  exact⟨jO,vs,T,nk,aT,a0,g1,g2,g3,jx,oj,qu,rI,oi,mA,I.xC qo _ qb,I.xC qo _ s6,u5,u4⟩
 ·obtain⟨jO,vs,T,nk,aT,a0,g1,g2,g3,jx,oj,qu,rI,oi,mA,qb,s6,u5,u4⟩:=gv
  rintro b (rfl | ⟨adG,vs',c3,di,n7⟩)
  ·exact I.dA qb
  ·rw[g1]at c3
   cases c3
   rw[g3]at di
   cases di
   rw[oj]at n7
   cases n7
   exact I.dA s6
theorem BK.W_ {P:Program}{w:World}{K:PySem.W.Frag}{mg:Str→Option Value}{base:Heap}{N:List Str}{qual:Str}{scope:Scope}{f:Addr}{cd:Value}{A:Around}{outer:List Env}{s0:Shared}{dG:ao}{E:hB}{aY:Addr}{cls:Value}
  (U:BK (f7 (eb P w) P w K mg base N qual scope f cd A outer s0 dG E) pins σ H s aY cls) (q:E cls none H):(f7 (eb P w) P w K mg base N qual scope f cd A outer s0 dG E).dS (.ref aY) s:=by
 obtain⟨I,gv,dA⟩:=U
 obtain⟨jO,vs,T,nk,aT,a0,g1,g2,g3,jx,oj,qu,rI,oi,mA,qb,s6,u5,u4⟩:=id gv
 have bh:∀b∈[aY,T],s0.heap.get? b=none∧H b=none:=fun b aa=>by
  rcases mem_cons.mp aa with z | z
  ·rw[z];exact⟨qb,u5⟩
  ·rw[mem_singleton.mp z];exact⟨s6,u4⟩
 have sH:∀b∈[aY,T],_:=fun b aa=>dA b (by
  rcases mem_cons.mp aa with z | z
  ·exact .inl z
  ·exact .inr ⟨jO,vs,g1,g3,by rw[mem_singleton.mp z];exact oj⟩)
 refine wpAny_leaving_nextW (base:=hideAll s.heap ([aY,T]++gY (f7 (eb P w) P w K mg base N qual scope f cd A outer s0 dG E).stack)) (L:=(f7 (eb P w) P w K mg base N qual scope f cd A outer s0 dG E).env.locals) (a0:=a0) (cls:=cls) I.ok.frames (I.CN _) rfl
  ⟨jO,vs,T,nk,aT,g1,⟨g2,jx⟩,g3,oj,PySem.W.hideAll_none _ (by simp),qu,rI,oi,mA⟩ (fun b o y=>PySem.W.of_hideAll _ y) (PySem.W.hideAll_none _ (by simp)) fun h' eX=>?_
 obtain⟨k1,k2,k3,ny⟩:=eX
 have d:=Df k1 ny fun b aa o aD vs=>by
  obtain⟨fB,c3,di⟩:=I.wJ b aa
  rw[aD]at c3
  cases c3
  exact di vs
 have fk:=I.held (t':=s.toks) rfl d (fun b aa=>(bh b aa).2) (fun b aa=>(bh b aa).1) (fun b aa=>(sH b aa).1) (fun b aa=>(sH b aa).2.1) fun b aa=>(sH b aa).2.2
 exact⟨aY,cls,H,rfl,fk.os,fk.bare,fk.base,fk.bM,LX k3 d (I.xC rfl) I.bM bh I.wJ (by simp),q⟩
theorem j3 {P:Program}{w:World}{K:PySem.W.Frag}{mg:Str→Option Value}{base:Heap}{N:List Str}{qual:Str}{scope:Scope}{f:Addr}{cd:Value}{A:Around}{outer:List Env}{s0:Shared}{dG:ao}{E y2:hB}(Hw:∀c H,y2 c none H→E c none H) :
  Passes (eb P w) (f7 (eb P w) P w K mg base N qual scope f cd A outer s0 dG E) y2:=fun pins σ H s e aI I h=>by
 obtain⟨aY,cls,af,rfl,U,q⟩:=I.Lr rfl h
 exact U.W_ (Hw _ _ q)
end
abbrev yW:=St→ao→(ao→Prop)→Prop
def BO (X:bI) (aA:List Expr) (n:Nat) (t:yW):Prop :=
 ∀(pins:List (Addr × Obj)) (s:Shared) (σ:St) (H:ao) (out:Str) (Q:ao→Prop),Inv X pins σ H s→out.length+n≤sizeLine→t σ H Q →
  wpAny (model X.prog X.w) X.A (joinParts out (evalEach aA X.env)) (fun v aI=>∃y bB,v=.str y bB∧∃af,Inv X pins σ af aI∧Q af) X.dS s
section
variable {X:bI}
theorem zR:BO X [] 0 (fun σ H Q=>Q H):=fun pins s σ H out Q I hz q =>
 joinParts_nil ⟨out,_,rfl,H,I.kept (h':=s.heap) (t':=s.toks+1) fun _ _ e=>e,q⟩ (by omega)
def X6 (bY:TE) (m:Nat) (t:yW):yW:=fun σ H Q=>bY σ H fun v H1=>∃y:Str,v=.str y∧y.length≤m∧t σ H1 Q
theorem mP {e:Expr}{aA:List Expr}{bY:TE}{n:Nat}{t:yW}(m:Nat) (he:b8 X e bY) (h:BO X aA n t) (aX:evalEach (e::aA) X.env=eval e X.env::evalEach aA X.env:=by rfl):BO X (e::aA) (n+m) (X6 bY m t):=by
 intro pins s σ H out Q I hz bk
 rw[aX]
 refine joinParts_cons (bT (he pins s σ H _ I bk) fun v s1 ⟨x,H1,a_,bE,y,ex,b6,q⟩=>?_)
 subst ex
 obtain⟨bB,rfl⟩:∃bB,v=.str y bB:=bE
 have aC:(out++y).length=out.length+y.length:=strLen_append out y
 exact⟨by rw[aC];omega,h pins s1 σ H1 (out++y) Q a_ (by rw[aC];omega) q⟩
def Yr (bY:TE):TE:=fun σ H Q=>bY σ H fun v H1=>∃i:Int,v=.int i∧i.natAbs.log2<1920∧Q (.str (toString i)) H1
theorem wt {e:Expr}{bY:TE}{pos:Pos}(he:b8 X e bY):b8 X (.FormattedValue e (-1) none pos) (Yr bY):=by
 intro pins s σ H Q I bk
 refine FormattedValue_plain (bT (he pins s σ H _ I bk) fun v s1 ⟨x,H1,a_,bE,i,ex,aP,q⟩=>?_)
 subst ex
 obtain⟨bB,rfl⟩:∃bB,v=.int i bB:=bE
 exact formatField_int_small aP ⟨.str (toString i),H1,a_.kept (h':=s1.heap) (t':=s1.toks+1+1) fun _ _ e=>e,⟨_,rfl⟩,q⟩
theorem zu {aG aL:Expr}{aA:List Expr}{n:Nat}{t:yW}{pos:Pos}(h:BO X (aG::aL::aA) n t) (aR:n≤sizeLine:=by decide) (aX:evalEach (aG::aL::aA) X.env=eval aG X.env::eval aL X.env::evalEach aA X.env:=by rfl) :
  b8 X (.JoinedStr (aG::aL::aA) pos) (fun σ H Q=>t σ H fun H1=>∀y:Str,Q (.str y) H1):=by
 intro pins s σ H Q I bk
 refine JoinedStr_many ?_
 rw[←aX]
 refine bT (h pins s σ H Str.empty _ I (by have:(Str.empty).length=0:=rfl;omega) bk) fun v s1 ⟨y,bB,ev,H1,a_,q⟩=>?_
 subst ev
 exact⟨.str y,H1,a_,⟨bB,rfl⟩,q y⟩
theorem t6 {i:Int}(h:i.natAbs.log2<1920):(toString i:Str).length≤1921:=by
 have e:=int_text_length_le (k:=1920) (by decide) h
 show (Str.ofString (toString i)).length≤1921
 rw[PySem.ofString_length]
 omega
theorem Jm {i:Int}(h:i.natAbs<2 ^ 1900):i.natAbs.log2<1920:=by
 by_cases z:i.natAbs=0
 ·rw[z]
  decide
 ·exact (Nat.log2_lt z).mpr (Nat.lt_trans h (Nat.pow_lt_pow_right (by decide) (by decide)))
end
theorem WY {K:PySem.W.Frag}{h:Heap}{mg:Str→Option Value}{x:Str}{C:Addr}{bmB:List Value}{newId:String}(X:K.In h) (aa:mg x=some (.ref C)) (q:excIn K C bmB newId=true):OwnCls x C bmB newId mg h:=by
 constructor
 ·exact aa
 ·unfold excIn at q
  split at q
  case h_2=>cases q
  case h_1 dd cd d5 aD =>
   split at q
   case h_2=>cases q
   case h_1 BR bm k0 k1 k2 k3 n k5 hm aJ =>
    rw[and_eq_true,and_eq_true,and_eq_true,and_eq_true,and_eq_true]at q
    obtain⟨⟨⟨⟨⟨bu,aW⟩,fs⟩,ju⟩,ml⟩,yv⟩:=q
    have aG:=beq_iff_eq.mp bu
    have aL:=beq_iff_eq.mp aW
    have hl:=beq_iff_eq.mp yv
    have bH:cd.hasDel=false:=by simpa using fs
    subst aG aL
    cases cd with
    | mk nm bs mro ns G7 hd sn sub ab col del =>
     cases d5 with
     | mk l =>
      have hm:mro=_:=hm
      have aJ:l=_:=aJ
      have bH:del=false:=bH
      subst hm aJ bH
      exact⟨bm,ns,nm,G7,bs,hd,sn,sub,ab,col,dd,k0,k1,k2,k3,k5,_,X _ _ aD,.of_isNs (PySem.W.isNs_of_in X ml),PySem.W.nsMap_none_of_in X ml hl,PySem.W.tail_of_in X ju⟩
section
variable {P:Program}{w:World}{K:PySem.W.Frag}{mg:Str→Option Value}{base:Heap}{N:List Str}{qual:Str}{scope:Scope}{f:Addr}{cd:Value}{A:Around}{outer:List Env}{s0:Shared}{dG:ao}{E:hB}{pins:List (Addr × Obj)}{σ:St}{H:ao}{s:Shared}
theorem Inv.thrown {h':Heap}{aY:Addr}{cls:Value}{args:List Value}(I:Inv (f7 (eb P w) P w K mg base N qual scope f cd A outer s0 dG E) pins σ H s) (bh:Heap.MadeExcOf s.heap h' aY cls args) (q:E cls none H) :
  (f7 (eb P w) P w K mg base N qual scope f cd A outer s0 dG E).dS (.ref aY) { s with heap:=h' }:=by
 have dA:=I.dA bh.new
 have rD:s0.heap.get? aY=none:=I.xC rfl _ bh.new
 have acp:H aY=none:=by
  cases z:H aY with
  | none=>rfl
  | some u =>
   obtain⟨b1,y⟩:=(I.bM aY u z).obj
   rw[bh.new]at y
   cases y
 have a_:=I.kept (t':=s.toks) bh.keeps
 obtain⟨t,he,_,_⟩:=bh.there
 have FD:∀b∈[aY],s0.heap.get? b=none∧H b=none:=fun b aa=>by rw[mem_singleton.mp aa];exact⟨rD,acp⟩
 refine wpAny_leaving_firstW (s:={ s with heap:=h' }) (base:=hideAll h' ([aY]++gY (f7 (eb P w) P w K mg base N qual scope f cd A outer s0 dG E).stack)) (L:=(f7 (eb P w) P w K mg base N qual scope f cd A outer s0 dG E).env.locals) (a0:=.ref t) a_.ok.frames (a_.CN _) rfl
  he (fun b o y=>PySem.W.of_hideAll _ y) (PySem.W.hideAll_none _ (by simp)) rfl rfl rfl fun az eX=>?_
 obtain⟨k1,k2,k3,ny⟩:=eX
 have d:=Df k1 ny fun b aa o aD vs=>by
  obtain⟨fB,c3,di⟩:=a_.wJ b aa
  rw[aD]at c3
  cases c3
  exact di vs
 have cK:=a_.held (t':=s.toks) rfl d (fun b aa=>(FD b aa).2) (fun b aa=>(FD b aa).1) (fun b aa=>by rw[mem_singleton.mp aa];exact dA.1) (fun b aa=>by rw[mem_singleton.mp aa];exact dA.2.1) fun b aa=>by rw[mem_singleton.mp aa];exact dA.2.2
 exact⟨aY,cls,H,rfl,cK.os,cK.bare,cK.base,cK.bM,LX k3 d (a_.xC rfl) a_.bM FD a_.wJ (by simp),q⟩
def WL (C:Addr) (E:hB) (bY:TE):fX:=fun _ σ H=>bY σ H fun _ H1=>E (.ref C) none H1
theorem zB {x:Str}{C:Addr}{bm:List Value}{newId Xf B:String}{e:Expr}{bY:TE}{np ha pos:Pos}(acG:excIn K C bm newId=true) (hm:mg x=some (.ref C)) (FB:ExcBaseFacts B newId Xf bm) (cO:lX (f7 (eb P w) P w K mg base N qual scope f cd A outer s0 dG E) x)
  (he:b8 (f7 (eb P w) P w K mg base N qual scope f cd A outer s0 dG E) e bY) (hd:(x == ("__debug__":Str))=false:=by decide)
  (aJ:starEach [e] (f7 (eb P w) P w K mg base N qual scope f cd A outer s0 dG E).env=[(false,eval e (f7 (eb P w) P w K mg base N qual scope f cd A outer s0 dG E).env)]:=by rfl) :
  jV (f7 (eb P w) P w K mg base N qual scope f cd A outer s0 dG E) (.Raise (some (.Call (.Name x np) [e] [] ha)) none pos) (WL C E bY):=by
 intro pins s σ H D I h
 have O:=WY (bmB:=bm) (newId:=newId) I.ok.mod.uW hm acG
 obtain⟨kg,ac2,nm,q,bs,hdct,sn,sub,ab,col,dd,k0,k1,k2,k3,k5,mN,abf,fV,aaO,T⟩:=O.obj
 refine wpAny_Raise_call_subT (C:=C) (nm:=nm) (q:=q) (N:=ac2) (bs:=bs) (bm:=kg) (hdct:=hdct) (sn:=sn) (sub:=sub) (ab:=ab) (col:=col) (dd:=dd) (k0:=k0) (k1:=k1) (k2:=k2) (k3:=k3) (k5:=k5)
  FB (mN:=mN) (T.hasType FB.hasBase) (I.ok.hd rfl) (by rw[aJ];rfl) aaO (zN I cO hm ⟨rfl,?_⟩ hd)
 rw[aJ]
 refine Calls.evalArgs_plain ?_
 show wpAny _ _ (spliced [(false,eval e (f7 (eb P w) P w K mg base N qual scope f cd A outer s0 dG E).env)]) _ _ s
 refine Calls.spliced_cons (bT (he pins s σ H _ I h) fun u s1 ⟨v,H1,a_,bE,bu⟩=>?_)
 refine Calls.spliced_nil ⟨rfl,by show 1≤sizeLine;decide,a_.iu _ _ abf,fV.keeps a_.iu,T.keeps a_.iu,fun h' aY bh=>?_⟩
 exact a_.thrown bh bu
end
section
variable {P:Program}{w:World}{K:PySem.W.Frag}{mg:Str→Option Value}{base:Heap}
theorem bU.nP {x qual:Str}{st:Stmt}{f:Addr}{fd:FuncData}{N ps:List Str}{k:Nat}{sp:dn}(F:bU K x qual st f fd) (S:dP N ps (cR st)) (len:∀vs H Q E,sp vs H Q E→vs.length=ps.length)
  (wH:∀(cz:Value) (A:Around) (outer:List Env) (s:Shared) (H:ao) (vs:List V) (Q:cG) (E:hB),gJ k (A.deeper (envOfC qual (cR st) s.heap.objs.size f cz))→sp vs H Q E →
   ∃t,hR (f7 (eb P w) P w K mg base N qual (cR st) f cz A outer s H E) (iY st) t∧t { dk:=fun _ af=>Q .cS af,n_:=Q } (start N vs) H):bp P w K mg base (eb P w) (k+1) f fd ps sp:=by
 obtain⟨nj,fj,eu,doc,pm,an,cz,fG,p7,rfl,lk,lD⟩:=F.ex
 exact Mn lk lD S len fun A outer s H vs Q E aE oR=>wH cz A outer s H vs Q E aE oR
end
def z9 (X:bI) (pp:List (Addr × Obj)) (cs:List (Addr × Str)) (Q:cG):bI :=
 { X with bL:=X.bL++pp,dS:=fun e aI=>∃aY C r σ H,e=.ref aY∧BK X pp σ H aI aY (.ref C)∧cs.lookup C=some r∧Q (.str r) H }
theorem Inv.Xr {X:bI}{pp:List (Addr × Obj)}{cs:List (Addr × Str)}{Q:cG}{σ:St}{H:ao}{s:Shared}(I:Inv X pp σ H s):Inv (z9 X pp cs Q) [] σ H s :=
 ⟨⟨I.ok.mod,I.ok.kind,I.ok.glob,I.ok.blt,I.ok.above,I.ok.inj,I.ok.has,I.ok.qe,I.ok.hd,I.ok.frames,I.ok.nM,I.ok.qc,I.ok.bs,I.ok.lG,I.ok.nI,I.ok.q2,I.ok.j7,I.ok.nZ⟩,I.os,I.bare,I.base,I.loc,I.cell,I.free,I.jE,fun p aF=>I.pin p (by
  have aF:p∈(X.bL++pp)++[]:=aF
  rw[append_nil]at aF
  exact aF),I.bM,I.len⟩
theorem Inv.wG {X:bI}{pp pins:List (Addr × Obj)}{cs:List (Addr × Str)}{Q:cG}{σ:St}{H:ao}{s:Shared}(I:Inv (z9 X pp cs Q) pins σ H s):Inv X pp σ H s :=
 ⟨⟨I.ok.mod,I.ok.kind,I.ok.glob,I.ok.blt,I.ok.above,I.ok.inj,I.ok.has,I.ok.qe,I.ok.hd,I.ok.frames,I.ok.nM,I.ok.qc,I.ok.bs,I.ok.lG,I.ok.nI,I.ok.q2,I.ok.j7,I.ok.nZ⟩,I.os,I.bare,I.base,I.loc,I.cell,I.free,I.jE,fun p aF=>I.pin p (mem_append_left _ aF),I.bM,I.len⟩
theorem XR {X:bI}{P:Program}{w:World}{pp:List (Addr × Obj)}{cs:List (Addr × Str)}{Q:cG}{E:hB}(h1:X.prog=P) (hw:X.w=w) (qo:X.ex=[]) (Hw:∀c H,E c none H→∃C r,c=.ref C∧cs.lookup C=some r∧Q (.str r) H):Passes (eb P w) (z9 X pp cs Q) E:=by
 subst h1 hw
 intro pins σ H s e aI I h
 have ac8:=I.wG
 obtain⟨aY,cls,af,rfl,U,q⟩:=ac8.Lr qo h
 obtain⟨C,r,rfl,aE,bk⟩:=Hw _ _ q
 exact⟨aY,C,r,σ,af,rfl,U,aE,bk⟩
inductive wh (X:bI):List ExceptHandler→List (Addr × Str)→Prop where
 | nil:wh X [] []
 | cons {x:Str} {np yr HE pos:Pos} {r:Str} {k:Nat} {C:Addr} {aJ:List ExceptHandler} {cs:List (Addr × Str)} (hm:X.mg x=some (.ref C)) (cO:lX X x) (hd:(x == ("__debug__":Str))=false) (h:wh X aJ cs) :
   wh X (.ExceptHandler (some (.Name x np)) none [.Return (some (.Constant (.str r) k HE)) yr] pos::aJ) ((C,r)::cs)
def YJ (Q:cG) (d4:fX):fX:=fun D σ H=>(∀v H,Q v H→D.n_ v H)∧d4 D σ H
section
variable {X:bI}{pp:List (Addr × Obj)}{σ:St}{H:ao}
structure Lies (X:bI) (pp:List (Addr × Obj)) (σ:St) (H:ao) (s1:Shared) (ex:List Addr) (aY:Addr) (cls a0:Value) (s:Shared):Prop where
 inv:Inv X pp σ H s
 gv:Heap.FlyingW (hideAll s1.heap (ex++gY X.stack)) X.stack aY cls a0 s.heap
 up:s1.heap.UpToSlots s.heap
 eq:∃h',s={ s1 with heap:=h' }
def markX (X:bI) (e:Value):bI:={ X with A:=X.A.mark (some e),calm:=false }
theorem Inv.Lz {e:Value}{s:Shared}(I:Inv X pp σ H s):Inv (markX X e) pp σ H s :=
 ⟨⟨I.ok.mod,I.ok.kind,I.ok.glob,I.ok.blt,I.ok.above,I.ok.inj,I.ok.has,I.ok.qe,(fun z=>absurd (show false=true from z) Bool.false_ne_true),I.ok.frames,I.ok.nM,I.ok.qc,I.ok.bs,I.ok.lG,I.ok.nI,I.ok.q2,I.ok.j7,I.ok.nZ⟩,I.os,I.bare,I.base,I.loc,I.cell,I.free,I.jE,I.pin,I.bM,I.len⟩
theorem Inv.W6 {e:Value}{s:Shared}(I:Inv (markX X e) pp σ H s) (hd:X.calm=true→X.A.handled=none):Inv X pp σ H s :=
 ⟨⟨I.ok.mod,I.ok.kind,I.ok.glob,I.ok.blt,I.ok.above,I.ok.inj,I.ok.has,I.ok.qe,hd,I.ok.frames,I.ok.nM,I.ok.qc,I.ok.bs,I.ok.lG,I.ok.nI,I.ok.q2,I.ok.j7,I.ok.nZ⟩,I.os,I.bare,I.base,I.loc,I.cell,I.free,I.jE,I.pin,I.bM,I.len⟩
theorem Tt {M:Addr}{e0:Env}{outer:List Env}{aY C:Addr}{r:Str}{a0:Value}{aj:Shared}{ex:List Addr}{Sv:Flow→Shared→Prop}{h7:Value→Shared→Prop}
  (land:∀(SK:Around) (s:Shared) (vE:Unit→Shared→Prop) (y2:Value→Shared→Prop),Lies X pp σ H aj ex aY (.ref C) a0 s→(∀aI,Lies X pp σ H aj ex aY (.ref C) a0 aI→vE () aI)→wpAny (model X.prog X.w) SK (setFlight (.ref aY) none) vE y2 s)
  (fin:∀(bz:St) (s:Shared) (u:Value),Inv X pp bz H s→RelV (.str r) u→Sv (.ret u) s) :
  ∀{aJ:List ExceptHandler} {cs:List (Addr × Str)},wh X aJ cs→(∀p∈cs,exmOne X.K (.ref C) (.ref p.1)=some (C == p.1))→cs.lookup C=some r →
   ∀s,Lies X pp σ H aj ex aY (.ref C) a0 s→wpAny (model X.prog X.w) X.A (handleBy (.ref aY) X.env aJ) Sv h7 s:=by
 intro aJ cs ai
 induction ai with
 | nil=>intro _ aC;cases aC
 | @cons x np yr HE pos f_ k BR aJ cs hm acH hd ai b3 =>
  intro bh aC s L
  refine wpAny_handleBy_cons ?_ (by intro q;cases q)
  have I:=L.inv
  refine codeAny_handlers_test ?_
  have cK:Inv (markX X (.ref aY)) pp σ H s:=I.Lz
  refine zN (X:=markX X (.ref aY)) cK acH hm ?_ hd
  have xD:PySem.W.Looks (model X.prog X.w) s.heap (typeOf (.ref aY)) (.ref C):=by
   obtain⟨b1,FL,ai⟩:=L.gv.there
   rw[←ai]
   exact (PySem.W.Looks.ld FL).andThen .now
  refine (PySem.W.exm_one (M:=model X.prog X.w) I.gW xD (bh _ mem_cons_self)).here ?_
  cases e:C == BR with
  | true =>
   refine codeAny_handlers_suite (land _ s _ _ L fun aI ac7=>?_)
   have ew:f_=r:=by
    rw[lookup_cons]at aC
    rw[show (C == BR)=true from e]at aC
    exact Option.some.inj aC
   subst ew
   have cE:Inv ((markX X (.ref aY)).mU (notedBy (model X.prog X.w) (X.A.mark (some (.ref aY))) X.env fun x iR=>cameBackBy (model X.prog X.w) X.A X.env h7 x iR)) pp σ H aI:=(ac7.inv.Lz).mU _
   refine bT (bl (dH bJ) pp aI σ H { dk:=fun _ _=>False,n_:=fun v af=>v=.str f_∧af=H } cE ⟨rfl,rfl⟩) fun gv s2 jI=>?_
   cases gv with
   | ret u =>
    obtain⟨v,hy,av,jX,bX,rfl,rfl⟩:=jI
    exact fin hy s2 u (jX.pM.W6 I.ok.hd) bX
   | next=>obtain⟨_,_,_,z⟩:=jI;exact z.elim
   | brk=>obtain⟨_,_,_,z⟩:=jI;exact z.elim
   | cont=>obtain⟨_,_,_,z⟩:=jI;exact z.elim
  | false =>
   refine b3 (fun p aF=>bh p (mem_cons_of_mem _ aF)) ?_ s L
   rw[lookup_cons,show (C == BR)=false from e]at aC
   exact aC
theorem WT {body:List Stmt}{h₀:ExceptHandler}{aJ:List ExceptHandler}{cs:List (Addr × Str)}{Q:cG}{d4:fX}{pos:Pos}{e0:Env}{outer:List Env}(qo:X.ex=[]) (i3:X.stack=X.env::X.outer) (hf:X.env.frame=some X.env.locals) (ai:wh X (h₀::aJ) cs)
  (bh:∀p∈cs,∀q∈cs,exmOne X.K (.ref p.1) (.ref q.1)=some (p.1 == q.1))
  (aa:∀pp,hR (z9 X pp cs Q) body d4):jV X (.Try body (h₀::aJ) [] [] pos) (YJ Q d4):=by
 intro pins s σ H D I h
 obtain⟨qp,h⟩:=h
 refine wpAny_Try_except (wpAny_mono (aa pins [] s σ H D I.Xr h) (fun gv s1 aj=>?_) fun e s1 aj=>?_)
 ·cases gv with
  | next =>
   obtain⟨jK,H1,a_,bu⟩:=aj
   show wpAny _ _ (execs [] X.env) _ _ s1
   exact wpAny_pure ⟨jK,H1,a_.wG,bu⟩
  | brk=>obtain⟨jK,H1,a_,bu⟩:=aj;exact⟨jK,H1,a_.wG,bu⟩
  | cont=>obtain⟨jK,H1,a_,bu⟩:=aj;exact⟨jK,H1,a_.wG,bu⟩
  | ret u=>obtain⟨v,jK,H1,a_,bX,bu⟩:=aj;exact⟨v,jK,H1,a_.wG,bX,bu⟩
 ·obtain⟨aY,C,r,jK,H1,rfl,U,aC,q⟩:=aj
  obtain⟨a_,P9,dA⟩:=U
  obtain⟨jO,vs,T,nk,aT,a0,g1,g2,g3,jx,oj,qu,rI,oi,mA,qb,s6,u5,u4⟩:=id P9
  have hex:∀b∈[aY,T],X.fT.heap.get? b=none∧H1 b=none:=fun b aa=>by
   rcases mem_cons.mp aa with z | z
   ·rw[z];exact⟨qb,u5⟩
   ·rw[mem_singleton.mp z];exact⟨s6,u4⟩
  have sH:∀b∈[aY,T],_:=fun b aa=>dA b (by
   rcases mem_cons.mp aa with z | z
   ·exact .inl z
   ·exact .inr ⟨jO,vs,g1,g3,by rw[mem_singleton.mp z];exact oj⟩)
  have aa1:Heap.FlyingW (hideAll s1.heap ([aY,T]++gY X.stack)) X.stack aY (.ref C) a0 s1.heap :=
   ⟨fun b o y=>PySem.W.of_hideAll _ y,PySem.W.hideAll_none _ (by simp),a_.CN _,jO,vs,T,nk,aT,g1,⟨g2,jx⟩,g3,oj,PySem.W.hideAll_none _ (by simp),qu,rI,oi,mA⟩
  have mk:∀s2:Shared,(∃h',s2={ s1 with heap:=h' })→(hideAll s1.heap ([aY,T]++gY X.stack)).StaysIn s2.heap→s1.heap.UpToSlots s2.heap→Inv X pins jK H1 s2:=fun s2 ⟨h',aL⟩ st up=>by
   subst aL
   have d:=Df st up fun b aa o aD vs=>by
    obtain⟨fB,c3,di⟩:=a_.wJ b aa
    rw[aD]at c3
    cases c3
    exact di vs
   exact a_.held (t':=s1.toks) qo d (fun b aa=>(hex b aa).2) (fun b aa=>(hex b aa).1) (fun b aa=>(sH b aa).1) (fun b aa=>(sH b aa).2.1) fun b aa=>(sH b aa).2.2
  have oT:X.A.frames=some (X.env::X.outer):=by rw[←i3];exact a_.ok.frames
  have Zk:Heap.FlyingW (hideAll s1.heap ([aY,T]++gY X.stack)) (X.env::X.outer) aY (.ref C) a0 s1.heap:=by rw[←i3];exact aa1
  refine wpAny_looks_onW (L:=X.env.locals) oT hf Zk fun dv Yc NO=>?_
  refine wpAny_landsW (s:={ s1 with heap:=dv }) Yc fun gF Qa NN=>?_
  have Zp:Heap.FlyingW (hideAll s1.heap ([aY,T]++gY X.stack)) X.stack aY (.ref C) a0 gF:=by
   have z:=Qa
   rw[←i3]at z
   exact z
  have ac6:Lies X pins jK H1 s1 [aY,T] aY (.ref C) a0 { s1 with heap:=gF }:=⟨mk _ ⟨_,rfl⟩ Qa.1 (NO.trans NN),Zp,NO.trans NN,⟨_,rfl⟩⟩
  refine Tt (M:=aY) (e0:=X.env) (outer:=X.outer) (r:=r) (fun SK s2 vE y2 L abc=>?_) (fun bz s2 u cK bX=>⟨.str r,bz,H1,cK,bX,qp _ _ q⟩) ai (fun p aF=>?_) aC _ ac6
  ·refine lands_againW L.gv fun R9 P_ NL=>abc _ ?_
   obtain⟨h',rfl⟩:=L.eq
   exact⟨mk _ ⟨R9,rfl⟩ P_.1 (L.up.trans NL),P_,L.up.trans NL,⟨R9,rfl⟩⟩
  ·obtain⟨f_,hm⟩:∃f_,(C,f_)∈cs:=by
    refine⟨r,?_⟩
    have:∀{l:List (Addr × Str)},l.lookup C=some r→(C,r)∈l:=by
     intro l
     induction l with
     | nil=>intro z;cases z
     | cons a t b3 =>
      intro z
      rw[lookup_cons]at z
      cases y:C == a.1 with
      | true =>
       rw[y]at z
       have du:a.2=r:=Option.some.inj z
       have dK:C=a.1:=beq_iff_eq.mp y
       rw[←du,dK]
       exact mem_cons_self
      | false =>
       rw[y]at z
       exact mem_cons_of_mem _ (b3 z)
    exact this aC
   exact bh _ hm p aF
end
theorem J0 {H:ao}{a b:Addr}{o u:fH}(h:a≠b):upd (upd H a o) b u=upd (upd H b u) a o:=by
 funext c
 by_cases aj:c=b
 ·subst aj
  rw[aV,aB (Ne.symm h),aV]
 ·by_cases az:c=a
  ·subst az
   rw[aB aj,aV,aV]
  ·rw[aB aj,aB az,aB az,aB aj]
def hf (c ak st pu bB:Addr) (room begun bound:Int):List (Str × V) :=
 [("cellar",.ref c),("desk",.ref ak),("room",.int room),("strokes",.ref st),("begins",.int begun),("puts",.ref pu),("takers",.ref bB),("bound",.int bound)]
section
variable (c ak st pu bB:Addr) (room begun bound tK:Int)
theorem vR:(hf c ak st pu bB room begun bound).lookup ("cellar":Str)=some (.ref c):=by kernel_rfl
theorem pK:(hf c ak st pu bB room begun bound).lookup ("desk":Str)=some (.ref ak):=by kernel_rfl
theorem Wq:(hf c ak st pu bB room begun bound).lookup ("room":Str)=some (.int room):=by kernel_rfl
theorem Cc:(hf c ak st pu bB room begun bound).lookup ("strokes":Str)=some (.ref st):=by kernel_rfl
theorem JJ:(hf c ak st pu bB room begun bound).lookup ("begins":Str)=some (.int begun):=by kernel_rfl
theorem r5:(hf c ak st pu bB room begun bound).lookup ("puts":Str)=some (.ref pu):=by kernel_rfl
theorem JI:(hf c ak st pu bB room begun bound).lookup ("takers":Str)=some (.ref bB):=by kernel_rfl
theorem zH:(hf c ak st pu bB room begun bound).lookup ("bound":Str)=some (.int bound):=by kernel_rfl
theorem S9:d9 "begins" (.int tK) (hf c ak st pu bB room begun bound)=hf c ak st pu bB room tK bound:=by kernel_rfl
theorem B5:d9 "bound" (.int tK) (hf c ak st pu bB room begun bound)=hf c ak st pu bB room begun tK:=by kernel_rfl
end
structure eh where
 h:Addr
 c:Addr
 ce:Addr
 ak:Addr
 pu:Addr
 st:Addr
 bB:Addr
structure wL (x:aq) (aT:List (Key × V)):Prop where
 a:∀z∈x.aK,∀y∈z.2,dF aT (Sum.inl ((y.1:Nat):Int))=some (.int z.1)
 b:∀k v,dF aT k=some v→∃(p:Nat) (d:Int),k=Sum.inl ((p:Nat):Int)∧v=.int d∧0≤d∧d<x.begun∧(x.isOpen d=true→∃z∈x.aK,z.1=d∧∃y∈z.2,y.1=p)
abbrev eh.own (a:eh) (pl:List (Int × Addr)):List Addr:=L2.own a.h a.ce a.ak a.pu a.st pl
def e5 (H:ao) (a:eh) (lo:Addr) (x:aq):ao:=upd (upd H a.c (.own 0)) a.h (.bR (aQ a.ce a.ak lo a.pu a.st x.room x.begun))
theorem f5 {H:ao}{a:eh}{lo:Addr}{x:aq}{b:Addr}(aj:b≠a.h) (az:b≠a.c):e5 H a lo x b=H b:=by
 unfold e5
 rw[aB aj,aB az]
theorem sr {H:ao}{a:eh}{lo:Addr}{x:aq}:e5 H a lo x a.h=some (.bR (aQ a.ce a.ak lo a.pu a.st x.room x.begun)):=aV
theorem su {H:ao}{a:eh}{lo:Addr}{x:aq}(h:a.c≠a.h):e5 H a lo x a.c=some (.own 0):=by
 unfold e5
 rw[aB h,aV]
theorem qQ {H:ao}{a:eh}{lo:Addr}{x:aq}{b:Addr}{o:fH}(aj:b≠a.h) (az:b≠a.c):upd (e5 H a lo x) b o=e5 (upd H b o) a lo x:=by
 unfold e5
 rw[J0 aj.symm,J0 az.symm]
theorem zI {H:ao}{a:eh}{lo:Addr}{x:aq}{o:fH}:e5 (upd H a.h o) a lo x=e5 H a lo x:=by
 funext b
 by_cases z:b=a.h
 ·subst z
  rw[sr,sr]
 ·by_cases y:b=a.c
  ·subst y
   rw[su z,su z]
  ·rw[f5 z y,f5 z y,aB z]
structure cT (bf aH:Addr) (H:ao) (a:eh) (lo:Addr) (pl:List (Int × Addr)) (x:aq) (aT:List (Key × V)):Prop where
 dM:br (e5 H a lo x) a.h a.ce a.ak lo a.pu a.st pl x
 b1:∃dx,H a.h=some (.ins aH dx (hf a.c a.ak a.st a.pu a.bB x.room x.begun x.bound))
 co:∃dy,H a.c=some (.ins bf dy (l1 a.ce lo))
 kt:H a.bB=some (.bR aT)
 gP:a.c∉a.own pl
 nl:a.c≠lo
 nq:a.bB≠a.pu
 jt:wL x aT
section
variable {bf aH:Addr}{H af:ao}{a:eh}{lo lo':Addr}{pl:List (Int × Addr)}{x:aq}{aT:List (Key × V)}
theorem cT.ep (A:cT bf aH H a lo pl x aT):a.c≠a.h∧a.c≠a.ce∧a.c≠a.ak∧a.c≠a.pu∧a.c≠a.st∧∀z∈pl,z.2≠a.c:=by
 have h:=fun b (aa:b∈a.own pl) (e:a.c=b)=>A.gP (by rw[e];exact aa)
 exact⟨h _ (br.o7 ..),h _ (br.tw ..),h _ (br.eW ..),h _ (br.mp ..),h _ (br.ms ..),fun z hz e=>h _ (br.yx hz ..) e.symm⟩
theorem cT.aR (A:cT bf aH H a lo pl x aT):a.ce≠a.h∧a.ak≠a.h∧a.pu≠a.h∧a.st≠a.h∧lo≠a.h∧∀z∈pl,z.2≠a.h:=by
 obtain⟨dN,dI,eV,fN,_,_,_,_,_,_,gr,_,_,_,_,gE⟩:=A.dM.ne
 exact⟨dN.symm,dI.symm,eV.symm,fN.symm,gr,fun z hz=>(gE z hz).1⟩
theorem cT.ai (A:cT bf aH H a lo pl x aT):H a.ce=some (.lst (x.cg.map V.int)):=by
 rw[←f5 (H:=H) (lo:=lo) (x:=x) A.aR.1 A.ep.2.1.symm]
 exact A.dM.ai
theorem cT.hd (A:cT bf aH H a lo pl x aT):H a.ak=some (.lst (x.ay.map V.int)):=by
 rw[←f5 (H:=H) (lo:=lo) (x:=x) A.aR.2.1 A.ep.2.2.1.symm]
 exact A.dM.hd
theorem cT.aF (A:cT bf aH H a lo pl x aT):H a.pu=some (.bR (d6 pl)):=by
 rw[←f5 (H:=H) (lo:=lo) (x:=x) A.aR.2.2.1 A.ep.2.2.2.1.symm]
 exact A.dM.aF
theorem cT.Ed (A:cT bf aH H a lo pl x aT) {lo':Addr}{o1:aq}:d1 (e5 H a lo' o1) H:=fun b xs q=>by
 by_cases z:b=a.h
 ·subst z
  rw[sr]at q
  cases q
 ·by_cases y:b=a.c
  ·subst y
   rw[su z]at q
   cases q
  ·rwa [f5 z y]at q
theorem cT.toV (A:cT bf aH H a lo pl x aT) {lo':Addr}{o1:aq}:d1 H (e5 H a lo' o1):=fun b xs q=>by
 obtain⟨dx,aG⟩:=A.b1
 obtain⟨dy,aL⟩:=A.co
 rw[f5 (dt q aG (fun z=>nomatch z)) (dt q aL (fun z=>nomatch z))]
 exact q
theorem cT.aC (A:cT bf aH H a lo pl x aT):∃xs,H lo=some (.lst xs)∧hu H x.log xs:=by
 obtain⟨xs,aG,aL⟩:=A.dM.aC
 rw[f5 A.aR.2.2.2.2.1 A.nl.symm]at aG
 exact⟨xs,aG,aL.mono fun b y q=>q.mono A.Ed⟩
theorem cT.dg (A:cT bf aH H a lo pl x aT):∃zs,H a.st=some (.lst zs)∧a9 H (x.c9.map a4.D) zs:=by
 obtain⟨zs,aG,aL⟩:=A.dM.dg
 rw[f5 A.aR.2.2.2.1 A.ep.2.2.2.2.1.symm]at aG
 exact⟨zs,aG,a9.keep A.Ed _ _ (er a4.f3 _) aL⟩
theorem CZ {K:ao}(ai:a.c≠a.h) (h:∀b o,b≠a.h→b≠a.c→K b=some o→af b=some o) (aG:K a.h=some (.bR (aQ a.ce a.ak lo a.pu a.st x.room x.begun))) (aL:∀o,K a.c=some o→o=.own 0):bx K (e5 af a lo x):=fun b o q=>by
 by_cases z:b=a.h
 ·subst z
  rw[aG]at q
  rw[sr]
  exact q
 ·by_cases y:b=a.c
  ·subst y
   rw[su ai,aL o q]
  ·rw[f5 z y]
   exact h b o z y q
theorem cT.same (A:cT bf aH H a lo pl x aT) (s:bx H af):cT bf aH af a lo pl x aT:=by
 obtain⟨dx,aG⟩:=A.b1
 obtain⟨dy,aL⟩:=A.co
 refine⟨A.dM.same (CZ A.ep.1 (fun b o dN dI q=>s _ _ (by rwa [f5 dN dI]at q)) sr fun o q=>?_),⟨dx,s _ _ aG⟩,⟨dy,s _ _ aL⟩,s _ _ A.kt,A.gP,A.nl,A.nq,A.jt⟩
 rw[su A.ep.1]at q
 exact (Option.some.inj q).symm
theorem br.setG {h ce ak pu st:Addr}(A:br H h ce ak lo pu st pl x) {log:List bD}{xs ys:List V}(aG:H lo=some (.lst xs)) (aL:hu H log ys):br (upd H lo (.lst ys)) h ce ak lo pu st pl { x with log:=log }:=by
 obtain⟨dN,dI,eV,fN,gr,gE,gQ,i5,lK,l6,cp,cy,fo,gs,i6,np⟩:=A.ne
 have kt:d1 H (upd H lo (.lst ys)):=fun b us q=>by
  rw[aB (dt q aG (fun z=>nomatch z))]
  exact q
 obtain⟨zs,bH,bS⟩:=A.dg
 refine⟨by rw[aB cp.symm];exact A.c5,by rw[aB cy.symm];exact A.ai,by rw[aB fo.symm];exact A.hd,⟨ys,aV,aL.mono fun b y q=>q.mono kt⟩,by rw[aB gs.symm];exact A.aF,A.e6,fun i z w p q=>?_,A.bL,⟨zs,by rw[aB i6.symm];exact bH,a9.keep kt _ _ (er a4.f3 _) bS⟩,A.ap,A.nl,A.cd⟩
 obtain⟨us,bu,aW⟩:=A.ah i z w p q
 exact⟨us,by rw[aB (np z (mem_of_getElem? p)).2.2.2.2.2];exact bu,a9.keep kt _ _ (er hD _) aW⟩
def pU (v:V):a4→dY
 | .line _=>.line v
 | .dm p n=>.dm p n
 | .cut k=>.cut (k:Nat)
theorem T7 {s:a4}{v:V}(h:Rep H s.D v):∃y,pZ H (pU y s) v∧∀ln,s=.line ln→kF H ln y:=by
 cases s with
 | line ln =>
  obtain⟨c,x1,x2,rfl,ai,aj,az⟩:=gj h
  cases aj.str_inv
  exact⟨x2,⟨c,rfl,ai⟩,fun l e=>by cases e;exact kF.Eb az⟩
 | dm p n =>
  obtain⟨c,x1,x2,acj,rfl,ai,aj,az,ck⟩:=zA h
  cases aj.str_inv
  cases az.int_inv
  cases ck.int_inv
  exact⟨.cS,⟨c,rfl,ai⟩,fun l e=>by cases e⟩
 | cut k =>
  obtain⟨c,x1,x2,rfl,ai,aj,az⟩:=gj h
  cases aj.str_inv
  cases az.int_inv
  exact⟨.cS,⟨c,rfl,ai⟩,fun l e=>by cases e⟩
theorem wL.dc (t:wL x aT) (s:a4):wL (x.dc s) aT:=by
 refine⟨fun z hz=>t.a z (by rwa [pB]at hz),fun k v e=>?_⟩
 obtain⟨p,d,aG,aL,bH,bS,ek⟩:=t.b k v e
 refine⟨p,d,aG,aL,bH,by rw[rQ];exact bS,fun aD=>?_⟩
 rw[pB]
 refine ek ?_
 unfold aq.isOpen at aD ⊢
 rwa [pB]at aD
theorem S2 (s:a4):(x.dc s).bound=x.bound:=by
 unfold aq.bound
 rw[pB]
theorem T6 (s:a4):x.dc s={ x with log:=(x.dc s).log,cg:=(x.dc s).cg,c9:=x.c9++[s] }:=by cases s <;> rfl
theorem Ud (s:a4) (y:V):dY.bP (x.cg.map V.int) (pU y s)=(x.dc s).cg.map V.int:=by
 cases s with
 | line ln=>rfl
 | dm p n=>exact pC ..
 | cut k=>rfl
theorem Us {s:a4}{y:V}{xs:List V}(b6:∀ln,s=.line ln→kF H ln y) (e:hu H x.log xs):hu H (x.dc s).log (dY.cA xs (pU y s)):=by
 cases s with
 | line ln=>exact fc.snoc e (b6 ln rfl)
 | dm p n=>exact e
 | cut k =>
  show hu H (x.log.drop k) (j8 xs (some ((k:Nat):Int)) none)
  rw[uq]
  exact e.drop k
theorem cT.VR (A:cT bf aH H a lo pl x aT) {s:a4}{v y:V}{xs zs:List V}(aJ:s.okIn x) (aX:Rep H s.D v) (b6:∀ln,s=.line ln→kF H ln y) (aG:H lo=some (.lst xs)) (aL:hu H x.log xs) (bH:H a.st=some (.lst zs)) (bS:a9 H (x.c9.map a4.D) zs)
  (pA:wD bf af a.c a.ce lo' (dY.bP (x.cg.map V.int) (pU y s)) (dY.cA xs (pU y s))) (nV:lo'=lo∨H lo'=none) (bw:∀b o,H b=some o→b≠a.c→b≠a.ce→(b≠lo∨lo'≠lo)→af b=some o) :
  cT bf aH (upd af a.st (.lst (zs++[v]))) a lo' pl (x.dc s) aT:=by
 obtain⟨dN,dI,eV,fN,gr,gE,gQ,i5,lK,l6,cp,cy,fo,gs,i6,np⟩:=A.dM.ne
 obtain⟨cH,dh,e_,hn,oo,afh⟩:=A.ep
 obtain⟨dx,cc⟩:=A.b1
 obtain⟨⟨dy,b7⟩,dC,hW,e7⟩:=pA
 rw[Ud]at dC
 have cA:=Us b6 aL
 have Fx:hu (e5 H a lo x) (x.dc s).log (dY.cA xs (pU y s)):=cA.mono fun b z q=>q.mono A.toV
 have cl:(x.dc s).cg.length=x.ay.length:=by
  rw[←A.dM.cd]
  cases s with
  | line ln=>rfl
  | dm p n=>exact length_set ..
  | cut k=>rfl
 generalize dY.cA xs (pU y s)=ys at hW cA Fx
 have iz:∀b,H b=none→b≠a.h∧b≠a.c:=fun b aa=>by
  obtain⟨HC,q⟩:=A.co
  exact⟨fun z=>by rw[z,cc]at aa;(cases aa),fun z=>by rw[z,q]at aa;(cases aa)⟩
 have key:∃HU,br HU a.h a.ce a.ak lo' a.pu a.st pl { x with log:=(x.dc s).log,cg:=(x.dc s).cg }∧bx HU (e5 af a lo' { x with log:=(x.dc s).log,cg:=(x.dc s).cg }):=by
  rcases nV with z | z
  ·subst z
   have B:=(A.dM.setG (by rw[f5 cp A.nl.symm];exact aG) Fx).setC (c:=(x.dc s).cg) cl
   refine⟨_,B,CZ cH (fun b o eY gh q=>?_) ?_ fun o q=>?_⟩
   ·by_cases fh:b=a.ce
    ·subst fh
     rw[aV]at q
     rw[dC]
     exact q
    ·rw[aB fh]at q
     by_cases eG:b=lo'
     ·subst eG
      rw[aV]at q
      rw[hW]
      exact q
     ·rw[aB eG,f5 eY gh]at q
      exact bw b o q gh fh (.inl eG)
   ·rw[aB dN,aB cp.symm]
    exact sr
   ·rw[aB dh,aB A.nl,su cH]at q
    exact (Option.some.inj q).symm
  ·obtain⟨f1,f2⟩:=iz lo' z
   have RL:e5 H a lo x lo'=none:=by rw[f5 f1 f2];exact z
   have n9:=bV RL (.lst ys)
   have B:=((A.dM.same n9).Ep (lo':=lo') aV (Fx.mono fun b w q=>q.mono n9.fy) (A.dM.there RL)).setC (c:=(x.dc s).cg) cl
   have AP:lo'≠a.ce:=fun w=>by rw[w,A.ai]at z;cases z
   have N8:lo'≠a.h:=f1
   refine⟨_,B,CZ cH (fun b o eY gh q=>?_) ?_ fun o q=>?_⟩
   ·by_cases fh:b=a.ce
    ·subst fh
     rw[aV]at q
     rw[dC]
     exact q
    ·rw[aB fh,aB eY]at q
     by_cases eG:b=lo'
     ·subst eG
      rw[aV]at q
      rw[hW]
      exact q
     ·rw[aB eG,f5 eY gh]at q
      exact bw b o q gh fh (.inr fun jq=>by rw[jq,aG]at z;(cases z))
   ·rw[aB dN,aV,JH]
   ·rw[aB dh,aB cH,aB f2.symm,su cH]at q
    exact (Option.some.inj q).symm
 obtain⟨HU,adl,s1⟩:=key
 have lY:=adl.same s1
 have xq:a.st≠lo:=i6.symm
 have s9:af a.st=some (.lst zs):=bw _ _ bH oo.symm gQ.symm (.inl xq)
 have kt:d1 H af:=fun b us q=>by
  obtain⟨HC,w⟩:=A.co
  exact bw b _ q (dt q w (fun z=>nomatch z)) (dt q A.ai (fun z=>nomatch z)) (.inl (dt q aG (fun z=>nomatch z)))
 have cN:d1 af (e5 af a lo' { x with log:=(x.dc s).log,cg:=(x.dc s).cg }):=fun b us q=>by
  have E2:af a.h=_:=bw _ _ cc cH.symm dN (.inl cp.symm)
  rw[f5 (dt q E2 (fun z=>nomatch z)) (dt q b7 (fun z=>nomatch z))]
  exact q
 have SJ:=lY.MP (v:=v) (s:=s) (by rw[f5 fN.symm oo.symm];exact s9) (a9.keep cN _ _ (er a4.f3 _) (a9.keep kt _ _ (er a4.f3 _) bS)) (Rep.keep cN _ _ (a4.f3 _) (Rep.keep kt _ _ (a4.f3 _) aX))
 rw[qQ fN.symm oo.symm]at SJ
 have aA:x.dc s={ x with log:=(x.dc s).log,cg:=(x.dc s).cg,c9:=x.c9++[s] }:=T6 s
 have ZU:a.bB≠a.st:=dt A.kt bH (fun z=>nomatch z)
 refine⟨?_,⟨dx,?_⟩,⟨dy,by rw[aB oo];exact b7⟩,?_,A.gP,?_,A.nq,A.jt.dc s⟩
 ·have ev:e5 (upd af a.st (.lst (zs++[v]))) a lo' (x.dc s)=e5 (upd af a.st (.lst (zs++[v]))) a lo' { x with log:=(x.dc s).log,cg:=(x.dc s).cg }:=by
   unfold e5
   rw[IB,rQ]
  rw[ev,aA]
  exact SJ
 ·rw[aB fN,IB,rQ,S2]
  exact bw _ _ cc cH.symm dN (.inl cp.symm)
 ·rw[aB ZU]
  obtain⟨HC,w⟩:=A.co
  exact bw _ _ A.kt (dt A.kt w (fun z=>nomatch z)) (dt A.kt A.ai (fun z=>nomatch z)) (.inl (dt A.kt aG (fun z=>nomatch z)))
 ·rcases nV with z | z
  ·rw[z];exact A.nl
  ·exact (iz lo' z).2.symm
end
section
variable {bf aH:Addr}{H af:ao}{a:eh}{lo lo':Addr}{pl:List (Int × Addr)}{x:aq}{aT:List (Key × V)}
theorem cT.uJ (A:cT bf aH H a lo pl x aT) {c:List Int}(ai:c.length=x.ay.length):cT bf aH (upd H a.ak (.lst (c.map V.int))) a lo pl { x with ay:=c } aT:=by
 obtain⟨dx,cc⟩:=A.b1
 obtain⟨dy,b7⟩:=A.co
 have B:=A.dM.uJ ai
 rw[qQ A.aR.2.1 A.ep.2.2.1.symm]at B
 exact⟨B,⟨dx,by rw[aB A.aR.2.1.symm];exact cc⟩,⟨dy,by rw[aB A.ep.2.2.1];exact b7⟩,by rw[aB (dt A.kt A.hd (fun z=>nomatch z))];exact A.kt,A.gP,A.nl,A.nq,⟨A.jt.a,A.jt.b⟩⟩
theorem cT.began (A:cT bf aH H a lo pl x aT) {dx:Addr}{b:Int}(aa:b=(x.begun:Int)+1):cT bf aH (upd H a.h (.ins aH dx (hf a.c a.ak a.st a.pu a.bB x.room b x.bound))) a lo pl x.began aT:=by
 obtain⟨dy,b7⟩:=A.co
 have ej:b=((x.begun+1:Nat):Int):=by omega
 have B:=A.dM.setB (n:=x.begun+1) ej
 have ev:upd (e5 H a lo x) a.h (.bR (putK (aQ a.ce a.ak lo a.pu a.st x.room x.begun) (Sum.inr "begun") (.int b)))=e5 (upd H a.h (.ins aH dx (hf a.c a.ak a.st a.pu a.bB x.room b x.bound))) a lo x.began:=by
  rw[IM,zI,ej]
  unfold e5
  rw[r0]
  rfl
 rw[ev]at B
 have rC:a.bB≠a.h:=fun z=>by
  obtain⟨HC,w⟩:=A.b1
  have:=A.kt
  rw[z,w]at this
  cases this
 refine⟨B,⟨dx,by rw[aV,ej];rfl⟩,⟨dy,by rw[aB A.ep.1];exact b7⟩,by rw[aB rC];exact A.kt,A.gP,A.nl,A.nq,⟨A.jt.a,fun k v e=>?_⟩⟩
 obtain⟨p,d,aG,aL,bH,bS,ek⟩:=A.jt.b k v e
 exact⟨p,d,aG,aL,bH,by show d<((x.begun+1:Nat):Int);omega,ek⟩
theorem cT.oK (A:cT bf aH H a lo pl x aT):a.bB≠a.h∧a.bB≠a.c∧a.bB≠a.ce∧a.bB≠a.ak∧a.bB≠a.st∧a.bB≠lo∧∀z∈pl,a.bB≠z.2:=by
 obtain⟨dx,cc⟩:=A.b1
 obtain⟨dy,b7⟩:=A.co
 obtain⟨xs,aG,_⟩:=A.aC
 obtain⟨zs,aL,_⟩:=A.dg
 refine⟨dt A.kt cc (fun z=>nomatch z),dt A.kt b7 (fun z=>nomatch z),dt A.kt A.ai (fun z=>nomatch z),dt A.kt A.hd (fun z=>nomatch z),dt A.kt aL (fun z=>nomatch z),dt A.kt aG (fun z=>nomatch z),fun z hz=>?_⟩
 obtain⟨i,aP⟩:=List.mem_iff_getElem?.mp hz
 obtain⟨w,ys,_,_,q,_⟩:=A.dM.at_ aP
 rw[f5 (A.aR.2.2.2.2.2 z hz) (A.ep.2.2.2.2.2 z hz)]at q
 exact dt A.kt q (fun z=>nomatch z)
theorem cT.opened (A:cT bf aH H a lo pl x aT) {n dx:Addr}{d b:Int}(aR:H n=none) (hd:x.isOpen d=false) (aa:b=x.bound+1) (bh:d=(x.begun:Int) - 1) (c2:∀k e,dF aT k=some (.int e)→e≠d) :
  cT bf aH (upd (upd (upd H n (.lst [])) a.pu (.bR (putK (d6 pl) (Sum.inl d) (.ref n)))) a.h (.ins aH dx (hf a.c a.ak a.st a.pu a.bB x.room x.begun b))) a lo (pl++[(d,n)]) x.opened aT:=by
 obtain⟨RX,cc⟩:=A.b1
 obtain⟨dy,b7⟩:=A.co
 have ki:n≠a.h:=fun z=>by rw[z,cc]at aR;cases aR
 have gP:n≠a.c:=fun z=>by rw[z,b7]at aR;cases aR
 have aX:e5 H a lo x n=none:=by rw[f5 ki gP];exact aR
 have E6:n≠lo:=fun z=>by
  obtain⟨xs,e,_⟩:=A.aC
  rw[z,e]at aR
  cases aR
 have rC:n≠a.bB:=fun z=>by rw[z,A.kt]at aR;cases aR
 have B:=(A.dM.same (bV aX (.lst []))).opened (d:=d) (a:=n) aV (A.dM.there aX) E6 hd
 rw[qQ ki gP,qQ A.aR.2.2.1 A.ep.2.2.2.1.symm]at B
 have ev:∀K:ao,e5 K a lo x=e5 (upd K a.h (.ins aH dx (hf a.c a.ak a.st a.pu a.bB x.room x.begun b))) a lo x.opened:=fun K=>by
  rw[zI]
  rfl
 rw[ev]at B
 have ej:x.opened.bound=x.bound+1:=by
  show ((x.aK++[((x.begun:Int) - 1,([]:List (Nat × Int)))]).map fun (z:Int × List (Nat × Int))=>(z.2.length:Int)+1).sum=_
  rw[map_append,sum_append]
  rfl
 have cu:x.opened={ x with aK:=x.aK++[(d,[])] }:=by rw[bh];rfl
 rw[←cu]at B
 refine⟨B,⟨dx,by rw[aV,ej,←aa];rfl⟩,⟨dy,by rw[aB A.ep.1,aB A.ep.2.2.2.1,aB gP.symm];exact b7⟩,by rw[aB A.oK.1,aB A.nq,aB rC.symm];exact A.kt,fun hm=>?_,A.nl,A.nq,⟨fun z hz=>?_,fun k v e=>?_⟩⟩
 ·rcases pJ.mp hm with z | z | z | z | z | ⟨z,hz,e⟩
  ·exact A.ep.1 z
  ·exact A.ep.2.1 z
  ·exact A.ep.2.2.1 z
  ·exact A.ep.2.2.2.1 z
  ·exact A.ep.2.2.2.2.1 z
  ·rcases mem_append.mp hz with y | y
   ·exact A.ep.2.2.2.2.2 z y e
   ·rw[mem_singleton.mp y]at e
    exact gP e
 ·rw[cu]at hz
  rcases mem_append.mp hz with y | y
  ·exact A.jt.a z y
  ·rw[mem_singleton.mp y]
   intro w hw
   cases hw
 ·obtain⟨p,e0,aG,aL,bH,bS,ek⟩:=A.jt.b k v e
  refine⟨p,e0,aG,aL,bH,bS,fun aD=>?_⟩
  rw[cu]at aD ⊢
  have ne:e0≠d:=c2 k e0 (by rw[e,aL])
  have nU:x.isOpen e0=true:=by
   have:((x.aK++[(d,([]:List (Nat × Int)))]).any fun z=>z.1 == e0)=true:=aD
   rw[any_append]at this
   rcases Bool.or_eq_true_iff.mp this with y | y
   ·exact y
   ·have y':(d == e0)=true:=by simpa using y
    exact absurd (beq_iff_eq.mp y').symm ne
  obtain⟨z,hz,y⟩:=ek nU
  exact⟨z,mem_append_left _ hz,y⟩
theorem cT.ended (A:cT bf aH H a lo pl x aT) {dx:Addr}{d b:Int}(aa:b=({ x with aK:=x.aK.filter fun z=>z.1 != d }:aq).bound) :
  cT bf aH (upd (upd H a.pu (.bR (j4 (d6 pl) (Sum.inl d)))) a.h (.ins aH dx (hf a.c a.ak a.st a.pu a.bB x.room x.begun b))) a lo (pl.filter fun z=>z.1 != d) { x with aK:=x.aK.filter fun z=>z.1 != d } aT:=by
 obtain⟨RX,cc⟩:=A.b1
 obtain⟨dy,b7⟩:=A.co
 have B:=A.dM.ended d
 rw[qQ A.aR.2.2.1 A.ep.2.2.2.1.symm]at B
 have ev:∀K:ao,e5 K a lo x=e5 (upd K a.h (.ins aH dx (hf a.c a.ak a.st a.pu a.bB x.room x.begun b))) a lo { x with aK:=x.aK.filter fun z=>z.1 != d }:=fun K=>by
  rw[zI]
  rfl
 rw[ev]at B
 refine⟨B,⟨dx,by rw[aV,aa]⟩,⟨dy,by rw[aB A.ep.1,aB A.ep.2.2.2.1];exact b7⟩,by rw[aB A.oK.1,aB A.nq];exact A.kt,fun hm=>?_,A.nl,A.nq,⟨fun z hz=>A.jt.a z (mem_filter.mp hz).1,fun k v e=>?_⟩⟩
 ·rcases pJ.mp hm with z | z | z | z | z | ⟨z,hz,e⟩
  ·exact A.ep.1 z
  ·exact A.ep.2.1 z
  ·exact A.ep.2.2.1 z
  ·exact A.ep.2.2.2.1 z
  ·exact A.ep.2.2.2.2.1 z
  ·exact A.ep.2.2.2.2.2 z (mem_filter.mp hz).1 e
 ·obtain⟨p,e0,aG,aL,bH,bS,ek⟩:=A.jt.b k v e
  refine⟨p,e0,aG,aL,bH,bS,fun aD=>?_⟩
  have xN:((x.aK.filter fun z=>z.1 != d).any fun z=>z.1 == e0)=true:=aD
  obtain⟨nd,A3,A7⟩:=any_eq_true.mp xN
  have nU:x.isOpen e0=true:=any_eq_true.mpr ⟨nd,(mem_filter.mp A3).1,A7⟩
  have a3:(nd.1 != d)=true:=(mem_filter.mp A3).2
  obtain⟨z,hz,c3,di⟩:=ek nU
  refine⟨z,mem_filter.mpr ⟨hz,?_⟩,c3,di⟩
  rw[c3,←beq_iff_eq.mp A7]
  exact a3
theorem cT.c1 (A:cT bf aH H a lo pl x aT) {n dx:Addr}{i p:Nat}{d b:Int}{ys:List V}{v:V}(aP:pl[i]?=some (d,n)) (b6:H n=some (.lst ys)) (aX:Rep H (pairD (p,x.ay.getD p 0)) v) (aa:b=(x.c1 d p).bound) (h0:0≤d) (aj:d<x.begun)
  (iz:∀z∈x.aK,(∃y∈z.2,y.1=p)→z.1=d) :
  cT bf aH (upd (upd (upd H n (.lst (ys++[v]))) a.bB (.bR (putK aT (Sum.inl ((p:Nat):Int)) (.int d)))) a.h (.ins aH dx (hf a.c a.ak a.st a.pu a.bB x.room x.begun b))) a lo pl (x.c1 d p) (putK aT (Sum.inl ((p:Nat):Int)) (.int d)):=by
 obtain⟨RX,cc⟩:=A.b1
 obtain⟨dy,b7⟩:=A.co
 have hm:=mem_of_getElem? aP
 have ki:n≠a.h:=A.aR.2.2.2.2.2 _ hm
 have gP:n≠a.c:=A.ep.2.2.2.2.2 _ hm
 have rC:a.bB≠n:=A.oK.2.2.2.2.2.2 _ hm
 have aat:e5 H a lo x n=some (.lst ys):=by rw[f5 ki gP];exact b6
 have mF:=A.dM.c1 (y:=(p,x.ay.getD p 0)) aP aat (Rep.keep A.toV _ _ rfl aX)
 rw[qQ ki gP]at mF
 have st:br (e5 (upd (upd H n (.lst (ys++[v]))) a.bB (.bR (putK aT (Sum.inl ((p:Nat):Int)) (.int d)))) a lo x) a.h a.ce a.ak lo a.pu a.st pl (x.c1 d p):=by
  rw[←qQ A.oK.1 A.oK.2.1]
  obtain⟨t1,d_,t3,o3,acm,vj,vh⟩:=A.oK
  have kt:d1 (e5 (upd H n (.lst (ys++[v]))) a lo x) (upd (e5 (upd H n (.lst (ys++[v]))) a lo x) a.bB (.bR (putK aT (Sum.inl ((p:Nat):Int)) (.int d)))):=fun b us q=>by
   have aQ:e5 (upd H n (.lst (ys++[v]))) a lo x a.bB=some (.bR aT):=by
    rw[f5 t1 d_,aB rC]
    exact A.kt
   rw[aB (dt q aQ (fun z=>nomatch z))]
   exact q
  obtain⟨xs,aG,aL⟩:=mF.aC
  obtain⟨zs,bH,bS⟩:=mF.dg
  refine⟨by rw[aB t1.symm];exact mF.c5,by rw[aB t3.symm];exact mF.ai,by rw[aB o3.symm];exact mF.hd,⟨xs,by rw[aB vj.symm];exact aG,aL.mono fun b y q=>q.mono kt⟩,by rw[aB A.nq.symm];exact mF.aF,mF.e6,fun i z w bu aW=>?_,mF.bL,⟨zs,by rw[aB acm.symm];exact bH,a9.keep kt _ _ (er a4.f3 _) bS⟩,mF.ap,mF.nl,mF.cd⟩
  obtain⟨us,fh,eG⟩:=mF.ah i z w bu aW
  exact⟨us,by rw[aB (vh z (mem_of_getElem? bu)).symm];exact fh,a9.keep kt _ _ (er hD _) eG⟩
 have ev:∀K:ao,e5 K a lo x=e5 (upd K a.h (.ins aH dx (hf a.c a.ak a.st a.pu a.bB x.room x.begun b))) a lo (x.c1 d p):=fun K=>by
  rw[zI]
  rfl
 rw[ev]at st
 refine⟨st,⟨dx,by rw[aV,aa];rfl⟩,⟨dy,by rw[aB A.ep.1,aB A.oK.2.1.symm,aB gP.symm];exact b7⟩,by rw[aB A.oK.1,aV],A.gP,A.nl,A.nq,⟨fun z hz y b6=>?_,fun k v e=>?_⟩⟩
 ·obtain⟨w,hw,rfl⟩:=mem_map.mp hz
  rw[vW]
  by_cases e:w.1=d
  ·have uX:y∈w.2++[(p,x.ay.getD p 0)]:=by rw[if_pos e]at b6;exact b6
   have gd:(if w.1=d then (w.1,w.2++[(p,x.ay.getD p 0)]) else w).1=d:=by rw[if_pos e];exact e
   rw[gd]
   by_cases cu:y.1=p
   ·rw[if_pos (by rw[cu])]
   ·have aau:y∈w.2:=by
     rcases mem_append.mp uX with du | du
     ·exact du
     ·rw[mem_singleton.mp du]at cu
      exact absurd rfl cu
    rw[if_neg (fun du=>cu (by have:=Sum.inl.inj du;omega)),A.jt.a w hw y aau,e]
  ·have uX:y∈w.2:=by rw[if_neg e]at b6;exact b6
   rw[if_neg e]
   have cu:¬y.1=p:=fun du=>e (iz w hw ⟨y,uX,du⟩)
   rw[if_neg (fun du=>cu (by have:=Sum.inl.inj du;omega))]
   exact A.jt.a w hw y uX
 ·rw[vW]at e
  have op:∀e0,(x.c1 d p).isOpen e0=x.isOpen e0:=fun e0=>by
   show ((x.aK.map fun z=>if z.1=d then (z.1,z.2++[(p,x.ay.getD p 0)]) else z).any fun z=>z.1 == e0)=x.aK.any fun z=>z.1 == e0
   rw[any_map]
   congr 1
   funext z
   show ((if z.1=d then (z.1,z.2++[(p,x.ay.getD p 0)]) else z).1 == e0)=(z.1 == e0)
   by_cases y:z.1=d
   ·rw[if_pos y]
   ·rw[if_neg y]
  have grow:∀z∈x.aK,∃iD∈(x.c1 d p).aK,iD.1=z.1∧(∀y∈z.2,y∈iD.2)∧(z.1=d→(p,x.ay.getD p 0)∈iD.2):=fun z hz=>by
   refine⟨_,mem_map.mpr ⟨z,hz,rfl⟩,?_,fun y b6=>?_,fun y=>?_⟩
   ·by_cases y:z.1=d
    ·rw[if_pos y]
    ·rw[if_neg y]
   ·by_cases w:z.1=d
    ·rw[if_pos w];exact mem_append_left _ b6
    ·rw[if_neg w];exact b6
   ·rw[if_pos y]
    exact mem_append_right _ (mem_singleton.mpr rfl)
  by_cases gx:k=Sum.inl ((p:Nat):Int)
  ·rw[if_pos gx]at e
   cases e
   refine⟨p,d,gx,rfl,h0,aj,fun aD=>?_⟩
   rw[op]at aD
   obtain⟨nd,A3,A7⟩:=any_eq_true.mp aD
   obtain⟨iD,g1,g2,g3,jx⟩:=grow nd A3
   have PL:=beq_iff_eq.mp A7
   exact⟨iD,g1,g2.trans PL,_,jx PL,rfl⟩
  ·rw[if_neg gx]at e
   obtain⟨o6,e0,aG,aL,bH,bS,ek⟩:=A.jt.b k v e
   refine⟨o6,e0,aG,aL,bH,bS,fun aD=>?_⟩
   rw[op]at aD
   obtain⟨z,hz,c3,y,b6,di⟩:=ek aD
   obtain⟨iD,g1,g2,g3,jx⟩:=grow z hz
   exact⟨iD,g1,g2.trans c3,y,g3 y b6,di⟩
end
def eh.gB (a:eh) (lo:Addr) (pl:List (Int × Addr)):List Addr:=lo::a.c::a.bB::a.own pl
structure eN (a:eh) (lo:Addr) (pl:List (Int × Addr)) (lo':Addr) (hx:List (Int × Addr)) (H af:ao):Prop where
 et:∀b o,b∉a.gB lo pl→H b=some o→af b=some o
 new:∀b,b∈a.gB lo' hx→b∈a.gB lo pl∨H b=none
section
variable {a:eh}{lo lo1 eO:Addr}{pl xh NX:List (Int × Addr)}{H H1 av:ao}
theorem eN.refl (a:eh) (lo:Addr) (pl:List (Int × Addr)) (H:ao):eN a lo pl lo pl H H:=⟨fun _ _ _ e=>e,fun _ h=>.inl h⟩
theorem bx.moves (s:bx H H1):eN a lo pl lo pl H H1:=⟨fun b o _ e=>s b o e,fun _ h=>.inl h⟩
theorem eN.trans (m:eN a lo pl lo1 xh H H1) (n:eN a lo1 xh eO NX H1 av):eN a lo pl eO NX H av:=by
 refine⟨fun b o aa e=>?_,fun b aa=>?_⟩
 ·refine n.et b o (fun z=>?_) (m.et b o aa e)
  rcases m.new b z with y | y
  ·exact aa y
  ·rw[e]at y
   cases y
 ·rcases n.new b aa with z | z
  ·exact m.new b z
  ·by_cases y:b∈a.gB lo pl
   ·exact .inl y
   ·refine .inr ?_
    cases q:H b with
    | none=>rfl
    | some o =>
     rw[m.et b o y q]at z
     cases z
theorem eN.upd (m:eN a lo pl lo1 xh H H1) {b:Addr}{o:fH}(aa:b∈a.gB lo1 xh):eN a lo pl lo1 xh H (upd H1 b o):=by
 refine m.trans ⟨fun c u ai e=>?_,fun _ h=>.inl h⟩
 rw[aB (fun z=>ai (by rw[z];exact aa))]
 exact e
theorem wB (a:eh) (lo:Addr) (pl:List (Int × Addr)):lo∈a.gB lo pl:=mem_cons_self
theorem z6 (a:eh) (lo:Addr) (pl:List (Int × Addr)):a.c∈a.gB lo pl:=mem_cons_of_mem _ mem_cons_self
theorem zV (a:eh) (lo:Addr) (pl:List (Int × Addr)):a.bB∈a.gB lo pl:=mem_cons_of_mem _ (mem_cons_of_mem _ mem_cons_self)
theorem uk {b:Addr}(h:b∈a.own pl):b∈a.gB lo pl:=mem_cons_of_mem _ (mem_cons_of_mem _ (mem_cons_of_mem _ h))
theorem sk (a:eh) (lo:Addr) (pl:List (Int × Addr)):a.h∈a.gB lo pl:=uk (br.o7 ..)
theorem zZ (a:eh) (lo:Addr) (pl:List (Int × Addr)):a.ce∈a.gB lo pl:=uk (br.tw ..)
theorem zY (a:eh) (lo:Addr) (pl:List (Int × Addr)):a.ak∈a.gB lo pl:=uk (br.eW ..)
theorem wA (a:eh) (lo:Addr) (pl:List (Int × Addr)):a.pu∈a.gB lo pl:=uk (br.mp ..)
theorem zW (a:eh) (lo:Addr) (pl:List (Int × Addr)):a.st∈a.gB lo pl:=uk (br.ms ..)
theorem zX {z:Int × Addr}(hz:z∈pl) (a:eh) (lo:Addr):z.2∈a.gB lo pl:=uk (br.yx hz ..)
variable {bf aH:Addr}{x:aq}{aT:List (Key × V)}
theorem cT.uH (A:cT bf aH H a lo pl x aT) {b:Addr}{us:List V}(h:H b=some (.tup us)):b∉a.gB lo pl:=fun aa=>by
 obtain⟨dx,cc⟩:=A.b1
 obtain⟨dy,b7⟩:=A.co
 obtain⟨xs,aG,_⟩:=A.aC
 rcases mem_cons.mp aa with z | aa
 ·rw[z,aG]at h;cases h
 ·rcases mem_cons.mp aa with z | aa
  ·rw[z,b7]at h;cases h
  ·rcases mem_cons.mp aa with z | aa
   ·rw[z,A.kt]at h;cases h
   ·exact A.dM.uH (A.toV _ _ h) aa
end
theorem VG {K:PySem.W.Frag}{a:Addr}{N:Nat}{g:iU}{d4:fX}{D:Ends}{σ:St}{H:ao}(Pv:Nat→St→ao→Prop) (h0:Pv 0 σ H) (aC:∀i σ H,i≤N→Pv i σ H→∃xs,xs.length=N∧aM K H a xs)
  (aJ:∀i x σ H,i<N→(∀xs,aM K H a xs→xs[N - 1 - i]?=some x)→Pv i σ H→g x σ H fun hy av=>d4 { D with dk:=Pv (i+1),fG:=Pv (i+1),iu:=D.dk } hy av) (hd:∀σ H,Pv N σ H→D.dk σ H) :
  ∃W:Nat→Nat→St→ao→Prop,(∃m,W 0 m σ H)∧∀i m σ H,W i m σ H →
   ((rv K a N).stop i H∧D.dk σ H)∨((rv K a N).go i H∧∃M:St→ao→Prop,(∀bz af,M bz af→∃gb,gb<m∧W (i+1) gb bz af)∧∀x af,(rv K a N).oH i H x af→g x σ af fun hy av=>d4 { D with dk:=M,fG:=M,iu:=D.dk } hy av):=by
 refine⟨fun i m σ H=>m=N - i∧i≤N∧Pv i σ H,⟨N,by simp,zero_le _,h0⟩,?_⟩
 rintro i m σ H ⟨rfl,aP,p⟩
 obtain⟨xs,g4,q⟩:=aC i σ H aP p
 by_cases c2:i<N
 ·have cD:N - 1 - i<xs.length:=by omega
  refine .inr ⟨⟨c2,xs,xs[N - 1 - i],q,getElem?_eq_getElem cD⟩,Pv (i+1),fun bz af eH=>⟨N - (i+1),by omega,rfl,c2,eH⟩,fun x af y=>?_⟩
  obtain⟨e,y⟩:=y
  subst e
  exact aJ i x σ _ c2 y p
 ·have e:i=N:=by omega
  subst e
  exact .inl ⟨rfl,hd σ H p⟩
theorem sum_filter:∀(l:List (Int × List (Nat × Int))) (d:Int),(l.map (·.1)).Nodup→(l.any fun z=>z.1 == d)=true→((l.filter fun z=>z.1 != d).map fun z=>(z.2.length:Int)+1).sum+(((((l.find? fun z=>z.1 == d).map (·.2)).getD []).length:Int)+1)=(l.map fun z=>(z.2.length:Int)+1).sum
 | [],_,_,h=>by cases h
 | z::r,d,a3,h=>by
  rw[map_cons,nodup_cons]at a3
  by_cases e:z.1=d
  ·have aE:(r.filter fun y=>y.1 != d)=r:=List.filter_eq_self.mpr fun y b6=>by
    have:y.1≠d:=fun w=>a3.1 (by rw[e,←w];exact mem_map.mpr ⟨y,b6,rfl⟩)
    simpa using this
   rw[List.filter_cons_of_neg (by simp[e]),aE,List.find?_cons_of_pos (by simp[e]),map_cons,sum_cons]
   show _+((z.2.length:Int)+1)=_
   omega
  ·have h':(r.any fun z=>z.1 == d)=true:=by
    rw[any_cons]at h
    have:(z.1 == d)=false:=by simpa using e
    rw[this,Bool.false_or]at h
    exact h
   have b3:=sum_filter r d a3.2 h'
   rw[List.filter_cons_of_pos (by simp[e]),find?_cons_of_neg (by simp[e]),map_cons,map_cons,sum_cons,sum_cons]
   omega
theorem t_ {x:aq}{d:Int}(a3:(x.aK.map (·.1)).Nodup) (aD:x.isOpen d=true):({ x with aK:=x.aK.filter fun z=>z.1 != d }:aq).bound=x.bound - (((x.c7 d).length:Int)+1):=by
 have:=sum_filter x.aK d a3 aD
 show ((x.aK.filter fun z=>z.1 != d).map fun z=>(z.2.length:Int)+1).sum=(x.aK.map fun z=>(z.2.length:Int)+1).sum - (((((x.aK.find? fun z=>z.1 == d).map (·.2)).getD []).length:Int)+1)
 omega
theorem J5 (y:Nat × Int):∀(l:List (Int × List (Nat × Int))) (d:Int),(l.map (·.1)).Nodup→(l.any fun z=>z.1 == d)=true→((l.map fun z=>if z.1=d then (z.1,z.2++[y]) else z).map fun z=>(z.2.length:Int)+1).sum=(l.map fun z=>(z.2.length:Int)+1).sum+1
 | [],_,_,h=>by cases h
 | z::r,d,a3,h=>by
  rw[map_cons,nodup_cons]at a3
  rw[map_cons,map_cons,map_cons,sum_cons,sum_cons]
  by_cases e:z.1=d
  ·have aE:(r.map fun z=>if z.1=d then (z.1,z.2++[y]) else z)=r:=by
    have:∀w∈r,(if w.1=d then (w.1,w.2++[y]) else w)=w:=fun w hw=>if_neg fun q=>a3.1 (by rw[e,←q];exact mem_map.mpr ⟨w,hw,rfl⟩)
    rw[map_congr_left this,List.map_id']
   rw[aE,if_pos e]
   show ((z.2++[y]).length:Int)+1+_=_
   rw[length_append,length_singleton]
   omega
  ·have h':(r.any fun z=>z.1 == d)=true:=by
    rw[any_cons]at h
    have:(z.1 == d)=false:=by simpa using e
    rw[this,Bool.false_or]at h
    exact h
   rw[J5 y r d a3.2 h',if_neg e]
   omega
theorem Ck {x:aq}{d:Int}{p:Nat}(a3:(x.aK.map (·.1)).Nodup) (aD:x.isOpen d=true):(x.c1 d p).bound=x.bound+1:=J5 _ x.aK d a3 aD
def b9 (ps:List Int) (room:Int):aq:={ cg:=ps,ay:=ps,log:=[],aK:=[],room:=room,begun:=0,c9:=[] }
theorem cT.init {bf aH dx dy:Addr}{H:ao}{a:eh}{lo:Addr}{ps:List Int}{room:Int}(cc:H a.h=some (.ins aH dx (hf a.c a.ak a.st a.pu a.bB room 0 0))) (b7:H a.c=some (.ins bf dy (l1 a.ce lo))) (aG:H a.ce=some (.lst (ps.map V.int))) (aL:H lo=some (.lst []))
  (bH:H a.ak=some (.lst (ps.map V.int))) (bS:H a.st=some (.lst [])) (ek:H a.pu=some (.bR [])) (hl:H a.bB=some (.bR [])) (dN:a.ce≠a.ak) (dI:a.ce≠a.st) (eV:a.ak≠a.st) (fN:lo≠a.ce) (gr:lo≠a.ak) (gE:lo≠a.st) (gQ:a.bB≠a.pu) (i5:a.c≠a.h) :
  cT bf aH H a lo [] (b9 ps room) []:=by
 have k1:a.ce≠a.h:=dt aG cc (fun z=>nomatch z)
 have k2:a.ak≠a.h:=dt bH cc (fun z=>nomatch z)
 have k3:a.st≠a.h:=dt bS cc (fun z=>nomatch z)
 have ny:a.pu≠a.h:=dt ek cc (fun z=>nomatch z)
 have k5:lo≠a.h:=dt aL cc (fun z=>nomatch z)
 have cH:a.ce≠a.c:=dt aG b7 (fun z=>nomatch z)
 have dh:a.ak≠a.c:=dt bH b7 (fun z=>nomatch z)
 have e_:a.st≠a.c:=dt bS b7 (fun z=>nomatch z)
 have hn:a.pu≠a.c:=dt ek b7 (fun z=>nomatch z)
 have oo:lo≠a.c:=dt aL b7 (fun z=>nomatch z)
 have fi:a.pu≠a.ce:=dt ek aG (fun z=>nomatch z)
 have eK:a.pu≠a.ak:=dt ek bH (fun z=>nomatch z)
 have kh:a.pu≠a.st:=dt ek bS (fun z=>nomatch z)
 have mq:a.pu≠lo:=dt ek aL (fun z=>nomatch z)
 have a3:(a.own []).Nodup:=by
  show (a.h::a.ce::a.ak::a.pu::a.st::[]).Nodup
  simp[k1.symm,k2.symm,ny.symm,k3.symm,dN,fi.symm,dI,eK.symm,eV,kh]
 have nl:lo∉a.own []:=by
  show lo∉(a.h::a.ce::a.ak::a.pu::a.st::[])
  simp[k5,fN,gr,mq.symm,gE]
 refine⟨⟨sr,?_,?_,⟨[],?_,.nil⟩,?_,rfl,fun i z w h=>(by cases h),nodup_nil,⟨[],?_,.nil⟩,a3,nl,rfl⟩,⟨dx,cc⟩,⟨dy,b7⟩,hl,?_,oo.symm,gQ,⟨fun z hz=>(by cases hz),fun k v e=>(by rw[Cx]at e;cases e)⟩⟩
 ·rw[f5 k1 cH];exact aG
 ·rw[f5 k2 dh];exact bH
 ·rw[f5 k5 oo];exact aL
 ·rw[f5 ny hn];exact ek
 ·rw[f5 k3 e_];exact bS
 ·show a.c∉(a.h::a.ce::a.ak::a.pu::a.st::[])
  simp[i5,cH.symm,dh.symm,hn.symm,e_.symm]
theorem cT.zx {bf aH:Addr}{H:ao}{a:eh}{lo b:Addr}{pl:List (Int × Addr)}{x:aq}{aT:List (Key × V)}{o:fH}{us:List V}(A:cT bf aH H a lo pl x aT) (aa:b∉a.gB lo pl) (e:H b=some (.lst us)):cT bf aH (upd H b o) a lo pl x aT:=by
 have n:∀c,c∈a.gB lo pl→c≠b:=fun c ai z=>aa (by rw[←z];exact ai)
 have ki:=n _ (sk a lo pl)
 have gP:=n _ (z6 a lo pl)
 obtain⟨dx,cc⟩:=A.b1
 obtain⟨dy,b7⟩:=A.co
 have kt:d1 (e5 H a lo x) (upd (e5 H a lo x) b o):=fun c ys q=>by
  rw[aB (dt q (show e5 H a lo x b=some (.lst us) by rw[f5 ki.symm gP.symm];exact e) (fun z=>nomatch z))]
  exact q
 obtain⟨xs,e8,gu⟩:=A.dM.aC
 obtain⟨zs,qn,mz⟩:=A.dM.dg
 refine⟨?_,⟨dx,by rw[aB ki];exact cc⟩,⟨dy,by rw[aB gP];exact b7⟩,by rw[aB (n _ (zV a lo pl))];exact A.kt,A.gP,A.nl,A.nq,A.jt⟩
 rw[←qQ ki.symm gP.symm]
 refine⟨by rw[aB ki];exact A.dM.c5,by rw[aB (n _ (zZ a lo pl))];exact A.dM.ai,by rw[aB (n _ (zY a lo pl))];exact A.dM.hd,⟨xs,by rw[aB (n _ (wB a lo pl))];exact e8,gu.mono fun c y q=>q.mono kt⟩,by rw[aB (n _ (wA a lo pl))];exact A.dM.aF,A.dM.e6,fun i z w bu aW=>?_,A.dM.bL,⟨zs,by rw[aB (n _ (zW a lo pl))];exact qn,a9.keep kt _ _ (er a4.f3 _) mz⟩,A.dM.ap,A.dM.nl,A.dM.cd⟩
 obtain⟨ys,fh,eG⟩:=A.dM.ah i z w bu aW
 exact⟨ys,by rw[aB (n _ (zX (mem_of_getElem? bu) a lo))];exact fh,a9.keep kt _ _ (er hD _) eG⟩
theorem zG {ps:List Int}{room:Int}(aj:1≤ps.length) (az:ps.length≤100):(b9 ps room).good 0 :=
 ⟨aj,az,fun z hz=>(by cases hz),le_refl _,le_refl _,le_refl _,fun z hz=>(by cases hz)⟩
theorem SQ (x:aq) (e:bZ):(x.a5 e).1.begun≤x.begun+1:=by
 unfold aq.a5
 cases x.refusal e with
 | some w=>exact le_succ _
 | none =>
  cases e with
  | begin =>
   show (if (x.began.full 1).2=true then ((x.began.full 1).1,cY.word "no room") else ((x.began.full 1).1.opened,.num x.begun)).1.begun≤_
   have aG:(x.began.full 1).1.begun=x.begun+1:=mH
   split
   ·exact le_of_eq aG
   ·exact le_of_eq aG
  | put d p n =>
   show (if (x.full 2).2=true then ((x.full 2).1,cY.word "no room") else ((((x.full 2).1.c1 d p.toNat).putIn d p.toNat n),.word "done")).1.begun≤_
   have aG:(x.full 2).1.begun=x.begun:=mH
   split
   ·show (x.full 2).1.begun≤_
    omega
   ·show (x.full 2).1.begun≤_
    omega
  | fin d=>exact le_succ _
  | drop d =>
   show (x.dU d).begun≤_
   rw[g9,vK]
   exact le_succ _
  | look p=>exact le_succ _
  | carry p =>
   show (x.d0 p.toNat).begun≤_
   rw[vJ]
   exact le_succ _
  | cut =>
   show x.dW.begun≤_
   rw[vO]
   exact le_succ _
theorem Ia (x:aq) (e:bZ):(∃i,(x.a5 e).2=.num i)∨(x.a5 e).2=.word "done"∨(x.a5 e).2=.word "no dealing"∨(x.a5 e).2=.word "no page"∨(x.a5 e).2=.word "taken"∨(x.a5 e).2=.word "no room":=by
 unfold aq.a5
 cases h:x.refusal e with
 | some w =>
  have hw:w="no dealing"∨w="no page"∨w="taken":=by
   cases e with
   | begin=>cases h
   | cut=>cases h
   | fin d =>
    have h':(if x.isOpen d=false then some ("no dealing":Str) else none)=some w:=h
    split at h'
    ·exact .inl (Option.some.inj h').symm
    ·cases h'
   | drop d =>
    have h':(if x.isOpen d=false then some ("no dealing":Str) else none)=some w:=h
    split at h'
    ·exact .inl (Option.some.inj h').symm
    ·cases h'
   | look p =>
    have h':(if p<0∨(x.ay.length:Int)≤p then some ("no page":Str) else none)=some w:=h
    split at h'
    ·exact .inr (.inl (Option.some.inj h').symm)
    ·cases h'
   | carry p =>
    have h':(if p<0∨(x.ay.length:Int)≤p then some ("no page":Str) else none)=some w:=h
    split at h'
    ·exact .inr (.inl (Option.some.inj h').symm)
    ·cases h'
   | put d p n =>
    have h':(if x.isOpen d=false then some ("no dealing":Str) else if p<0∨(x.ay.length:Int)≤p then some ("no page":Str) else if x.dT p.toNat=none∨x.dT p.toNat=some d then none else some ("taken":Str))=some w:=h
    split at h'
    ·exact .inl (Option.some.inj h').symm
    ·split at h'
     ·exact .inr (.inl (Option.some.inj h').symm)
     ·split at h'
      ·cases h'
      ·exact .inr (.inr (Option.some.inj h').symm)
  rcases hw with z | z | z
  ·rw[z];exact .inr (.inr (.inl rfl))
  ·rw[z];exact .inr (.inr (.inr (.inl rfl)))
  ·rw[z];exact .inr (.inr (.inr (.inr (.inl rfl))))
 | none =>
  cases e with
  | begin =>
   show (∃i,(if (x.began.full 1).2=true then ((x.began.full 1).1,cY.word "no room") else ((x.began.full 1).1.opened,.num x.begun)).2=.num i)∨_
   show (∃i,(if (x.began.full 1).2=true then ((x.began.full 1).1,cY.word "no room") else ((x.began.full 1).1.opened,.num x.begun)).2=.num i)∨(if (x.began.full 1).2=true then ((x.began.full 1).1,cY.word "no room") else ((x.began.full 1).1.opened,.num x.begun)).2=.word "done"∨_∨_∨_∨(if (x.began.full 1).2=true then ((x.began.full 1).1,cY.word "no room") else ((x.began.full 1).1.opened,.num x.begun)).2=.word "no room"
   split
   ·exact .inr (.inr (.inr (.inr (.inr rfl))))
   ·exact .inl ⟨_,rfl⟩
  | put d p n =>
   show (∃i,(if (x.full 2).2=true then ((x.full 2).1,cY.word "no room") else ((((x.full 2).1.c1 d p.toNat).putIn d p.toNat n),.word "done")).2=.num i)∨(if (x.full 2).2=true then ((x.full 2).1,cY.word "no room") else ((((x.full 2).1.c1 d p.toNat).putIn d p.toNat n),.word "done")).2=.word "done"∨_∨_∨_∨(if (x.full 2).2=true then ((x.full 2).1,cY.word "no room") else ((((x.full 2).1.c1 d p.toNat).putIn d p.toNat n),.word "done")).2=.word "no room"
   split
   ·exact .inr (.inr (.inr (.inr (.inr rfl))))
   ·exact .inr (.inl rfl)
  | fin d=>exact .inr (.inl rfl)
  | drop d=>exact .inr (.inl rfl)
  | look p=>exact .inl ⟨_,rfl⟩
  | carry p=>exact .inr (.inl rfl)
  | cut=>exact .inr (.inl rfl)
theorem br.zx {H:ao}{h ce ak lo pu st b:Addr}{pl:List (Int × Addr)}{x:aq}{o:fH}{us:List V}(A:br H h ce ak lo pu st pl x) (aa:b∉own h ce ak pu st pl) (aC:b≠lo) (e:H b=some (.lst us)):br (upd H b o) h ce ak lo pu st pl x:=by
 have n:∀c,c∈own h ce ak pu st pl→c≠b:=fun c ai z=>aa (by rw[←z];exact ai)
 have kt:d1 H (upd H b o):=fun c ys q=>by
  rw[aB (dt q e (fun z=>nomatch z))]
  exact q
 obtain⟨xs,e8,gu⟩:=A.aC
 obtain⟨zs,qn,mz⟩:=A.dg
 refine⟨by rw[aB (n _ (br.o7 ..))];exact A.c5,by rw[aB (n _ (br.tw ..))];exact A.ai,by rw[aB (n _ (br.eW ..))];exact A.hd,⟨xs,by rw[aB aC.symm];exact e8,gu.mono fun c y q=>q.mono kt⟩,by rw[aB (n _ (br.mp ..))];exact A.aF,A.e6,fun i z w bu aW=>?_,A.bL,⟨zs,by rw[aB (n _ (br.ms ..))];exact qn,a9.keep kt _ _ (er a4.f3 _) mz⟩,A.ap,A.nl,A.cd⟩
 obtain⟨ys,fh,eG⟩:=A.ah i z w bu aW
 exact⟨ys,by rw[aB (n _ (br.yx (mem_of_getElem? bu) ..))];exact fh,a9.keep kt _ _ (er hD _) eG⟩
theorem bZ.XF (e:bZ):e.D.ef≤6:=by
 cases e <;> simp only[bZ.D,Dj,kx,la,LB,wi] <;> omega
theorem Jk:∀l:List bZ,fe (l.map bZ.D)≤l.length * 6
 | []=>by rw[map_nil,la];exact zero_le _
 | e::r=>by
  have aj:=Jk r
  have az:=e.XF
  rw[map_cons,kx,length_cons]
  omega
def aq.pre (x:aq) (s:List a4):aq:={ x with c9:=s++x.c9 }
section
variable {x:aq}{s:List a4}{t:a4}{d m:Int}{p:Nat}
theorem zl:(x.pre s).dc t=(x.dc t).pre s:=by
 cases t <;> simp[aq.pre,aq.dc,List.append_assoc]
theorem JP:(x.pre s).dW=x.dW.pre s:=by
 show (if 0<ez x.cg x.ay x.isOpen x.log then (x.pre s).dc (.cut (ez x.cg x.ay x.isOpen x.log)) else x.pre s)=_
 unfold aq.dW
 split
 ·exact zl
 ·rfl
theorem IT:(x.pre s).d0 p=(x.d0 p).pre s:=by
 show (if x.cg[p]?=x.ay[p]? then x.pre s else (x.pre s).dc (.dm p (x.ay.getD p 0)))=_
 unfold aq.d0
 split
 ·rfl
 ·exact zl
theorem IU:∀{i:Nat},(x.pre s).e2 i=(x.e2 i).pre s
 | 0=>rfl
 | i+1=>by rw[ks,ks,IU,IT]
theorem S6:(x.pre s).gk=x.gk.pre s:=by
 rw[ku,ku,←JP,←IU]
 rfl
theorem Kq:(x.pre s).full m=((x.full m).1.pre s,(x.full m).2):=by
 show (if x.hN m=true then (x.pre s,false) else ((x.pre s).gk, !(x.pre s).gk.hN m))=_
 unfold aq.full
 split
 ·rfl
 ·rw[S6]
  rfl
theorem Jx {n:Int}:(x.pre s).putIn d p n=(x.putIn d p n).pre s:=by
 show ({ (x.pre s).dc (.line (.put d p (x.ay.getD p 0) n)) with ay:=x.ay.set p n }:aq)=_
 rw[zl]
 rfl
theorem IV:∀{l:List (Nat × Int)}{x:aq},(x.pre s).ee d l=(x.ee d l).pre s
 | [],_=>rfl
 | z::r,x=>by
  show ((x.pre s).putIn d z.1 z.2).ee d r=((x.putIn d z.1 z.2).ee d r).pre s
  rw[Jx]
  exact IV
theorem UP:(x.pre s).dU d=(x.dU d).pre s:=by
 rw[g9,g9]
 exact IV
theorem JO:(x.pre s).fK d=(x.fK d).pre s:=by
 show ({ (x.pre s).dc (.line (.fin d)) with aK:=x.aK.filter fun z=>z.1 != d }:aq)=_
 rw[zl]
 rfl
theorem VJ {e:bZ}:(x.pre s).gp e=((x.gp e).1.pre s,(x.gp e).2):=by
 cases e with
 | begin =>
  show (if ((x.began.pre s).full 1).2=true then (((x.began.pre s).full 1).1,cY.word "no room") else (((x.began.pre s).full 1).1.opened,.num x.begun))=_
  rw[Kq]
  unfold aq.gp
  dsimp only
  split
  ·rfl
  ·rfl
 | put d p n =>
  show (if ((x.pre s).full 2).2=true then (((x.pre s).full 2).1,cY.word "no room") else (((((x.pre s).full 2).1.c1 d p.toNat).putIn d p.toNat n),.word "done"))=_
  rw[Kq]
  unfold aq.gp
  dsimp only
  split
  ·rfl
  ·show ((((x.full 2).1.c1 d p.toNat).pre s).putIn d p.toNat n,cY.word "done")=_
   rw[Jx]
 | fin d =>
  show ((x.pre s).fK d,cY.word "done")=_
  rw[JO]
  rfl
 | drop d =>
  show (((x.pre s).dU d).fK d,cY.word "done")=_
  rw[UP,JO]
  rfl
 | look p=>rfl
 | carry p =>
  show ((x.pre s).d0 p.toNat,cY.word "done")=_
  rw[IT]
  rfl
 | cut =>
  show ((x.pre s).dW,cY.word "done")=_
  rw[JP]
  rfl
theorem Tf {e:bZ}:(x.pre s).refusal e=x.refusal e:=by cases e <;> rfl
theorem S_ {e:bZ}:(x.pre s).a5 e=((x.a5 e).1.pre s,(x.a5 e).2):=by
 unfold aq.a5
 rw[Tf]
 cases x.refusal e with
 | some w=>rfl
 | none=>exact VJ
end
def aq.bare (x:aq):aq:={ x with c9:=[] }
theorem VK (x:aq):x.bare.pre x.c9=x:=by
 show ({ x with c9:=x.c9++[] }:aq)=x
 rw[append_nil]
def aq.row (x:aq) (e:bZ):List a4:=(x.bare.a5 e).1.c9
theorem BY (x:aq) (e:bZ):x.a5 e=((x.bare.a5 e).1.pre x.c9,(x.bare.a5 e).2):=by
 rw[←S_,VK]
theorem B4 (x:aq) (e:bZ):(x.a5 e).1.c9=x.c9++x.row e:=by
 rw[BY]
 rfl
theorem Uo (x:aq) (e:bZ):(x.a5 e).1.bare=(x.bare.a5 e).1.bare:=by
 rw[BY]
 rfl
theorem T5 (x:aq) (e:bZ):(x.a5 e).2=(x.bare.a5 e).2:=by rw[BY]
theorem row_bare (x:aq) (e:bZ):x.bare.row e=x.row e:=rfl
def aq.rows:aq→List bZ→List (List a4)
 | _,[]=>[]
 | x,e::r=>x.row e::(x.a5 e).1.rows r
theorem Cq:∀(l:List bZ) (x:aq) (e:bZ),x.rows (l++[e])=x.rows l++[(x.run l).row e]
 | [],_,_=>rfl
 | a::r,x,e=>by
  show x.row a::(x.a5 a).1.rows (r++[e])=_
  rw[Cq r]
  rfl
theorem zb:∀(l:List bZ) (x:aq),(x.rows l).length=l.length
 | [],_=>rfl
 | a::r,x=>by
  show ((x.a5 a).1.rows r).length+1=r.length+1
  rw[zb r]
theorem IE:∀(l:List bZ) (x:aq),(x.run l).c9=x.c9++(x.rows l).flatten
 | [],x=>by
  show x.c9=x.c9++[]
  rw[append_nil]
 | a::r,x=>by
  show ((x.a5 a).1.run r).c9=x.c9++(x.row a++((x.a5 a).1.rows r).flatten)
  rw[IE r,B4,List.append_assoc]
def aq.hv:aq→List bZ→aq
 | x,[]=>x
 | x,e::r=>aq.hv (x.bare.a5 e).1 r
theorem Jr:∀(l:List bZ) (x:aq) (e:bZ),x.hv (l++[e])=((x.hv l).bare.a5 e).1
 | [],_,_=>rfl
 | a::r,x,e=>Jr r _ e
theorem Cp:∀(l:List bZ) (x y:aq),y.bare=x.bare→(y.hv l).bare=(x.run l).bare
 | [],_,_,h=>h
 | a::r,x,y,h=>by
  show (aq.hv (y.bare.a5 a).1 r).bare=((x.a5 a).1.run r).bare
  refine Cp r _ _ ?_
  rw[h,Uo x]
theorem aq.good.bare {x:aq}{n:Nat}(g:x.good n):x.bare.good n:=⟨g.gg,g.e9,g.d3,g.pl,zero_le _,g.jv,g.ok⟩
theorem aq.good.hv:∀(l:List bZ) {x:aq}{n:Nat},x.good n→n+l.length≤110→(x.hv l).good (n+l.length)
 | [],_,_,h,_=>h
 | a::r,x,n,h,aR=>by
  have aC:(a::r).length=r.length+1:=rfl
  have:=aq.good.hv r (h.bare.a5 (by omega) a) (by omega)
  have e:n+1+r.length=n+(a::r).length:=by omega
  rw[e]at this
  exact this
theorem UX (l:List bZ) (x:aq) (e:bZ):(x.hv l).row e=(x.run l).row e:=by
 rw[←row_bare,Cp l x x rfl,row_bare]
theorem T_ (l:List bZ) (x:aq) (e:bZ):((x.hv l).bare.a5 e).2=((x.run l).a5 e).2:=by
 rw[Cp l x x rfl,←T5]
def iy (H:ao) (bad:List Addr) (rows:List (List a4)) (xs:List V):Prop:=fc (fun row v=>∃b zs,v=.ref b∧b∉bad∧H b=some (.lst zs)∧a9 H (row.map a4.D) zs) rows xs
section
variable {H af:ao}{bad sI:List Addr}{rows:List (List a4)}{xs:List V}
theorem iy.nil:iy H bad [] []:=fc.nil
theorem iy.move (h:iy H bad rows xs) (st:∀b o,b∉bad→H b=some o→af b=some o) (kt:d1 H af) (nb:∀b,b∈sI→b∈bad∨H b=none):iy af sI rows xs :=
 h.mono fun row v ⟨b,zs,e,aa,hz,aE⟩=>⟨b,zs,e,(fun z=>by
  rcases nb b z with y | y
  ·exact aa y
  ·rw[hz]at y;cases y),st b _ aa hz,a9.keep kt _ _ (er a4.f3 _) aE⟩
theorem iy.same (h:iy H bad rows xs) (s:bx H af):iy af bad rows xs:=h.move (fun b o _ e=>s b o e) s.fy fun b aa=>.inl aa
theorem iy.snoc {row:List a4}{b:Addr}{zs:List V}(h:iy H bad rows xs) (aa:b∉bad) (hz:H b=some (.lst zs)) (aE:a9 H (row.map a4.D) zs):iy H bad (rows++[row]) (xs++[.ref b]) :=
 fc.snoc h ⟨b,zs,rfl,aa,hz,aE⟩
theorem Jw {α:Type}{f:α→D}:∀{l:List α}{xs:List V},fc (fun a v=>Rep H (f a) v) l xs→a9 H (l.map f) xs
 | [],[],_=>.nil
 | [],_::_,h=>absurd h.1 (by simp)
 | _::_,[],h=>absurd h.1 (by simp)
 | a::l,x::xs,h=>.cons (h.2 0 a x rfl rfl) (Jw ⟨Nat.succ.inj h.1,fun i a x aj az=>h.2 (i+1) a x aj az⟩)
theorem Jv {H:ao}:∀{n:Nat}{l:List D}{xs:List V},a9 H l xs→a9 H (l.drop n) (xs.drop n)
 | 0,_,_,h=>h
 | n+1,[],xs,h=>by cases h.lx;exact .nil
 | n+1,d::l,xs,h=>by
  obtain⟨x,t,rfl,_,r⟩:=h.inv
  exact Jv (n:=n) r
end
section
variable {H:ao}{h ce ak lo pu st u:Addr}{pl:List (Int × Addr)}{x:aq}
theorem br.Va (A:br H h ce ak lo pu st pl x) (v:V):oG H h (.str "strokes") v (upd H h (.bR (putK (aQ ce ak lo pu st x.room x.begun) (Sum.inr "strokes") v))):=.inl ⟨_,Sum.inr "strokes",A.c5,rfl,(by show 7<sizeLine;rw[sizeLine_eq];decide),rfl⟩
theorem Vb (ap:(own h ce ak pu st pl).Nodup) (aR:u∉own h ce ak pu st pl):(own h ce ak pu u pl).Nodup:=by
 unfold own at *
 simp only[nodup_cons,mem_cons,not_or]at ap aR ⊢
 obtain⟨⟨a1,a2,jU,pk,tL⟩,⟨eY,gh,k6,BJ⟩,⟨cH,dh,e_⟩,⟨gg,e9⟩,aG,f1⟩:=ap
 obtain⟨dN,dI,eV,fN,gr,gE⟩:=aR
 exact⟨⟨a1,a2,jU,Ne.symm dN,tL⟩,⟨eY,gh,Ne.symm dI,BJ⟩,⟨cH,Ne.symm eV,e_⟩,⟨Ne.symm fN,e9⟩,gE,f1⟩
theorem Wg (nl:lo∉own h ce ak pu st pl) (aC:u≠lo):lo∉own h ce ak pu u pl:=by
 unfold own at *
 simp only[mem_cons,not_or]at nl ⊢
 exact⟨nl.1,nl.2.1,nl.2.2.1,nl.2.2.2.1,Ne.symm aC,nl.2.2.2.2.2⟩
theorem br.Yx (A:br H h ce ak lo pu st pl x) (e:H u=some (.lst [])) (aR:u∉own h ce ak pu st pl) (aC:u≠lo):br (upd H h (.bR (putK (aQ ce ak lo pu st x.room x.begun) (Sum.inr "strokes") (.ref u)))) h ce ak lo pu u pl x.bare:=by
 obtain⟨dN,dI,eV,fN,gr,gE,gQ,i5,lK,l6,cp,cy,fo,gs,i6,np⟩:=A.ne
 rw[S0]
 have kt:d1 H (upd H h (.bR (aQ ce ak lo pu u x.room x.begun))):=fun b ys q=>by
  rw[aB (dt q A.c5 (fun z=>nomatch z))]
  exact q
 have ZT:u≠h:=fun e=>aR (by rw[e];exact mem_cons_self)
 obtain⟨xs,aG,aL⟩:=A.aC
 refine⟨aV,by rw[aB dN.symm];exact A.ai,by rw[aB dI.symm];exact A.hd,⟨xs,by rw[aB cp];exact aG,aL.mono fun a y q=>q.mono kt⟩,by rw[aB eV.symm];exact A.aF,A.e6,fun i z w a b=>?_,A.bL,⟨[],by rw[aB ZT];exact e,.nil⟩,Vb A.ap aR,Wg A.nl aC,A.cd⟩
 obtain⟨ys,bu,aW⟩:=A.ah i z w a b
 exact⟨ys,by rw[aB (np z (mem_of_getElem? a)).1];exact bu,a9.keep kt _ _ (er hD _) aW⟩
theorem Ug {b:Addr}(aa:b∈own h ce ak pu u pl):b=u∨b∈own h ce ak pu st pl:=by
 unfold own at *
 simp only[mem_cons]at aa ⊢
 rcases aa with z | z | z | z | z | z
 ·exact .inr (.inl z)
 ·exact .inr (.inr (.inl z))
 ·exact .inr (.inr (.inr (.inl z)))
 ·exact .inr (.inr (.inr (.inr (.inl z))))
 ·exact .inl z
 ·exact .inr (.inr (.inr (.inr (.inr (.inr z)))))
def pV (h ce ak pu:Addr) (pl:List (Int × Addr)):List Addr:=h::ce::ak::pu::pl.map (·.2)
theorem Vd {b:Addr}(aa:b∈pV h ce ak pu pl):b∈own h ce ak pu st pl:=by
 unfold pV at aa
 unfold own
 simp only[mem_cons]at aa ⊢
 rcases aa with z | z | z | z | z
 ·exact .inl z
 ·exact .inr (.inl z)
 ·exact .inr (.inr (.inl z))
 ·exact .inr (.inr (.inr (.inl z)))
 ·exact .inr (.inr (.inr (.inr (.inr z))))
theorem Vc {b:Addr}(aa:b∈own h ce ak pu u pl):b=u∨b∈pV h ce ak pu pl:=by
 unfold own at aa
 unfold pV
 simp only[mem_cons]at aa ⊢
 rcases aa with z | z | z | z | z | z
 ·exact .inr (.inl z)
 ·exact .inr (.inr (.inl z))
 ·exact .inr (.inr (.inr (.inl z)))
 ·exact .inr (.inr (.inr (.inr (.inl z))))
 ·exact .inl z
 ·exact .inr (.inr (.inr (.inr (.inr z))))
theorem br.VS (A:br H h ce ak lo pu st pl x):st∉pV h ce ak pu pl:=by
 have ap:=A.ap
 unfold own at ap
 unfold pV
 simp only[nodup_cons,mem_cons,not_or]at ap ⊢
 obtain⟨⟨a1,a2,jU,pk,tL⟩,⟨eY,gh,k6,BJ⟩,⟨cH,dh,e_⟩,⟨gg,e9⟩,aG,f1⟩:=ap
 exact⟨Ne.symm pk,Ne.symm k6,Ne.symm dh,Ne.symm gg,aG⟩
end
structure aq.sound (x:aq):Prop where
 a3:(x.aK.map (·.1)).Nodup
 cd:x.cg.length=x.ay.length
 d3:∀z∈x.aK,0≤z.1∧z.1<x.begun∧∀y∈z.2,y.1<x.ay.length
def aq.fit (x:aq):Prop:=(x.log.length:Int)+x.bound≤x.room
inductive mc:aq→a4→aq→Prop
 | carry {x:aq} (p:Nat) (aF:p<x.ay.length) (aR:x.cg[p]?≠x.ay[p]?) (aE:(x.log.length:Int)≤x.room):mc x (.dm p (x.ay.getD p 0)) (x.dc (.dm p (x.ay.getD p 0)))
 | cut {x:aq} (h:0<ez x.cg x.ay x.isOpen x.log) (aE:(x.log.length:Int)≤x.room):mc x (.cut (ez x.cg x.ay x.isOpen x.log)) (x.dc (.cut (ez x.cg x.ay x.isOpen x.log)))
 | put {x:aq} (d:Int) (p:Nat) (n:Int) (aF:p<x.ay.length) (aD:x.isOpen d=true) (bF:x.dT p=none∨x.dT p=some d) (aE:(x.log.length:Int)+x.bound+2≤x.room) (h0:0≤x.bound):mc x (.line (.put d p (x.ay.getD p 0) n)) ((x.c1 d p).putIn d p n)
 | dU {x:aq} (d:Int) (p:Nat) (n:Int) (aF:p<x.ay.length) (aD:x.isOpen d=true) (hm:∃o,(p,o)∈x.c7 d) (aE:(x.log.length:Int)+1≤x.room):mc x (.line (.put d p (x.ay.getD p 0) n)) (x.putIn d p n)
 | fin {x:aq} (d:Int) (aD:x.isOpen d=true) (aE:(x.log.length:Int)+1≤x.room):mc x (.line (.fin d)) (x.fK d)
inductive Path:aq→List a4→aq→Prop
 | nil (x:aq):Path x [] x
 | cons {x y z:aq} {s:a4} {l:List a4} (h:mc x s y) (t:Path y l z):Path x (s::l) z
theorem Path.trans {x y z:aq}{l k:List a4}(a:Path x l y) (b:Path y k z):Path x (l++k) z:=by
 induction a with
 | nil x=>exact b
 | cons h t b3=>exact .cons h (b3 b)
theorem Path.one {x y:aq}{s:a4}(h:mc x s y):Path x [s] y:=.cons h (.nil _)
theorem mc.facts {x y:aq}{s:a4}(h:mc x s y):y.c9=x.c9++[s]∧y.ay.length=x.ay.length∧y.room=x.room∧y.begun=x.begun:=by
 cases h with
 | carry p aF aR aE=>exact⟨rfl,rfl,rfl,rfl⟩
 | cut h aE=>exact⟨rfl,rfl,rfl,rfl⟩
 | put d p n aF aD bF aE h0=>exact⟨rfl,by show (x.ay.set p n).length=_;rw[length_set],rfl,rfl⟩
 | dU d p n aF aD hm aE=>exact⟨rfl,by show (x.ay.set p n).length=_;rw[length_set],rfl,rfl⟩
 | fin d aD aE=>exact⟨rfl,rfl,rfl,rfl⟩
theorem Path.facts {x y:aq}{l:List a4}(h:Path x l y):y.c9=x.c9++l∧y.ay.length=x.ay.length∧y.room=x.room∧y.begun=x.begun:=by
 induction h with
 | nil x=>exact⟨(append_nil _).symm,rfl,rfl,rfl⟩
 | cons h t b3 =>
  obtain⟨a,b,c,d⟩:=h.facts
  obtain⟨HM,tK,fO,d'⟩:=b3
  exact⟨by rw[HM,a,List.append_assoc];rfl,tK.trans b,fO.trans c,d'.trans d⟩
theorem Path.split {x z:aq}:∀{l k:List a4},Path x (l++k) z→∃y,Path x l y∧Path y k z:=by
 intro l
 induction l generalizing x with
 | nil=>intro k h;exact⟨x,.nil _,h⟩
 | cons s l b3 =>
  intro k h
  cases h with
  | cons m t =>
   obtain⟨y,a,b⟩:=b3 t
   exact⟨y,.cons m a,b⟩
section
variable {x:aq}{d m:Int}{p:Nat}
theorem B8:(x.d0 p).log=x.log:=by
 unfold aq.d0
 split <;> rfl
theorem Ir:(x.d0 p).room=x.room:=by
 unfold aq.d0
 split <;> rfl
theorem zg:∀{i:Nat},(x.e2 i).log=x.log
 | 0=>rfl
 | i+1=>by rw[ks,B8];exact zg
theorem za:∀{i:Nat},(x.e2 i).room=x.room
 | 0=>rfl
 | i+1=>by rw[ks,Ir];exact za
theorem Ja (aF:p<x.ay.length) (aE:(x.log.length:Int)≤x.room):∃l,Path x l (x.d0 p):=by
 unfold aq.d0
 split
 ·exact⟨[],.nil _⟩
 ·exact⟨_,.one (.carry p aF (by assumption) aE)⟩
theorem Iu (aE:(x.log.length:Int)≤x.room):∀{i:Nat},i≤x.ay.length→∃l,Path x l (x.e2 i)
 | 0,_=>⟨[],.nil _⟩
 | i+1,h=>by
  obtain⟨l,a⟩:=Iu aE (i:=i) (by omega)
  obtain⟨k,b⟩:=Ja (x:=x.e2 i) (p:=i) (by rw[rR];omega) (by rw[zg,za];exact aE)
  exact⟨l++k,by rw[ks];exact a.trans b⟩
theorem Kw (aE:(x.log.length:Int)≤x.room):∃l,Path x l x.dW:=by
 unfold aq.dW
 split
 ·exact⟨_,.one (.cut (by assumption) aE)⟩
 ·exact⟨[],.nil _⟩
theorem SX (aE:(x.log.length:Int)≤x.room):∃l,Path x l x.gk:=by
 obtain⟨l,a⟩:=Iu aE (i:=x.ay.length) (le_refl _)
 obtain⟨k,b⟩:=Kw (x:=x.e2 x.ay.length) (by rw[zg,za];exact aE)
 exact⟨l++k,by rw[ku];exact a.trans b⟩
theorem JK (aE:(x.log.length:Int)≤x.room):∃l,Path x l (x.full m).1:=by
 unfold aq.full
 split
 ·exact⟨[],.nil _⟩
 ·exact SX aE
theorem IA:∀{l:List (Nat × Int)}{x:aq},x.isOpen d=true→(∀z∈l,z.1<x.ay.length∧∃o,(z.1,o)∈x.c7 d)→(x.log.length:Int)+l.length≤x.room→∃k,Path x k (x.ee d l)
 | [],_,_,_,_=>⟨[],.nil _⟩
 | z::r,x,aD,hz,aE=>by
  have aj:=hz z mem_cons_self
  have ae9:(z::r).length=r.length+1:=rfl
  have da:(x.putIn d z.1 z.2).log.length=x.log.length+1:=by
   show (x.log++[_]).length=_
   rw[length_append,length_singleton]
  obtain⟨k,b⟩:=IA (l:=r) (x:=x.putIn d z.1 z.2) aD (fun y b6=>by
   rw[t7]
   exact hz y (mem_cons_of_mem _ b6)) (by
   show ((x.putIn d z.1 z.2).log.length:Int)+r.length≤x.room
   rw[da]
   omega)
  exact⟨_,.cons (.dU d z.1 z.2 aj.1 aD aj.2 (by omega)) b⟩
theorem vL (x:aq):0≤x.bound:=by
 show 0≤(x.aK.map fun z=>(z.2.length:Int)+1).sum
 induction x.aK with
 | nil=>exact Int.le_refl _
 | cons z r b3 =>
  rw[map_cons,sum_cons]
  omega
theorem Cm (h:x.isOpen d=true) (a3:(x.aK.map (·.1)).Nodup):((x.c7 d).length:Int)+1≤x.bound:=by
 have aj:=t_ a3 h
 have az:=vL ({ x with aK:=x.aK.filter fun z=>z.1 != d }:aq)
 omega
theorem zj:∀{l:List (Nat × Int)}{x:aq},(x.ee d l).log.length=x.log.length+l.length
 | [],_=>rfl
 | z::r,x=>by
  show ((x.putIn d z.1 z.2).ee d r).log.length=_
  rw[zj]
  show (x.log++[_]).length+r.length=_
  rw[length_append,length_singleton,length_cons]
  omega
theorem B1:x.dW.log.length≤x.log.length:=by
 unfold aq.dW
 split
 ·show (x.log.drop _).length≤_
  rw[length_drop]
  omega
 ·exact le_refl _
theorem I9:x.dW.room=x.room:=by
 unfold aq.dW
 split <;> rfl
theorem IQ:(x.full m).1.log.length≤x.log.length:=by
 rcases qK (x:=x) (m:=m) with e | e
 ·rw[e];exact le_refl _
 ·rw[e,ku]
  have:=B1 (x:=x.e2 x.ay.length)
  rw[zg]at this
  exact this
theorem vS:(x.full m).1.room=x.room:=by
 rcases qK (x:=x) (m:=m) with e | e
 ·rw[e]
 ·rw[e,ku,I9,za]
theorem Cf (h:(x.full m).2≠true):((x.full m).1.log.length:Int)+(x.full m).1.bound+m≤x.room:=by
 have key:(x.full m).1.hN m=true:=by
  unfold aq.full at h ⊢
  by_cases ai:x.hN m=true
  ·rw[if_pos ai];exact ai
  ·rw[if_neg ai]at h ⊢
   show x.gk.hN m=true
   cases e:x.gk.hN m with
   | true=>rfl
   | false=>exact absurd (show (!x.gk.hN m)=true by rw[e];rfl) h
 have:=of_decide_eq_true key
 rw[vS]at this
 exact this
end
def DM (x y:aq):Prop:=y=x∨y=x.began
def zQ (x y:aq):Prop:=y=x∨y=x.opened
theorem tY {x y:aq}(h:y.aK=x.aK) (d:Int):y.isOpen d=x.isOpen d:=by
 show y.aK.any _=x.aK.any _
 rw[h]
theorem SR {x y:aq}(h:y.aK=x.aK) (p:Nat):y.dT p=x.dT p:=by
 show (y.aK.find? _).map _=(x.aK.find? _).map _
 rw[h]
theorem qF {x y:aq}(h:y.aK=x.aK):y.bound=x.bound:=by
 show (y.aK.map _).sum=(x.aK.map _).sum
 rw[h]
theorem vZ {x:aq}(S:x.sound) (f:x.fit) (e:bZ):∃y z,DM x y∧Path y (x.row e) z∧zQ z (x.a5 e).1:=by
 have aa:=vL x
 have aE:(x.log.length:Int)≤x.room:=by have rK:(x.log.length:Int)+x.bound≤x.room:=f;omega
 have fin:∀{y z:aq} {l:List a4},DM x y→Path y l z→zQ z (x.a5 e).1→∃y z,DM x y∧Path y (x.row e) z∧zQ z (x.a5 e).1:=by
  intro y z l a b c
  have aj:=b.facts.1
  have fF:y.c9=x.c9:=by rcases a with rfl | rfl <;> rfl
  have gd:(x.a5 e).1.c9=z.c9:=by
   rcases c with h | h
   ·rw[h]
   ·rw[h];rfl
  rw[B4,aj,fF]at gd
  have:=List.append_cancel_left gd
  rw[this]
  exact⟨y,z,a,b,c⟩
 cases dz:x.refusal e with
 | some w =>
  refine fin (.inl rfl) (.nil _) (.inl ?_)
  unfold aq.a5
  rw[dz]
 | none =>
  have aY:x.a5 e=x.gp e:=by
   unfold aq.a5
   rw[dz]
  cases e with
  | begin =>
   obtain⟨l,a⟩:=JK (x:=x.began) (m:=1) aE
   refine fin (.inr rfl) a ?_
   rw[aY]
   show zQ _ (if (x.began.full 1).2=true then ((x.began.full 1).1,cY.word "no room") else ((x.began.full 1).1.opened,.num x.begun)).1
   split
   ·exact .inl rfl
   ·exact .inr rfl
  | put d p n =>
   obtain⟨l,a⟩:=JK (x:=x) (m:=2) aE
   by_cases hf:(x.full 2).2=true
   ·refine fin (.inl rfl) a (.inl ?_)
    rw[aY]
    show (if (x.full 2).2=true then ((x.full 2).1,cY.word "no room") else ((((x.full 2).1.c1 d p.toNat).putIn d p.toNat n),.word "done")).1=_
    rw[if_pos hf]
   ·have aD:=iv (.inl ⟨_,_,rfl⟩) dz
    have aF:=nD (.inl ⟨_,_,rfl⟩) dz
    have bF:x.dT p.toNat=none∨x.dT p.toNat=some d:=by
     have h':(if x.isOpen d=false then some ("no dealing":Str) else if p<0∨(x.ay.length:Int)≤p then some ("no page":Str) else if x.dT p.toNat=none∨x.dT p.toNat=some d then none else some ("taken":Str))=none:=dz
     rw[if_neg (by rw[aD];decide),if_neg (by omega)]at h'
     by_cases ai:x.dT p.toNat=none∨x.dT p.toNat=some d
     ·exact ai
     ·rw[if_neg ai]at h';cases h'
    have cp:=Cf hf
    rw[←vS (x:=x) (m:=2)]at cp
    refine fin (.inl rfl) (a.trans (.one (.put d p.toNat n (by rw[oz];omega) (by rw[tY je];exact aD) (by rw[SR je];exact bF) cp (vL _)))) (.inl ?_)
    rw[aY]
    show (if (x.full 2).2=true then ((x.full 2).1,cY.word "no room") else ((((x.full 2).1.c1 d p.toNat).putIn d p.toNat n),.word "done")).1=_
    rw[if_neg hf]
  | fin d =>
   have aD:=iv (.inr (.inl rfl)) dz
   have aj:=Cm aD S.a3
   have rK:(x.log.length:Int)+x.bound≤x.room:=f
   exact fin (.inl rfl) (.one (.fin d aD (by omega))) (.inl (by rw[aY];rfl))
  | drop d =>
   have aD:=iv (.inr (.inr rfl)) dz
   have aj:=Cm aD S.a3
   have rK:(x.log.length:Int)+x.bound≤x.room:=f
   have hm:=S.d3 _ (kv aD)
   obtain⟨k,a⟩:=IA (d:=d) (l:=(x.c7 d).reverse) aD (fun z hz=>⟨hm.2.2 z (mem_reverse.mp hz),z.2,mem_reverse.mp hz⟩) (by rw[length_reverse];omega)
   refine fin (.inl rfl) (a.trans (.one (.fin d (by rw[tY mG];exact aD) ?_))) (.inl (by rw[aY];rfl))
   rw[zj,B3,length_reverse]
   omega
  | look p=>exact fin (.inl rfl) (.nil _) (.inl (by rw[aY];rfl))
  | carry p =>
   have aF:=nD (.inr (.inr rfl)) dz
   obtain⟨l,a⟩:=Ja (x:=x) (p:=p.toNat) (by omega) aE
   exact fin (.inl rfl) a (.inl (by rw[aY];rfl))
  | cut =>
   obtain⟨l,a⟩:=Kw aE
   exact fin (.inl rfl) a (.inl (by rw[aY];rfl))
section
variable {x y:aq}{d m:Int}{p:Nat}
theorem Jb:(x.d0 p).cg.length=x.cg.length:=by
 unfold aq.d0
 split
 ·rfl
 ·show (x.cg.set _ _).length=_
  rw[length_set]
theorem Jd:∀{i:Nat},(x.e2 i).cg.length=x.cg.length
 | 0=>rfl
 | i+1=>by rw[ks,Jb];exact Jd
theorem Ip:x.dW.cg=x.cg:=by
 unfold aq.dW
 split <;> rfl
theorem Ws:(x.full m).1.cg.length=x.cg.length:=by
 rcases qK (x:=x) (m:=m) with e | e
 ·rw[e]
 ·rw[e,ku,Ip,Jd]
theorem Jh:∀{l:List (Nat × Int)}{x:aq},(x.ee d l).cg.length=x.cg.length
 | [],_=>rfl
 | z::r,x=>by
  show ((x.putIn d z.1 z.2).ee d r).cg.length=_
  rw[Jh]
  rfl
theorem aq.sound.of (S:x.sound) (aF:y.aK=x.aK) (ai:y.cg.length=x.cg.length) (hd:y.ay.length=x.ay.length) (aa:x.begun≤y.begun):y.sound :=
 ⟨by rw[aF];exact S.a3,by rw[ai,hd];exact S.cd,fun z hz=>by
  rw[aF]at hz
  obtain⟨a,b,c⟩:=S.d3 z hz
  exact⟨a,by omega,fun w hw=>by rw[hd];exact c w hw⟩⟩
theorem aq.sound.full (S:x.sound):(x.full m).1.sound:=S.of je Ws (by rw[oz]) (by rw[mH];exact le_refl _)
theorem aq.sound.a5 (S:x.sound) (e:bZ):(x.a5 e).1.sound:=by
 unfold aq.a5
 cases dz:x.refusal e with
 | some w=>exact S
 | none =>
  cases e with
  | begin =>
   have So:x.began.sound:=S.of rfl rfl rfl (le_succ _)
   show (if (x.began.full 1).2=true then ((x.began.full 1).1,cY.word "no room") else ((x.began.full 1).1.opened,.num x.begun)).1.sound
   split
   ·exact So.full
   ·have tN:=So.full (m:=1)
    have aF:(x.began.full 1).1.aK=x.aK:=je
    have aa:(x.began.full 1).1.begun=x.begun+1:=mH
    refine⟨?_,tN.cd,fun z hz=>?_⟩
    ·show (((x.began.full 1).1.aK++[((((x.began.full 1).1.begun:Int) - 1),([]:List (Nat × Int)))]).map (·.1)).Nodup
     rw[map_append,aF,aa]
     refine nodup_append.mpr ⟨S.a3,by simp,fun a bo b u3=>?_⟩
     obtain⟨z,hz,rfl⟩:=mem_map.mp bo
     have:=(S.d3 z hz).2.1
     have aba:=mem_singleton.mp u3
     rw[aba]
     show z.1≠((x.begun+1:Nat):Int) - 1
     omega
    ·rcases mem_append.mp hz with h | h
     ·exact tN.d3 z h
     ·rw[mem_singleton.mp h]
      refine⟨?_,?_,fun w hw=>by cases hw⟩
      ·show (0:Int)≤((x.began.full 1).1.begun:Int) - 1
       rw[aa]
       omega
      ·show ((x.began.full 1).1.begun:Int) - 1<(x.began.full 1).1.begun
       omega
  | put d p n =>
   show (if (x.full 2).2=true then ((x.full 2).1,cY.word "no room") else ((((x.full 2).1.c1 d p.toNat).putIn d p.toNat n),.word "done")).1.sound
   have tN:=S.full (m:=2)
   split
   ·exact tN
   ·have aF:=nD (.inl ⟨_,_,rfl⟩) dz
    have hd:(x.full 2).1.ay=x.ay:=oz
    refine⟨?_,?_,fun z hz=>?_⟩
    ·show (((x.full 2).1.aK.map fun z=>if z.1=d then (z.1,z.2++[(p.toNat,(x.full 2).1.ay.getD p.toNat 0)]) else z).map (·.1)).Nodup
     have aG:(((x.full 2).1.aK.map fun z=>if z.1=d then (z.1,z.2++[(p.toNat,(x.full 2).1.ay.getD p.toNat 0)]) else z).map (·.1))=(x.full 2).1.aK.map (·.1):=by
      rw[map_map]
      refine map_congr_left fun z _=>?_
      show (if z.1=d then (z.1,z.2++_) else z).1=z.1
      split <;> rfl
     rw[aG]
     exact tN.a3
    ·show (x.full 2).1.cg.length=((x.full 2).1.ay.set _ _).length
     rw[length_set]
     exact tN.cd
    ·obtain⟨y,b6,rfl⟩:=mem_map.mp (show z∈(x.full 2).1.aK.map fun z=>if z.1=d then (z.1,z.2++[(p.toNat,(x.full 2).1.ay.getD p.toNat 0)]) else z from hz)
     obtain⟨a,b,c⟩:=tN.d3 y b6
     have ld:((((x.full 2).1.c1 d p.toNat).putIn d p.toNat n)).ay.length=(x.full 2).1.ay.length:=by
      show ((x.full 2).1.ay.set _ _).length=_
      rw[length_set]
     rw[ld]
     split
     ·refine⟨a,b,fun w hw=>?_⟩
      rcases mem_append.mp hw with h | h
      ·exact c w h
      ·rw[mem_singleton.mp h,hd]
       show p.toNat<x.ay.length
       omega
     ·exact⟨a,b,c⟩
  | fin d =>
   refine⟨?_,S.cd,fun z hz=>S.d3 z (mem_filter.mp hz).1⟩
   exact S.a3.sublist (List.Sublist.map _ (filter_sublist (l:=x.aK)))
  | drop d =>
   have HN:(x.dU d).sound:=S.of mG Jh vM (by rw[g9,vK];exact le_refl _)
   refine⟨?_,HN.cd,fun z hz=>HN.d3 z (mem_filter.mp hz).1⟩
   exact HN.a3.sublist (List.Sublist.map _ (filter_sublist (l:=(x.dU d).aK)))
  | look p=>exact S
  | carry p=>exact S.of t2 Jb (by rw[show ((x.gp (.carry p)).1).ay=x.ay from y_]) (by rw[show ((x.gp (.carry p)).1).begun=x.begun from vJ];exact le_refl _)
  | cut=>exact S.of t8 (by rw[show ((x.gp .cut).1).cg=x.cg from Ip]) (by rw[show ((x.gp .cut).1).ay=x.ay from zo]) (by rw[show ((x.gp .cut).1).begun=x.begun from vO];exact le_refl _)
theorem Iv:x.opened.bound=x.bound+1:=by
 show ((x.aK++[(((x.begun:Int) - 1),([]:List (Nat × Int)))]).map fun z=>(z.2.length:Int)+1).sum=(x.aK.map fun z=>(z.2.length:Int)+1).sum+1
 rw[map_append,sum_append]
 simp
theorem aq.fit.a5 (S:x.sound) (f:x.fit) (e:bZ):(x.a5 e).1.fit:=by
 have rK:(x.log.length:Int)+x.bound≤x.room:=f
 have yL:∀{y:aq} {m:Int},(y.log.length:Int)+y.bound≤y.room→(y.full m).1.fit:=fun {y} {m} h=>by
  have aj:=IQ (x:=y) (m:=m)
  have az:(y.full m).1.bound=y.bound:=qF je
  have ck:=vS (x:=y) (m:=m)
  show ((y.full m).1.log.length:Int)+(y.full m).1.bound≤(y.full m).1.room
  rw[az,ck]
  omega
 unfold aq.a5
 cases dz:x.refusal e with
 | some w=>exact f
 | none =>
  cases e with
  | begin =>
   show (if (x.began.full 1).2=true then ((x.began.full 1).1,cY.word "no room") else ((x.began.full 1).1.opened,.num x.begun)).1.fit
   split
   ·exact yL (y:=x.began) rK
   ·rename_i h
    have aj:=Cf h
    show ((x.began.full 1).1.log.length:Int)+(x.began.full 1).1.opened.bound≤(x.began.full 1).1.room
    rw[Iv,vS]
    have aG:x.began.room=x.room:=rfl
    omega
  | put d p n =>
   show (if (x.full 2).2=true then ((x.full 2).1,cY.word "no room") else ((((x.full 2).1.c1 d p.toNat).putIn d p.toNat n),.word "done")).1.fit
   split
   ·exact yL rK
   ·rename_i h
    have aj:=Cf h
    have aD:=iv (.inl ⟨_,_,rfl⟩) dz
    have aa:=Ck (x:=(x.full 2).1) (d:=d) (p:=p.toNat) (S.full).a3 (by rw[tY je];exact aD)
    show (((x.full 2).1.log++[bD.put d p.toNat (((x.full 2).1.c1 d p.toNat).ay.getD p.toNat 0) n]).length:Int)+((x.full 2).1.c1 d p.toNat).bound≤(x.full 2).1.room
    rw[aa,length_append,length_singleton,vS]
    omega
  | fin d =>
   have aD:=iv (.inr (.inl rfl)) dz
   have aa:=t_ S.a3 aD
   show ((x.log++[bD.fin d]).length:Int)+({ x with aK:=x.aK.filter fun z=>z.1 != d }:aq).bound≤x.room
   rw[aa,length_append,length_singleton]
   omega
  | drop d =>
   have aD:=iv (.inr (.inr rfl)) dz
   have aa:=t_ S.a3 aD
   have aG:((x.dU d).fK d).bound=({ x with aK:=x.aK.filter fun z=>z.1 != d }:aq).bound:=qF (by
    show ((x.dU d).aK.filter fun z=>z.1 != d)=_
    rw[g9,mG])
   have aL:(x.dU d).log.length=x.log.length+(x.c7 d).length:=by rw[g9,zj,length_reverse]
   have bH:(x.dU d).room=x.room:=by rw[g9,B3]
   show (((x.dU d).log++[bD.fin d]).length:Int)+((x.dU d).fK d).bound≤(x.dU d).room
   rw[aG,aa,length_append,length_singleton,aL,bH]
   omega
  | look p=>exact f
  | carry p =>
   show ((x.d0 p.toNat).log.length:Int)+(x.d0 p.toNat).bound≤(x.d0 p.toNat).room
   rw[B8,Ir,qF t2]
   exact rK
  | cut =>
   have aj:=B1 (x:=x)
   show (x.dW.log.length:Int)+x.dW.bound≤x.dW.room
   rw[I9,qF t8]
   omega
end
theorem Cv (ps:List Int) (room:Int):(b9 ps room).sound:=⟨nodup_nil,rfl,fun z hz=>(by cases hz)⟩
theorem De {ps:List Int}{room:Int}(h:0≤room):(b9 ps room).fit:=by
 show (0:Int)+0≤room
 omega
structure eL (H:ao) (h ce ak lo pu st:Addr) (pl:List (Int × Addr)) (x:aq):Prop where
 hd:H ak=some (.lst (x.ay.map V.int))
 aF:H pu=some (.bR (d6 pl))
 e6:pl.map (·.1)=x.aK.map (·.1)
 ah:∀(i:Nat) z w,pl[i]?=some z→x.aK[i]?=some w→∃ys,H z.2=some (.lst ys)∧a9 H (w.2.map pairD) ys
 bL:(x.aK.map (·.1)).Nodup
 ap:(ak::pu::pl.map (·.2)).Nodup
def jF (ak pu:Addr) (pl:List (Int × Addr)):List Addr:=ak::pu::pl.map (·.2)
section
variable {H af:ao}{h ce ak lo pu st:Addr}{pl:List (Int × Addr)}{x y:aq}
theorem br.adD (A:br H h ce ak lo pu st pl x):eL H h ce ak lo pu st pl x:=by
 have ap:=A.ap
 unfold own at ap
 simp only[nodup_cons,mem_cons,not_or]at ap
 obtain⟨_,_,⟨e_,_,oo⟩,⟨_,BF⟩,_,e⟩:=ap
 exact⟨A.hd,A.aF,A.e6,A.ah,A.bL,nodup_cons.mpr ⟨fun m=>(mem_cons.mp m).elim e_ oo,nodup_cons.mpr ⟨BF,e⟩⟩⟩
theorem eL.of (A:eL H h ce ak lo pu st pl x) (aG:y.ay=x.ay) (aL:y.aK=x.aK):eL H h ce ak lo pu st pl y :=
 ⟨by rw[aG];exact A.hd,A.aF,by rw[aL];exact A.e6,by rw[aL];exact A.ah,by rw[aL];exact A.bL,A.ap⟩
theorem eL.same (A:eL H h ce ak lo pu st pl x) (s:bx H af):eL af h ce ak lo pu st pl x:=by
 refine⟨s _ _ A.hd,s _ _ A.aF,A.e6,fun i z w a b=>?_,A.bL,A.ap⟩
 obtain⟨ys,bu,aW⟩:=A.ah i z w a b
 exact⟨ys,s _ _ bu,a9.mono s _ _ aW⟩
theorem eL.ne (A:eL H h ce ak lo pu st pl x):ak≠pu∧∀z∈pl,z.2≠ak∧z.2≠pu:=by
 have ap:=A.ap
 simp only[nodup_cons,mem_cons,not_or]at ap
 obtain⟨⟨a1,a2⟩,b,_⟩:=ap
 refine⟨a1,fun z hz=>?_⟩
 have hm:z.2∈pl.map (·.2):=mem_map.mpr ⟨z,hz,rfl⟩
 exact⟨fun e=>a2 (e ▸ hm),fun e=>b (e ▸ hm)⟩
theorem eL.isOpen (A:eL H h ce ak lo pu st pl x) (d:Int):(dF (d6 pl) (Sum.inl d)).isSome=x.isOpen d:=by
 rw[qN,Option.isSome_map,CO d A.e6]
 unfold aq.isOpen
 induction x.aK with
 | nil=>rfl
 | cons z r b3 =>
  rw[find?_cons,any_cons]
  cases z.1 == d with
  | true=>rfl
  | false=>exact b3
theorem eL.uE (A:eL H h ce ak lo pu st pl x) (d:Int):fl H pu (.int d) (dF (d6 pl) (Sum.inl d)):=.inl ⟨_,Sum.inl d,.inl A.aF,rfl,rfl⟩
theorem eL.mW (A:eL H h ce ak lo pu st pl x):pl.length=x.aK.length:=by
 have:=congrArg List.length A.e6
 rw[length_map,length_map]at this
 exact this
theorem eL.at_ (A:eL H h ce ak lo pu st pl x) {i:Nat}{z:Int × Addr}(hz:pl[i]?=some z):∃w ys,x.aK[i]?=some w∧w.1=z.1∧H z.2=some (.lst ys)∧a9 H (w.2.map pairD) ys∧fl H pu (.int z.1) (some (.ref z.2)):=by
 have aP:i<x.aK.length:=by rw[←A.mW];exact (List.getElem?_eq_some_iff.mp hz).1
 have hw:x.aK[i]?=some x.aK[i]:=getElem?_eq_getElem aP
 obtain⟨ys,bu,aW⟩:=A.ah i z _ hz hw
 have aG:(pl.map (·.1))[i]?=some z.1:=by rw[getElem?_map,hz];rfl
 have aL:(x.aK.map (·.1))[i]?=some (x.aK[i]).1:=by rw[getElem?_map,hw];rfl
 rw[A.e6,aL]at aG
 refine⟨_,ys,hw,Option.some.inj aG,bu,aW,?_⟩
 have g:=A.uE z.1
 rw[qN,lZ (by rw[A.e6];exact A.bL) hz]at g
 exact g
theorem eL.uH (A:eL H h ce ak lo pu st pl x) {b:Addr}{xs:List V}(aa:H b=some (.tup xs)):b∉jF ak pu pl:=by
 intro hm
 rcases mem_cons.mp hm with e | hm
 ·rw[e,A.hd]at aa;cases aa
 rcases mem_cons.mp hm with e | hm
 ·rw[e,A.aF]at aa;cases aa
 obtain⟨z,hz,e⟩:=mem_map.mp hm
 obtain⟨i,aP⟩:=getElem?_of_mem hz
 obtain⟨w,ys,_,_,q,_,_⟩:=A.at_ aP
 rw[e,aa]at q
 cases q
theorem eL.fy (A:eL H h ce ak lo pu st pl x) (o:hh (jF ak pu pl) H af):d1 H af:=fun b xs q=>o b _ (A.uH q) q
theorem eL.there (A:eL H h ce ak lo pu st pl x) {b:Addr}(aa:H b=none):b∉jF ak pu pl:=by
 intro hm
 rcases mem_cons.mp hm with e | hm
 ·rw[e,A.hd]at aa;cases aa
 rcases mem_cons.mp hm with e | hm
 ·rw[e,A.aF]at aa;cases aa
 obtain⟨z,hz,e⟩:=mem_map.mp hm
 obtain⟨i,aP⟩:=getElem?_of_mem hz
 obtain⟨w,ys,_,_,q,_,_⟩:=A.at_ aP
 rw[e,aa]at q
 cases q
theorem eL.uJ (A:eL H h ce ak lo pu st pl x) {c:List Int}:eL (upd H ak (.lst (c.map V.int))) h ce ak lo pu st pl { x with ay:=c }:=by
 obtain⟨dN,np⟩:=A.ne
 have kt:d1 H (upd H ak (.lst (c.map V.int))):=rX A.hd
 refine⟨aV,by rw[aB dN.symm];exact A.aF,A.e6,fun i z w a b=>?_,A.bL,A.ap⟩
 obtain⟨ys,bu,aW⟩:=A.ah i z w a b
 exact⟨ys,by rw[aB (np z (mem_of_getElem? a)).1];exact bu,a9.keep kt _ _ (er hD _) aW⟩
theorem eL.ended (A:eL H h ce ak lo pu st pl x) (d:Int):eL (upd H pu (.bR (j4 (d6 pl) (Sum.inl d)))) h ce ak lo pu st (pl.filter fun z=>z.1 != d) { x with aK:=x.aK.filter fun z=>z.1 != d }:=by
 obtain⟨dN,np⟩:=A.ne
 have kt:d1 H (upd H pu (.bR (j4 (d6 pl) (Sum.inl d)))):=d1.zT A.aF
 obtain⟨i8,nA⟩:=B0 (R:=fun z w=>z∈pl∧∃ys,H z.2=some (.lst ys)∧a9 H (w.2.map pairD) ys) (fun y=>y != d) A.e6 fun i z w p q=>⟨mem_of_getElem? p,A.ah i z w p q⟩
 have sub:(ak::pu::(pl.filter fun z=>z.1 != d).map (·.2)).Sublist (ak::pu::pl.map (·.2)):=((filter_sublist.map _).cons_cons _).cons_cons _
 refine⟨by rw[aB dN];exact A.hd,by rw[aV,La],i8,fun i z w a b=>?_,(filter_sublist.map _).nodup A.bL,sub.nodup A.ap⟩
 obtain⟨hz,ys,bu,aW⟩:=nA i z w a b
 exact⟨ys,by rw[aB (np z hz).2];exact bu,a9.keep kt _ _ (er hD _) aW⟩
theorem eL.opened (A:eL H h ce ak lo pu st pl x) {d:Int}{a:Addr}(bo:H a=some (.lst [])) (aR:a∉jF ak pu pl) (hd:x.isOpen d=false) :
  eL (upd H pu (.bR (putK (d6 pl) (Sum.inl d) (.ref a)))) h ce ak lo pu st (pl++[(d,a)]) { x with aK:=x.aK++[(d,[])] }:=by
 obtain⟨dN,np⟩:=A.ne
 have kt:d1 H (upd H pu (.bR (putK (d6 pl) (Sum.inl d) (.ref a)))):=d1.zT A.aF
 have gO:dF (d6 pl) (Sum.inl d)=none:=by
  have:=A.isOpen d
  rw[hd]at this
  exact Option.isNone_iff_eq_none.mp (by rw[←Option.not_isSome,this];rfl)
 have cu:putK (d6 pl) (Sum.inl d) (.ref a)=d6 (pl++[(d,a)]):=by
  rw[Kd _ gO]
  unfold d6
  rw[map_append]
  rfl
 have a3:¬d∈x.aK.map (·.1):=by
  intro m
  obtain⟨z,hz,e⟩:=mem_map.mp m
  have:x.isOpen d=true:=any_eq_true.mpr ⟨z,hz,by rw[e];exact beq_self_eq_true d⟩
  rw[hd]at this
  cases this
 have kX:=A.mW
 have iS:(ak::pu::(pl++[(d,a)]).map (·.2))=(ak::pu::pl.map (·.2))++[a]:=by
  rw[map_append]
  rfl
 refine⟨by rw[aB dN];exact A.hd,by rw[aV,cu],by rw[map_append,map_append,A.e6];rfl,fun i z w p q=>?_,?_,?_⟩
 ·by_cases aP:i<pl.length
  ·rw[getElem?_append_left aP]at p
   rw[getElem?_append_left (by omega)]at q
   obtain⟨ys,bu,aW⟩:=A.ah i z w p q
   exact⟨ys,by rw[aB (np z (mem_of_getElem? p)).2];exact bu,a9.keep kt _ _ (er hD _) aW⟩
  ·have sX:i=pl.length:=by
    have:=(List.getElem?_eq_some_iff.mp p).1
    rw[length_append,length_singleton]at this
    omega
   subst sX
   rw[getElem?_append_right (le_refl _),sub_self]at p
   rw[kX,getElem?_append_right (le_refl _),sub_self]at q
   have gd:(d,a)=z:=Option.some.inj p
   have ko:((d,[]):Int × List (Nat × Int))=w:=Option.some.inj q
   subst gd ko
   have na:a≠pu:=fun e=>aR (by rw[e];exact mem_cons_of_mem _ mem_cons_self)
   exact⟨[],by rw[aB na];exact bo,.nil⟩
 ·rw[map_append,nodup_append]
  refine⟨A.bL,by simp,fun u bq v aX=>?_⟩
  have iP:v=d:=by simpa using aX
  subst iP
  exact fun e=>a3 (e ▸ bq)
 ·rw[iS,nodup_append]
  refine⟨A.ap,by simp,fun u bq v aX=>?_⟩
  have iP:v=a:=by simpa using aX
  subst iP
  exact fun e=>aR (e ▸ bq)
theorem eL.c1 (A:eL H h ce ak lo pu st pl x) {i:Nat}{d:Int}{a:Addr}{ys:List V}{y:Nat × Int}{v:V}(aP:pl[i]?=some (d,a)) (bo:H a=some (.lst ys)) (aX:Rep H (pairD y) v) :
  eL (upd H a (.lst (ys++[v]))) h ce ak lo pu st pl { x with aK:=x.aK.map fun z=>if z.1=d then (z.1,z.2++[y]) else z }:=by
 obtain⟨dN,np⟩:=A.ne
 obtain⟨k3,ny⟩:=np _ (mem_of_getElem? aP)
 have kt:d1 H (upd H a (.lst (ys++[v]))):=rX bo
 have gx:(x.aK.map fun z=>if z.1=d then (z.1,z.2++[y]) else z).map (·.1)=x.aK.map (·.1):=by
  rw[map_map]
  refine map_congr_left fun z _=>?_
  show (if z.1=d then (z.1,z.2++[y]) else z).1=z.1
  split <;> rfl
 have E_:(pl.map (·.2)).Nodup:=(nodup_cons.mp (nodup_cons.mp A.ap).2).2
 refine⟨by rw[aB (Ne.symm k3)];exact A.hd,by rw[aB (Ne.symm ny)];exact A.aF,by rw[gx];exact A.e6,fun j z w p q=>?_,by rw[gx];exact A.bL,A.ap⟩
 obtain⟨ec,bu,rfl⟩:=LN q
 obtain⟨us,gM,gC⟩:=A.ah j z ec p bu
 obtain⟨eG,_,t1,d_,_,_,_⟩:=A.at_ p
 rw[bu]at t1
 cases t1
 by_cases e:z=(d,a)
 ·subst e
  rw[if_pos d_]
  rw[bo]at gM
  cases gM
  refine⟨ys++[v],aV,?_⟩
  show a9 _ ((ec.2++[y]).map pairD) _
  rw[map_append]
  exact (a9.keep kt _ _ (er hD _) gC).append (.cons (Rep.keep kt _ _ (hD y) aX) .nil)
 ·have a3:¬ec.1=d:=by
   intro c3
   have f1:=lZ (l:=pl) (by rw[A.e6];exact A.bL) p
   have f2:=lZ (l:=pl) (by rw[A.e6];exact A.bL) aP
   rw[←d_,c3]at f1
   have gc:pl.find? (fun y=>y.1 == d)=some (d,a):=f2
   rw[gc]at f1
   exact e (Option.some.inj f1).symm
  have na:z.2≠a:=by
   intro c3
   have g1:(pl.map (·.2))[j]?=some a:=by rw[getElem?_map,p];exact congrArg some c3
   have g2:(pl.map (·.2))[i]?=some a:=by rw[getElem?_map,aP];rfl
   have cD:j=i:=by
    have e8:=(List.getElem?_eq_some_iff.mp g1).1
    exact (List.getElem?_inj e8 E_).mp (g1.trans g2.symm)
   subst cD
   rw[p]at aP
   exact e (Option.some.inj aP)
  rw[if_neg a3]
  exact⟨us,by rw[aB na];exact gM,a9.keep kt _ _ (er hD _) gC⟩
theorem eL.qP (A:eL H h ce ak lo pu st pl x) {d:Int}(hd:x.isOpen d=true):∃(i:Nat) (a:Addr) (ys:List V),pl[i]?=some (d,a)∧x.aK[i]?=some (d,x.c7 d)∧H a=some (.lst ys)∧a9 H ((x.c7 d).map pairD) ys∧fl H pu (.int d) (some (.ref a)):=by
 obtain⟨w,hw,e⟩:=any_eq_true.mp hd
 obtain⟨i,aP⟩:=getElem?_of_mem hw
 have cF:w.1=d:=beq_iff_eq.mp e
 have aC:i<pl.length:=by rw[A.mW];exact (List.getElem?_eq_some_iff.mp aP).1
 have hz:pl[i]?=some pl[i]:=getElem?_eq_getElem aC
 obtain⟨eG,ys,bu,aW,fs,ju,ml⟩:=A.at_ hz
 rw[aP]at bu
 cases bu
 have cu:x.c7 d=w.2:=by
  unfold aq.c7
  have:=lZ A.bL aP
  rw[cF]at this
  rw[this]
  rfl
 have gd:pl[i]=(d,(pl[i]).2):=by
  rw[←cF,aW]
 refine⟨i,(pl[i]).2,ys,by rw[hz];exact congrArg some gd,by rw[aP,cu,←cF],fs,by rw[cu];exact ju,?_⟩
 rw[←aW,cF]at ml
 exact ml
end
def jA (l:List (Nat × Int)) (ds:List Int):List Int:=l.foldl (fun ds z=>ds.set z.1 z.2) ds
section
variable {x:aq}{d m:Int}{p:Nat}{e:bZ}
theorem B_:∀{l:List (Nat × Int)}{x:aq},(x.ee d l).ay=jA l x.ay
 | [],_=>rfl
 | z::l,x=>by
  show ((x.putIn d z.1 z.2).ee d l).ay=_
  rw[B_]
  rfl
structure ads (x y:aq) (m:Int):Prop where
 ce:y.cg=x.ay
 ak:y.ay=x.ay
 pu:y.aK=x.aK
 nn:ez y.cg y.ay y.isOpen y.log=0
 lo:x.room<(y.log.length:Int)+x.bound+m
end
def a4.n0 (cs:List Int):a4→List Int
 | .dm p n=>cs.set p n
 | _=>cs
def a4.iN (l:List bD):a4→List bD
 | .line ln=>l++[ln]
 | .cut k=>l.drop k
 | _=>l
theorem mc.x7 {x y:aq}{s:a4}(h:mc x s y):y.cg=s.n0 x.cg∧y.log=s.iN x.log∧(y.log.length:Int)≤x.room:=by
 cases h with
 | carry p aF aR aE=>exact⟨rfl,rfl,aE⟩
 | cut h aE=>exact⟨rfl,rfl,by
   show ((x.log.drop (ez x.cg x.ay x.isOpen x.log)).length:Int)≤_
   rw[length_drop]
   omega⟩
 | put d p n aF aD bF aE h0=>exact⟨rfl,rfl,by
   show ((x.log++[_]).length:Int)≤_
   rw[length_append,length_singleton]
   omega⟩
 | dU d p n aF aD hm aE=>exact⟨rfl,rfl,by
   show ((x.log++[_]).length:Int)≤_
   rw[length_append,length_singleton]
   omega⟩
 | fin d aD aE=>exact⟨rfl,rfl,by
   show ((x.log++[_]).length:Int)≤_
   rw[length_append,length_singleton]
   omega⟩
theorem Path.x7 {x y:aq}{l:List a4}(h:Path x l y):y.cg=l.foldl a4.n0 x.cg∧y.log=l.foldl a4.iN x.log:=by
 induction h with
 | nil x=>exact⟨rfl,rfl⟩
 | cons m t b3 =>
  obtain⟨a,b,_⟩:=m.x7
  rw[foldl_cons,foldl_cons,←a,←b]
  exact b3
section
variable {X:bI}
end
def fJ (op:Int→Bool):List bD→Nat→Option Int
 | [],_=>none
 | .put d p o _::r,q=>if p=q∧op d=true then some o else fJ op r q
 | .fin _::r,q=>fJ op r q
def gy (op:Int→Bool):List bD→Prop
 | []=>True
 | .put d _ _ _::r=>(op d=false→bD.fin d∈r)∧gy op r
 | .fin d::r=>op d=false∧gy op r
section
variable {op nO:Int→Bool}{d o n:Int}{p q:Nat}
theorem gy.drop:∀{l:List bD}(k:Nat),gy op l→gy op (l.drop k)
 | [],k,h=>by rw[List.drop_nil];exact h
 | _::_,0,h=>h
 | .put _ _ _ _::r,k+1,h=>gy.drop (l:=r) k h.2
 | .fin _::r,k+1,h=>gy.drop (l:=r) k h.2
theorem gy.fin:∀{l:List bD},gy op l→bD.fin d∈l→op d=false
 | .put _ _ _ _::r,h,m=>by
  rcases mem_cons.mp m with z | z
  ·cases z
  ·exact gy.fin h.2 z
 | .fin _::r,h,m=>by
  rcases mem_cons.mp m with z | z
  ·cases z;exact h.1
  ·exact gy.fin h.2 z
theorem gy.put:∀{l:List bD},gy op l→bD.put d p o n∈l→op d=false→bD.fin d∈l
 | .put _ _ _ _::r,h,m,e=>by
  rcases mem_cons.mp m with z | z
  ·cases z;exact mem_cons_of_mem _ (h.1 e)
  ·exact mem_cons_of_mem _ (gy.put h.2 z e)
 | .fin _::r,h,m,e=>by
  rcases mem_cons.mp m with z | z
  ·cases z
  ·exact mem_cons_of_mem _ (gy.put h.2 z e)
theorem gy.snoc {ln:bD}:∀{l:List bD},gy op l→(∀d,nO d=false→op d=false∨ln=.fin d)→(∀d,bD.fin d∈l→op d=false→nO d=false)→gy nO [ln]→gy nO (l++[ln])
 | [],_,_,_,h=>h
 | .put d p o n::r,h,aj,az,ck=>⟨fun e=>by
   rcases aj d e with z | z
   ·exact mem_append_left _ (h.1 z)
   ·exact mem_append_right _ (by rw[z];exact mem_cons_self),gy.snoc h.2 aj (fun d m=>az d (mem_cons_of_mem _ m)) ck⟩
 | .fin d::r,h,aj,az,ck=>⟨az d mem_cons_self h.1,gy.snoc h.2 aj (fun d m=>az d (mem_cons_of_mem _ m)) ck⟩
theorem gy.congr:∀{l:List bD},gy op l→(∀d,nO d=false→op d=false)→(∀d,bD.fin d∈l→op d=false→nO d=false)→gy nO l
 | [],_,_,_=>True.intro
 | .put d p o n::r,h,aj,az=>⟨fun e=>h.1 (aj d e),gy.congr h.2 aj fun d m=>az d (mem_cons_of_mem _ m)⟩
 | .fin d::r,h,aj,az=>⟨az d mem_cons_self h.1,gy.congr h.2 aj fun d m=>az d (mem_cons_of_mem _ m)⟩
theorem y5:∀{l:List bD},(∀d o n,bD.put d q o n∈l→op d=nO d)→fJ op l q=fJ nO l q
 | [],_=>rfl
 | .fin d::r,h=>y5 (l:=r) fun d o n hm=>h d o n (mem_cons_of_mem _ hm)
 | .put d p o n::r,h=>by
  have b3:=y5 (l:=r) fun d o n hm=>h d o n (mem_cons_of_mem _ hm)
  show (if p=q∧op d=true then some o else fJ op r q)=(if p=q∧nO d=true then some o else fJ nO r q)
  by_cases e:p=q
  ·subst e
   rw[h d o n mem_cons_self,b3]
  ·rw[if_neg fun z=>e z.1,if_neg fun z=>e z.1]
   exact b3
theorem BV:∀{l:List bD},(∀d o n,bD.put d q o n∈l→op d=false)→fJ op l q=none
 | [],_=>rfl
 | .fin d::r,h=>BV (l:=r) fun d o n hm=>h d o n (mem_cons_of_mem _ hm)
 | .put d p o n::r,h=>by
  show (if p=q∧op d=true then some o else fJ op r q)=none
  rw[if_neg]
  ·exact BV (l:=r) fun d o n hm=>h d o n (mem_cons_of_mem _ hm)
  ·rintro⟨e,aL⟩
   subst e
   rw[h d o n mem_cons_self]at aL
   cases aL
theorem vH (a b:List bD):fJ op (a++b) q=(fJ op a q).or (fJ op b q):=by
 induction a with
 | nil=>rfl
 | cons ln r b3 =>
  cases ln with
  | fin d=>exact b3
  | put d p o n =>
   show (if p=q∧op d=true then some o else fJ op (r++b) q)=(if p=q∧op d=true then some o else fJ op r q).or _
   by_cases h:p=q∧op d=true
   ·rw[if_pos h,if_pos h];rfl
   ·rw[if_neg h,if_neg h];exact b3
theorem BU {full:List bD}:∀{l:List bD},(∀d o n,bD.put d q o n∈l→j0 full d = !op d)→nE full l q=fJ op l q
 | [],_=>rfl
 | .fin d::r,h=>BU (l:=r) fun d o n hm=>h d o n (mem_cons_of_mem _ hm)
 | .put d p o n::r,h=>by
  have b3:=BU (l:=r) fun d o n hm=>h d o n (mem_cons_of_mem _ hm)
  show (if p=q∧j0 full d=false then some o else nE full r q)=(if p=q∧op d=true then some o else fJ op r q)
  by_cases e:p=q
  ·subst e
   rw[h d o n mem_cons_self,b3]
   cases op d <;> simp
  ·rw[if_neg fun z=>e z.1,if_neg fun z=>e z.1]
   exact b3
theorem gy.ED {l:List bD}(h:gy op l):nE l l q=fJ op l q :=
 BU fun d o n m=>by
  cases e:op d with
  | false=>exact Ci.mpr (h.put m e)
  | true =>
   refine Bool.eq_false_iff.mpr fun z=>?_
   rw[h.fin (Ci.mp z)]at e
   cases e
theorem Tj:∀{l:List bD},ey l q none=none→l.any (i0 q)=false:=fun {l} h=>by
 refine Bool.eq_false_iff.mpr fun z=>?_
 obtain⟨ln,hm,e⟩:=any_eq_true.mp z
 cases ln with
 | fin d=>cases e
 | put d p o n =>
  have cF:p=q:=of_decide_eq_true e
  subst cF
  exact S8 ⟨d,o,n,hm⟩ h
theorem y9 (ce ak:List Int) (op:Int→Bool):∀l:List bD,fJ op (l.drop (ez ce ak op l)) q=fJ op l q
 | []=>rfl
 | .fin d::r=>by
  show fJ op ((bD.fin d::r).drop (ez ce ak op r+1)) q=fJ op r q
  rw[drop_succ_cons]
  exact y9 ce ak op r
 | .put d p o n::r=>by
  have e:ez ce ak op (.put d p o n::r)=if op d=true∨(r.any (i0 p)=false∧ce[p]?≠ak[p]?) then 0 else ez ce ak op r+1:=rfl
  by_cases c:op d=true∨(r.any (i0 p)=false∧ce[p]?≠ak[p]?)
  ·rw[e,if_pos c];rfl
  ·rw[e,if_neg c,drop_succ_cons,y9 ce ak op r]
   show _=if p=q∧op d=true then some o else fJ op r q
   rw[if_neg fun z=>c (.inl z.2)]
theorem zd (ce ak:List Int) (op:Int→Bool):∀l:List bD,ey (l.drop (ez ce ak op l)) q none=ey l q none∨(ey (l.drop (ez ce ak op l)) q none=none∧ce[q]?=ak[q]?)
 | []=>.inl rfl
 | .fin d::r=>by
  show ey ((bD.fin d::r).drop (ez ce ak op r+1)) q none=ey r q none∨(ey ((bD.fin d::r).drop (ez ce ak op r+1)) q none=none∧_)
  rw[drop_succ_cons]
  exact zd ce ak op r
 | .put d p o n::r=>by
  have e:ez ce ak op (.put d p o n::r)=if op d=true∨(r.any (i0 p)=false∧ce[p]?≠ak[p]?) then 0 else ez ce ak op r+1:=rfl
  by_cases c:op d=true∨(r.any (i0 p)=false∧ce[p]?≠ak[p]?)
  ·rw[e,if_pos c];exact .inl rfl
  ·rw[e,if_neg c,drop_succ_cons]
   rcases zd ce ak op r with h | h
   ·have aL:ey (.put d p o n::r) q none=(ey r q none).or (if p=q then some n else none):=IK r q _
    rw[aL]
    cases aE:ey r q none with
    | some v=>rw[h,aE];exact .inl rfl
    | none =>
     rw[aE]at h
     by_cases cu:p=q
     ·subst cu
      have az:ce[p]?=ak[p]?:=Classical.byContradiction fun z=>c (.inr ⟨Tj aE,z⟩)
      exact .inr ⟨h,az⟩
     ·rw[h,if_neg cu];exact .inl rfl
   ·exact .inr h
end
def aq.has (y:aq) (d:Int) (q:Nat):Prop:=∃l o,(d,l)∈y.aK∧(q,o)∈l
structure J (y:aq) (c:List Int) (b:Int):Prop where
 cl:c.length=y.ay.length
 cd:y.cg.length=y.ay.length
 ln:∀q v,ey y.log q none=some v→y.ay[q]?=some v
 ep:∀q,ey y.log q none=none→y.cg[q]?=y.ay[q]?
 bB:∀d q,y.has d q→fJ y.isOpen y.log q=c[q]?
 eo:∀q,(∀d,¬y.has d q)→fJ y.isOpen y.log q=none∧y.ay[q]?=c[q]?
 da:gy y.isOpen y.log
 un:∀d d' q,y.has d q→y.has d' q→d=d'
 pt:∀d q o n,bD.put d q o n∈y.log→y.isOpen d=true→y.has d q
 gv:∀d l q z,(d,l)∈y.aK→l.find? (fun e=>e.1 == q)=some z→c[q]?=some z.2
 b0:∀d,bD.fin d∈y.log→d<b
 lV:∀d,y.isOpen d=true→d<b
 iH:∀d q o n,bD.put d q o n∈y.log→d<b
 a3:(y.aK.map (·.1)).Nodup
 d3:∀d l q o,(d,l)∈y.aK→(q,o)∈l→q<y.ay.length
section
variable {y y':aq}{c fO:List Int}{b d n:Int}{p q:Nat}
theorem J.of (h:J y c b) (aG:y'.cg=y.cg) (aL:y'.ay=y.ay) (bH:y'.log=y.log) (bS:y'.aK=y.aK):J y' c b:=by
 obtain⟨ce,ak,lo,pu,ih,be,st⟩:=y
 obtain⟨aeX,aee,lo',adF,adE,aeY,hE⟩:=y'
 cases aG;cases aL;cases bH;cases bS
 exact⟨h.cl,h.cd,h.ln,h.ep,h.bB,h.eo,h.da,h.un,h.pt,h.gv,h.b0,h.lV,h.iH,h.a3,h.d3⟩
theorem J.want (h:J y c b):kp y.cg y.log c:=by
 refine⟨by rw[h.cl,h.cd],fun q v aX=>?_⟩
 have bk:q<c.length:=by rw[h.cl,←h.cd];exact (List.getElem?_eq_some_iff.mp aX).1
 have ai:c[q]?=some c[q]:=getElem?_eq_getElem bk
 unfold oB
 rw[h.da.ED]
 by_cases t:∃d,y.has d q
 ·obtain⟨d,t⟩:=t
  rw[h.bB d q t,ai]
  rfl
 ·have t':∀d,¬y.has d q:=fun d z=>t ⟨d,z⟩
  obtain⟨aj,az⟩:=h.eo q t'
  rw[aj]
  show c[q]?=some ((ey y.log q none).getD v)
  cases aC:ey y.log q none with
  | some u=>rw[←az,h.ln q u aC];rfl
  | none=>rw[←az,←h.ep q aC,aX];rfl
theorem J.dm (h:J y c b) (aF:p<y.ay.length):J (y.dc (.dm p (y.ay.getD p 0))) c b:=by
 refine⟨h.cl,?_,h.ln,fun q bk=>?_,h.bB,h.eo,h.da,h.un,h.pt,h.gv,h.b0,h.lV,h.iH,h.a3,h.d3⟩
 ·show (y.cg.set p _).length=_
  rw[length_set];exact h.cd
 ·show (y.cg.set p (y.ay.getD p 0))[q]?=y.ay[q]?
  by_cases e:q=p
  ·subst e
   rw[getElem?_set_self (by rw[h.cd];exact aF),getD_eq_getElem?_getD,getElem?_eq_getElem aF]
   rfl
  ·rw[getElem?_set_ne (Ne.symm e)]
   exact h.ep q bk
theorem J.d0 (h:J y c b) (aF:p<y.ay.length):J (y.d0 p) c b:=by
 unfold aq.d0
 split
 ·exact h
 ·exact h.dm aF
theorem J.mY (h:J y c b):J (y.dc (.cut (ez y.cg y.ay y.isOpen y.log))) c b:=by
 have sub:∀ln,ln∈y.log.drop (ez y.cg y.ay y.isOpen y.log)→ln∈y.log:=fun ln m=>List.mem_of_mem_drop m
 refine⟨h.cl,h.cd,fun q v aX=>?_,fun q bk=>?_,fun d q t=>?_,fun q t=>?_,h.da.drop _,h.un,fun d q o n m=>h.pt d q o n (sub _ m),h.gv,fun d m=>h.b0 d (sub _ m),h.lV,fun d q o n m=>h.iH d q o n (sub _ m),h.a3,h.d3⟩
 ·have aX:ey (y.log.drop (ez y.cg y.ay y.isOpen y.log)) q none=some v:=aX
  rcases zd (q:=q) y.cg y.ay y.isOpen y.log with z | z
  ·rw[z]at aX;exact h.ln q v aX
  ·rw[z.1]at aX;cases aX
 ·have bk:ey (y.log.drop (ez y.cg y.ay y.isOpen y.log)) q none=none:=bk
  rcases zd (q:=q) y.cg y.ay y.isOpen y.log with z | z
  ·rw[z]at bk;exact h.ep q bk
  ·exact z.2
 ·show fJ y.isOpen (y.log.drop _) q=_
  rw[y9];exact h.bB d q t
 ·show fJ y.isOpen (y.log.drop _) q=_∧_
  rw[y9];exact h.eo q t
theorem J.dW (h:J y c b):J y.dW c b:=by
 unfold aq.dW
 split
 ·exact h.mY
 ·exact h
theorem J.e2 (h:J y c b):∀{i:Nat},i≤y.ay.length→J (y.e2 i) c b
 | 0,_=>h
 | i+1,aP=>by
  rw[ks]
  exact (J.e2 h (i:=i) (by omega)).d0 (by rw[rR];omega)
theorem J.full (h:J y c b) (m:Int):J (y.full m).1 c b:=by
 unfold aq.full
 split
 ·exact h
 ·show J y.gk c b
  rw[ku]
  exact (h.e2 (le_refl _)).dW
theorem J.MY (h:J y c b) (aF:p<y.ay.length) (aD:y.isOpen d=true) (hd:y.has d p):J (y.putIn d p n) c b:=by
 have da:(y.putIn d p n).log=y.log++[.put d p (y.ay.getD p 0) n]:=rfl
 have d8:(y.putIn d p n).ay=y.ay.set p n:=rfl
 have iG:(y.putIn d p n).isOpen=y.isOpen:=rfl
 have kZ:(y.putIn d p n).has=y.has:=rfl
 have ld:(y.putIn d p n).ay.length=y.ay.length:=t7
 have q_:∀q,ey (y.putIn d p n).log q none=if p=q then some n else ey y.log q none:=fun q=>by
  rw[da,vI];rfl
 have mem:∀ln,ln∈(y.putIn d p n).log→ln∈y.log∨ln=.put d p (y.ay.getD p 0) n:=fun ln m=>by
  rw[da]at m
  rcases mem_append.mp m with z | z
  ·exact .inl z
  ·exact .inr (mem_singleton.mp z)
 refine⟨by rw[ld];exact h.cl,by rw[ld];exact h.cd,fun q v aX=>?_,fun q bk=>?_,fun d' q t=>?_,fun q t=>?_,?_,h.un,fun d' q o kj m e=>?_,h.gv,fun d' m=>?_,h.lV,fun d' q o kj m=>?_,h.a3,fun d' l q o cp cy=>by rw[ld];exact h.d3 d' l q o cp cy⟩
 ·rw[q_]at aX
  rw[d8]
  by_cases e:p=q
  ·rw[if_pos e]at aX
   cases aX
   rw[←e,getElem?_set_self aF]
  ·rw[if_neg e]at aX
   rw[getElem?_set_ne e]
   exact h.ln q v aX
 ·rw[q_]at bk
  rw[d8]
  by_cases e:p=q
  ·rw[if_pos e]at bk;cases bk
  ·rw[if_neg e]at bk
   rw[getElem?_set_ne e]
   exact h.ep q bk
 ·rw[iG,da,vH]
  have aj:=h.bB d' q t
  rw[aj]
  have bk:q<c.length:=by
   obtain⟨l,o,cp,cy⟩:=t
   rw[h.cl];exact h.d3 d' l q o cp cy
  rw[getElem?_eq_getElem bk]
  rfl
 ·have hg:p≠q:=fun e=>t d (by rw[←e];exact hd)
  obtain⟨aj,az⟩:=h.eo q t
  refine⟨?_,by rw[d8,getElem?_set_ne hg];exact az⟩
  rw[iG,da,vH,aj]
  show (none:Option Int).or (if p=q∧y.isOpen d=true then _ else none)=none
  rw[if_neg fun z=>hg z.1]
  rfl
 ·rw[iG,da]
  refine h.da.snoc (fun d z=>.inl z) (fun d _ z=>z) ⟨fun z=>?_,True.intro⟩
  rw[aD]at z;cases z
 ·rcases mem _ m with z | z
  ·exact h.pt d' q o kj z e
  ·cases z;exact hd
 ·rcases mem _ m with z | z
  ·exact h.b0 d' z
  ·cases z
 ·rcases mem _ m with z | z
  ·exact h.iH d' q o kj z
  ·cases z;exact h.lV d aD
theorem UR (aD:y.isOpen d=true) {d':Int}:(y.c1 d p).has d' q↔y.has d' q∨(d'=d∧q=p):=by
 constructor
 ·rintro⟨l,o,cp,cy⟩
  obtain⟨z,hz,e⟩:=mem_map.mp cp
  by_cases c:z.1=d
  ·rw[if_pos c]at e
   cases e
   rcases mem_append.mp cy with k | k
   ·exact .inl ⟨z.2,o,hz,k⟩
   ·have:=mem_singleton.mp k
    cases this
    exact .inr ⟨c,rfl⟩
  ·rw[if_neg c]at e
   subst e
   exact .inl ⟨l,o,hz,cy⟩
 ·rintro (⟨l,o,cp,cy⟩ | ⟨rfl,rfl⟩)
  ·by_cases c:d'=d
   ·exact⟨_,o,mem_map.mpr ⟨(d',l),cp,if_pos c⟩,mem_append_left _ cy⟩
   ·exact⟨l,o,mem_map.mpr ⟨(d',l),cp,if_neg c⟩,cy⟩
  ·exact⟨_,_,mem_map.mpr ⟨_,kv aD,if_pos rfl⟩,mem_append_right _ mem_cons_self⟩
theorem T4 {d':Int}:(y.c1 d p).isOpen d'=y.isOpen d':=by
 unfold aq.isOpen aq.c1
 show (y.aK.map _).any _=_
 rw[any_map]
 congr 1
 funext z
 show ((if z.1=d then (z.1,z.2++[_]) else z).1 == d')=(z.1 == d')
 split <;> rfl
theorem Ji:(y.c1 d p).aK.map (·.1)=y.aK.map (·.1):=by
 show (y.aK.map _).map _=_
 rw[map_map]
 refine map_congr_left fun z _=>?_
 show (if z.1=d then (z.1,z.2++[_]) else z).1=z.1
 split <;> rfl
theorem CH {l:List (Nat × Int)}(a3:(y.aK.map (·.1)).Nodup) (m:(d,l)∈y.aK):y.c7 d=l:=by
 obtain⟨i,aP⟩:=getElem?_of_mem m
 unfold aq.c7
 rw[lZ a3 aP]
 rfl
theorem J.put (h:J y c b) (aF:p<y.ay.length) (aD:y.isOpen d=true) (bq:∀d',y.has d' p→d'=d):J ((y.c1 d p).putIn d p n) c b:=by
 have kZ:∀{d':Int} {q:Nat},((y.c1 d p).putIn d p n).has d' q↔y.has d' q∨(d'=d∧q=p):=UR aD
 have iG:((y.c1 d p).putIn d p n).isOpen=y.isOpen:=funext fun d'=>T4
 have da:((y.c1 d p).putIn d p n).log=y.log++[.put d p (y.ay.getD p 0) n]:=rfl
 have d8:((y.c1 d p).putIn d p n).ay=y.ay.set p n:=rfl
 have ld:((y.c1 d p).putIn d p n).ay.length=y.ay.length:=by rw[d8,length_set]
 have q_:∀q,ey ((y.c1 d p).putIn d p n).log q none=if p=q then some n else ey y.log q none:=fun q=>by
  rw[da,vI];rfl
 have PX:y.ay[p]?=some (y.ay.getD p 0):=by rw[getD_eq_getElem?_getD,getElem?_eq_getElem aF];rfl
 have mem:∀ln,ln∈((y.c1 d p).putIn d p n).log→ln∈y.log∨ln=.put d p (y.ay.getD p 0) n:=fun ln m=>by
  rw[da]at m
  rcases mem_append.mp m with z | z
  ·exact .inl z
  ·exact .inr (mem_singleton.mp z)
 have old:y.has d p∨∀d',¬y.has d' p:=by
  by_cases t:y.has d p
  ·exact .inl t
  ·exact .inr fun d' z=>t (by rw[←bq d' z];exact z)
 refine⟨by rw[ld];exact h.cl,by rw[ld];exact h.cd,fun q v aX=>?_,fun q bk=>?_,fun d' q t=>?_,fun q t=>?_,?_,fun gg e9 q t1 d_=>?_,fun d' q o kj m e=>?_,fun d' l q z m hf=>?_,fun d' m=>?_,fun d' e=>h.lV d' (by rw[←iG];exact e),fun d' q o kj m=>?_,by rw[show ((y.c1 d p).putIn d p n).aK=(y.c1 d p).aK from rfl,Ji];exact h.a3,fun d' l q o cp cy=>?_⟩
 ·rw[q_]at aX
  rw[d8]
  by_cases e:p=q
  ·rw[if_pos e]at aX
   cases aX
   rw[←e,getElem?_set_self aF]
  ·rw[if_neg e]at aX
   rw[getElem?_set_ne e]
   exact h.ln q v aX
 ·rw[q_]at bk
  rw[d8]
  by_cases e:p=q
  ·rw[if_pos e]at bk;cases bk
  ·rw[if_neg e]at bk
   rw[getElem?_set_ne e]
   exact h.ep q bk
 ·rw[iG,da,vH]
  have fin:∀Bg,y.has Bg q→(fJ y.isOpen y.log q).or (fJ y.isOpen [bD.put d p (y.ay.getD p 0) n] q)=c[q]?:=fun Bg NT=>by
   have bk:q<c.length:=by
    obtain⟨l,o,cp,cy⟩:=NT
    rw[h.cl];exact h.d3 Bg l q o cp cy
   rw[h.bB Bg q NT,getElem?_eq_getElem bk]
   rfl
  rcases kZ.mp t with z | ⟨_,z⟩
  ·exact fin d' z
  ·rw[z]at fin ⊢
   rcases old with k | k
   ·exact fin d k
   ·obtain⟨aj,az⟩:=h.eo p k
    rw[aj]
    show (none:Option Int).or (if p=p∧y.isOpen d=true then some (y.ay.getD p 0) else none)=c[p]?
    rw[if_pos ⟨rfl,aD⟩,←az,PX]
    rfl
 ·have hg:p≠q:=fun e=>t d (kZ.mpr (.inr ⟨rfl,e.symm⟩))
  obtain⟨aj,az⟩:=h.eo q fun d' z=>t d' (kZ.mpr (.inl z))
  refine⟨?_,by rw[d8,getElem?_set_ne hg];exact az⟩
  rw[iG,da,vH,aj]
  show (none:Option Int).or (if p=q∧y.isOpen d=true then _ else none)=none
  rw[if_neg fun z=>hg z.1]
  rfl
 ·rw[iG,da]
  refine h.da.snoc (fun d z=>.inl z) (fun d _ z=>z) ⟨fun z=>?_,True.intro⟩
  rw[aD]at z;cases z
 ·rcases kZ.mp t1 with du | ⟨du,fh⟩ <;> rcases kZ.mp d_ with dK | ⟨dK,eG⟩
  ·exact h.un gg e9 q du dK
  ·rw[dK];exact bq gg (by rw[←eG];exact du)
  ·rw[du];exact (bq e9 (by rw[←fh];exact dK)).symm
  ·rw[du,dK]
 ·rw[iG]at e
  rcases mem _ m with z | z
  ·exact kZ.mpr (.inl (h.pt d' q o kj z e))
  ·cases z;exact kZ.mpr (.inr ⟨rfl,rfl⟩)
 ·obtain⟨w,hw,e⟩:=mem_map.mp m
  by_cases k:w.1=d
  ·rw[if_pos k]at e
   cases e
   rw[List.find?_append]at hf
   cases u1:w.2.find? (fun e=>e.1 == q) with
   | some du =>
    rw[u1]at hf
    have gd:du=z:=Option.some.inj (show some du=some z from hf)
    rw[gd]at u1
    exact h.gv w.1 w.2 q z hw u1
   | none =>
    rw[u1]at hf
    have ri:List.find? (fun e:Nat × Int=>e.1 == q) [(p,y.ay.getD p 0)]=some z:=hf
    rw[find?_cons]at ri
    by_cases e:p=q
    ·rw[show (((p,y.ay.getD p 0):Nat × Int).1 == q)=true from beq_iff_eq.mpr e]at ri
     cases Option.some.inj ri
     subst e
     have ki:∀d',¬y.has d' p:=fun d' t=>by
      have bH:=bq d' t
      subst bH
      obtain⟨gu,b7,cp,cy⟩:=t
      have bS:=CH h.a3 cp
      have ek:=CH h.a3 (l:=w.2) (d:=d') (by rw[←k];exact hw)
      rw[ek]at bS
      rw[←bS]at cy
      have:=find?_eq_none.mp u1 _ cy
      exact this (beq_self_eq_true p)
     show c[p]?=some (y.ay.getD p 0)
     rw[←(h.eo p ki).2,PX]
    ·rw[show (((p,y.ay.getD p 0):Nat × Int).1 == q)=false from beq_eq_false_iff_ne.mpr e]at ri
     cases ri
  ·rw[if_neg k]at e
   subst e
   exact h.gv d' l q z hw hf
 ·rcases mem _ m with z | z
  ·exact h.b0 d' z
  ·cases z
 ·rcases mem _ m with z | z
  ·exact h.iH d' q o kj z
  ·cases z;exact h.lV d aD
 ·rw[ld]
  rcases kZ.mp ⟨l,o,cp,cy⟩ with ⟨gu,b7,du,dK⟩ | ⟨_,z⟩
  ·exact h.d3 d' gu q b7 du dK
  ·rw[z];exact aF
theorem vU {d':Int}:(y.fK d).has d' q↔y.has d' q∧d'≠d:=by
 constructor
 ·rintro⟨l,o,cp,cy⟩
  obtain⟨a,e⟩:=mem_filter.mp cp
  exact⟨⟨l,o,a,cy⟩,bne_iff_ne.mp e⟩
 ·rintro⟨⟨l,o,cp,cy⟩,e⟩
  exact⟨l,o,mem_filter.mpr ⟨cp,bne_iff_ne.mpr e⟩,cy⟩
theorem rW {d':Int}:(y.fK d).isOpen d'=(y.isOpen d' && d' != d):=by
 show (y.aK.filter fun z=>z.1 != d).any (fun z=>z.1 == d')=_
 rw[Bool.eq_iff_iff,and_eq_true]
 constructor
 ·intro h
  obtain⟨z,hz,e⟩:=any_eq_true.mp h
  obtain⟨a,aL⟩:=mem_filter.mp hz
  have bH:z.1=d':=beq_iff_eq.mp e
  exact⟨any_eq_true.mpr ⟨z,a,e⟩,by rw[←bH];exact aL⟩
 ·rintro⟨h,e⟩
  obtain⟨z,hz,aL⟩:=any_eq_true.mp h
  have bH:z.1=d':=beq_iff_eq.mp aL
  exact any_eq_true.mpr ⟨z,mem_filter.mpr ⟨hz,by rw[bH];exact e⟩,aL⟩
theorem J.fK (h:J y c b) (aD:y.isOpen d=true) (aC:fO.length=c.length) (aj:∀q,y.has d q→fO[q]?=y.ay[q]?) (az:∀q,¬y.has d q→fO[q]?=c[q]?):J (y.fK d) fO b:=by
 have da:(y.fK d).log=y.log++[.fin d]:=rfl
 have mem:∀ln,ln∈(y.fK d).log→ln∈y.log∨ln=.fin d:=fun ln m=>by
  rw[da]at m
  rcases mem_append.mp m with z | z
  ·exact .inl z
  ·exact .inr (mem_singleton.mp z)
 have q_:∀q,ey (y.fK d).log q none=ey y.log q none:=fun q=>by
  rw[da,vI];rfl
 have w4:∀q,¬y.has d q→fJ (y.fK d).isOpen (y.fK d).log q=fJ y.isOpen y.log q:=fun q aR=>by
  rw[da,vH]
  have aG:fJ (y.fK d).isOpen y.log q=fJ y.isOpen y.log q:=y5 fun d' o n m=>by
   rw[rW]
   by_cases e:d'=d
   ·subst e
    have:y.isOpen d'≠true:=fun z=>aR (h.pt d' q o n m z)
    exact absurd aD this
   ·rw[bne_iff_ne.mpr e,Bool.and_true]
  rw[aG]
  show (fJ y.isOpen y.log q).or none=_
  rw[Option.or_none]
 refine⟨by rw[aC];exact h.cl,h.cd,fun q v aX=>h.ln q v (by rw[←q_];exact aX),fun q bk=>h.ep q (by rw[←q_];exact bk),fun d' q t=>?_,fun q t=>?_,?_,fun gg e9 q t1 d_=>h.un gg e9 q (vU.mp t1).1 (vU.mp d_).1,fun d' q o kj m e=>?_,fun d' l q z m hf=>?_,fun d' m=>?_,fun d' e=>?_,fun d' q o kj m=>?_,(filter_sublist.map _).nodup h.a3,fun d' l q o cp cy=>h.d3 d' l q o (mem_filter.mp cp).1 cy⟩
 ·obtain⟨t1,d_⟩:=vU.mp t
  have aR:¬y.has d q:=fun z=>d_ (h.un d' d q t1 z)
  rw[w4 q aR,az q aR]
  exact h.bB d' q t1
 ·by_cases k:y.has d q
  ·refine⟨?_,(aj q k).symm⟩
   refine BV fun d' o n m=>?_
   rw[rW]
   rcases mem _ m with z | z
   ·cases e:y.isOpen d' with
    | false=>rfl
    | true =>
     have:=h.un d' d q (h.pt d' q o n z e) k
     rw[this,bne_self_eq_false]
     rfl
   ·cases z
  ·have t':∀d',¬y.has d' q:=fun d' z=>by
    by_cases e:d'=d
    ·exact k (by rw[←e];exact z)
    ·exact t d' (vU.mpr ⟨z,e⟩)
   obtain⟨a1,a2⟩:=h.eo q t'
   exact⟨by rw[w4 q k];exact a1,by rw[az q k];exact a2⟩
 ·rw[da]
  refine h.da.snoc (fun d' z=>?_) (fun d' _ z=>by rw[rW,z];rfl) ⟨by rw[rW,bne_self_eq_false,Bool.and_false],True.intro⟩
  rw[rW]at z
  by_cases e:d'=d
  ·exact .inr (by rw[e])
  ·rw[bne_iff_ne.mpr e,Bool.and_true]at z
   exact .inl z
 ·rw[rW,and_eq_true]at e
  rcases mem _ m with z | z
  ·exact vU.mpr ⟨h.pt d' q o kj z e.1,bne_iff_ne.mp e.2⟩
  ·cases z
 ·obtain⟨a,e⟩:=mem_filter.mp m
  have hz:=mem_of_find?_eq_some hf
  have bk:z.1=q:=by
   have:=find?_some hf
   exact beq_iff_eq.mp this
  have aR:¬y.has d q:=fun k=>bne_iff_ne.mp e (h.un d' d q ⟨l,z.2,a,by rw[←bk];exact hz⟩ k)
  rw[az q aR]
  exact h.gv d' l q z a hf
 ·rcases mem _ m with z | z
  ·exact h.b0 d' z
  ·cases z;exact h.lV d aD
 ·rw[rW,and_eq_true]at e
  exact h.lV d' e.1
 ·rcases mem _ m with z | z
  ·exact h.iH d' q o kj z
  ·cases z
theorem J.opened (h:J y c b) (bS:y'.aK=y.aK++[(b,[])]) (aG:y'.cg=y.cg) (aL:y'.ay=y.ay) (bH:y'.log=y.log):J y' c (b+1):=by
 have kZ:∀{d:Int} {q:Nat},y'.has d q↔y.has d q:=by
  intro d q
  constructor
  ·rintro⟨l,o,cp,cy⟩
   rw[bS]at cp
   rcases mem_append.mp cp with z | z
   ·exact⟨l,o,z,cy⟩
   ·cases mem_singleton.mp z
    cases cy
  ·rintro⟨l,o,cp,cy⟩
   exact⟨l,o,by rw[bS];exact mem_append_left _ cp,cy⟩
 have iG:∀d,y'.isOpen d=(y.isOpen d || b == d):=fun d=>by
  unfold aq.isOpen
  rw[bS,any_append,any_cons,List.any_nil,Bool.or_false]
 have nb:y.isOpen b=false:=by
  cases z:y.isOpen b with
  | false=>rfl
  | true=>have:=h.lV b z;omega
 have ne:∀{d:Int},d<b→y'.isOpen d=y.isOpen d:=fun {d} hd=>by
  rw[iG,beq_eq_false_iff_ne.mpr (by omega:b≠d),Bool.or_false]
 have w4:∀q,fJ y'.isOpen y'.log q=fJ y.isOpen y.log q:=fun q=>by
  rw[bH]
  exact y5 fun d o n m=>ne (h.iH d q o n m)
 refine⟨by rw[aL];exact h.cl,by rw[aG,aL];exact h.cd,by rw[bH,aL];exact h.ln,by rw[bH,aG,aL];exact h.ep,fun d q t=>by rw[w4];exact h.bB d q (kZ.mp t),fun q t=>by rw[w4,aL];exact h.eo q fun d z=>t d (kZ.mpr z),?_,fun d d' q t t'=>h.un d d' q (kZ.mp t) (kZ.mp t'),fun d q o n m e=>?_,fun d l q z m hf=>?_,fun d m=>?_,fun d e=>?_,fun d q o n m=>?_,?_,fun d l q o cp cy=>?_⟩
 ·rw[bH]
  refine h.da.congr (fun d z=>?_) fun d m z=>?_
  ·rw[iG,Bool.or_eq_false_iff]at z;exact z.1
  ·rw[ne (h.b0 d m)];exact z
 ·rw[bH]at m
  rw[ne (h.iH d q o n m)]at e
  exact kZ.mpr (h.pt d q o n m e)
 ·rw[bS]at m
  rcases mem_append.mp m with k | k
  ·exact h.gv d l q z k hf
  ·cases mem_singleton.mp k
   cases hf
 ·rw[bH]at m;have:=h.b0 d m;omega
 ·rw[iG,Bool.or_eq_true]at e
  rcases e with z | z
  ·have:=h.lV d z;omega
  ·have:=beq_iff_eq.mp z;omega
 ·rw[bH]at m;have:=h.iH d q o n m;omega
 ·rw[bS,map_append,nodup_append]
  refine⟨h.a3,by simp,fun u bq v aX=>?_⟩
  have iP:v=b:=by simpa using aX
  subst iP
  intro e
  subst e
  obtain⟨z,hz,e⟩:=mem_map.mp bq
  have:y.isOpen u=true:=any_eq_true.mpr ⟨z,hz,by rw[e];exact beq_self_eq_true u⟩
  rw[nb]at this
  cases this
 ·rw[bS]at cp
  rw[aL]
  rcases mem_append.mp cp with k | k
  ·exact h.d3 d l q o k cy
  ·cases mem_singleton.mp k
   cases cy
theorem J.ee:∀{l:List (Nat × Int)}{y:aq},J y c b→y.isOpen d=true→(∀z∈l,y.has d z.1)→J (y.ee d l) c b
 | [],y,h,_,_=>h
 | z::l,y,h,aD,hz=>by
  show J ((y.putIn d z.1 z.2).ee d l) c b
  have hd:=hz z mem_cons_self
  have aF:z.1<y.ay.length:=by
   obtain⟨l,o,cp,cy⟩:=hd
   exact h.d3 d l z.1 o cp cy
  exact J.ee (h.MY aF aD hd) aD fun w hw=>hz w (mem_cons_of_mem _ hw)
theorem zm (ds:List Int):∀(l:List (Nat × Int)),(∀z∈l,z.1<ds.length)→∀q,(jA l.reverse ds)[q]?=match l.find? (fun e=>e.1 == q) with | some z=>some z.2 | none=>ds[q]?
 | [],_,q=>rfl
 | z::l,h,q=>by
  have b3:=zm ds l (fun w hw=>h w (mem_cons_of_mem _ hw)) q
  have e:jA (z::l).reverse ds=(jA l.reverse ds).set z.1 z.2:=by
   unfold jA
   rw[List.reverse_cons,foldl_append]
   rfl
  have len:∀(l:List (Nat × Int)) (ds:List Int),(jA l ds).length=ds.length:=by
   intro l
   induction l with
   | nil=>intro ds;rfl
   | cons w l b3=>intro ds;show (jA l (ds.set w.1 w.2)).length=_;rw[b3,length_set]
  rw[e,find?_cons]
  by_cases k:z.1=q
  ·rw[beq_iff_eq.mpr k]
   show _=some z.2
   rw[←k,getElem?_set_self (by rw[len];exact h z mem_cons_self)]
  ·rw[beq_eq_false_iff_ne.mpr k,getElem?_set_ne k]
   exact b3
theorem Ca:∀(l:List (Nat × Int)) (ds:List Int),(jA l ds).length=ds.length
 | [],_=>rfl
 | w::l,ds=>by show (jA l (ds.set w.1 w.2)).length=_;rw[Ca,length_set]
theorem Jo (ds:List Int) (l:List (Nat × Int)) (h:∀z∈l,z.1<ds.length) (q:Nat):(jA l ds)[q]?=match l.reverse.find? (fun e=>e.1 == q) with | some z=>some z.2 | none=>ds[q]?:=by
 have:=zm ds l.reverse (fun z hz=>h z (mem_reverse.mp hz)) q
 rw[List.reverse_reverse]at this
 exact this
theorem J.drop (h:J y c b) (aD:y.isOpen d=true):J ((y.dU d).fK d) c b:=by
 have hm:=kv aD
 have c5:∀z∈(y.c7 d).reverse,y.has d z.1:=fun z hz=>⟨_,z.2,hm,mem_reverse.mp hz⟩
 have aj:J (y.dU d) c b:=by rw[g9];exact h.ee aD c5
 have bS:(y.dU d).aK=y.aK:=by rw[g9,mG]
 have xN:(y.dU d).isOpen d=true:=by rw[tY bS];exact aD
 refine aj.fK xN rfl (fun q t=>?_) fun q _=>rfl
 have t':y.has d q:=by
  obtain⟨l,o,cp,cy⟩:=t
  exact⟨l,o,by rw[←bS];exact cp,cy⟩
 obtain⟨l,o,cp,cy⟩:=t'
 have da:=CH h.a3 cp
 rw[g9,B_,zm _ _ (fun z hz=>h.d3 d _ z.1 z.2 hm hz),da]
 cases hf:l.find? (fun e=>e.1 == q) with
 | none=>exact absurd (beq_self_eq_true q) (find?_eq_none.mp hf _ cy)
 | some z=>exact h.gv d l q z cp hf
def sj:a4→Prop
 | .line (.fin _)=>False
 | _=>True
theorem Jj {q:Nat}:(y.dT q=none→∀d,¬y.has d q)∧(∀d,y.dT q=some d→y.has d q):=by
 unfold aq.dT
 constructor
 ·intro h d ⟨l,o,cp,cy⟩
  have aj:=Option.map_eq_none_iff.mp h
  have:=find?_eq_none.mp aj _ cp
  exact this (any_eq_true.mpr ⟨_,cy,beq_self_eq_true q⟩)
 ·intro d h
  obtain⟨z,hz,e⟩:=Option.map_eq_some_iff.mp h
  have A2:(z.2.any fun y=>y.1 == q)=true:=find?_some (p:=fun z:Int × List (Nat × Int)=>z.2.any fun y=>y.1 == q) hz
  obtain⟨w,hw,aL⟩:=any_eq_true.mp A2
  have bH:w.1=q:=beq_iff_eq.mp aL
  exact⟨z.2,w.2,by rw[←e];exact mem_of_find?_eq_some hz,by rw[←bH];exact hw⟩
theorem J.free (h:J y c b) (bF:y.dT p=none∨y.dT p=some d):∀d',y.has d' p→d'=d:=fun d' t=>by
 rcases bF with z | z
 ·exact absurd t (Jj.1 z d')
 ·exact h.un d' d p t (Jj.2 d z)
theorem J.aag {s:a4}(h:J y c b) (m:mc y s y') (aJ:sj s):J y' c b:=by
 cases m with
 | carry p aF aR aE=>exact h.dm aF
 | cut ai aE=>exact h.mY
 | put d p n aF aD bF aE h0=>exact h.put aF aD (h.free bF)
 | dU d p n aF aD hm aE =>
  obtain⟨o,hm⟩:=hm
  exact h.MY aF aD ⟨_,o,kv aD,hm⟩
 | fin d aD aE=>exact aJ.elim
theorem J.path {l:List a4}(h:J y c b) (m:Path y l y') (aJ:∀s∈l,sj s):J y' c b:=by
 induction m with
 | nil x=>exact h
 | cons m t b3=>exact b3 (h.aag m (aJ _ mem_cons_self)) fun s z=>aJ s (mem_cons_of_mem _ z)
end
def f6 (y:aq):Prop:=∀s∈y.c9,sj s
section
variable {x y k:aq}{s:a4}{d n m:Int}{p:Nat}{e:bZ}
theorem f6.add (h:f6 y) (aJ:sj s) (e:x.c9=y.c9++[s]):f6 x:=fun t bF=>by
 rw[e]at bF
 rcases mem_append.mp bF with z | z
 ·exact h t z
 ·rw[mem_singleton.mp z];exact aJ
theorem f6.d0 (h:f6 y):f6 (y.d0 p):=by
 unfold aq.d0
 split
 ·exact h
 ·exact h.add (s:=.dm p (y.ay.getD p 0)) True.intro rfl
theorem f6.dW (h:f6 y):f6 y.dW:=by
 unfold aq.dW
 split
 ·exact h.add (s:=.cut (ez y.cg y.ay y.isOpen y.log)) True.intro rfl
 ·exact h
theorem f6.e2 (h:f6 y):∀{i:Nat},f6 (y.e2 i)
 | 0=>h
 | i+1=>by rw[ks];exact (f6.e2 h (i:=i)).d0
theorem f6.full (h:f6 y) (m:Int):f6 (y.full m).1:=by
 unfold aq.full
 split
 ·exact h
 ·show f6 y.gk
  rw[ku]
  exact h.e2.dW
theorem f6.putIn (h:f6 y):f6 (y.putIn d p n):=h.add (s:=.line (.put d p (y.ay.getD p 0) n)) True.intro rfl
theorem f6.ee:∀{l:List (Nat × Int)}{y:aq},f6 y→f6 (y.ee d l)
 | [],_,h=>h
 | z::l,y,h=>by
  show f6 ((y.putIn d z.1 z.2).ee d l)
  exact f6.ee h.putIn
theorem Ub (x:aq) (e:bZ):∀j,j<(x.row e).length→∀s∈(x.row e).take j,sj s:=by
 have h0:f6 x.bare:=fun s aJ=>by cases aJ
 have all:∀{l:List a4},(∀s∈l,sj s)→∀j,j<l.length→∀s∈l.take j,sj s:=fun h j _ s aJ=>h s (mem_of_mem_take aJ)
 unfold aq.row
 cases aE:x.bare.refusal e with
 | some w =>
  have aY:x.bare.a5 e=(x.bare,.word w):=by unfold aq.a5;rw[aE]
  rw[aY]
  exact all h0
 | none =>
  have aY:x.bare.a5 e=x.bare.gp e:=by unfold aq.a5;rw[aE]
  rw[aY]
  generalize x.bare=y at h0
  cases e with
  | begin =>
   have d8:y.gp .begin=if (y.began.full 1).2=true then ((y.began.full 1).1,.word "no room") else ((y.began.full 1).1.opened,.num y.begun):=rfl
   have aj:f6 (y.began.full 1).1:=f6.full (y:=y.began) h0 1
   rw[d8]
   split
   ·exact all aj
   ·exact all aj
  | put d p n =>
   have d8:y.gp (.put d p n)=if (y.full 2).2=true then ((y.full 2).1,.word "no room") else ((((y.full 2).1.c1 d p.toNat).putIn d p.toNat n),.word "done"):=rfl
   have aj:f6 (y.full 2).1:=f6.full h0 2
   rw[d8]
   split
   ·exact all aj
   ·exact all (f6.putIn (y:=(y.full 2).1.c1 d p.toNat) aj)
  | fin d =>
   intro j cD s aJ
   have FW:j<(y.c9++[a4.line (.fin d)]).length:=cD
   have xH:s∈(y.c9++[a4.line (.fin d)]).take j:=aJ
   rw[length_append,length_singleton]at FW
   rw[take_append_of_le_length (by omega)]at xH
   exact h0 s (mem_of_mem_take xH)
  | drop d =>
   intro j cD s aJ
   have aj:f6 (y.dU d):=by rw[g9];exact h0.ee
   have FW:j<((y.dU d).c9++[a4.line (.fin d)]).length:=cD
   have xH:s∈((y.dU d).c9++[a4.line (.fin d)]).take j:=aJ
   rw[length_append,length_singleton]at FW
   rw[take_append_of_le_length (by omega)]at xH
   exact aj s (mem_of_mem_take xH)
  | look p=>exact all h0
  | carry p=>exact all h0.d0
  | cut=>exact all h0.dW
def hO (k:aq) (e:bZ) (a:cY):aq:=match e,a with
 | .begin,.num m=>{ k with aK:=k.aK++[(m,[])] }
 | .put d p n,.word w=>if w="done" then { k with aK:=k.aK.map fun z=>if z.1=d then (z.1,z.2++[(p.toNat,n)]) else z } else k
 | .fin d,.word w=>if w="done" then { k with ay:=jA (k.c7 d) k.ay,aK:=k.aK.filter fun z=>z.1 != d } else k
 | .drop d,.word w=>if w="done" then { k with aK:=k.aK.filter fun z=>z.1 != d } else k
 | _,_=>k
theorem I5 (k:aq) (d p n:Int):hO k (.put d p n) (.word "no room")=k:=by
 have e:hO k (.put d p n) (.word "no room")=if ("no room":Str)="done" then { k with aK:=k.aK.map fun z=>if z.1=d then (z.1,z.2++[(p.toNat,n)]) else z } else k:=rfl
 rw[e,if_neg (by decide +kernel)]
structure h6 (x k:aq):Prop where
 aU:k.aK.map (·.1)=x.aK.map (·.1)
 bw:∀d l fD,(d,l)∈x.aK→(d,fD)∈k.aK→fD.map (·.1)=l.map (·.1)
 vp:∀d l q e,(d,l)∈k.aK→l.reverse.find? (fun e=>e.1 == q)=some e→x.ay[q]?=some e.2
theorem h6.of (h:h6 x k) (aG:y.aK=x.aK) (aL:y.ay=x.ay):h6 y k :=
 ⟨by rw[aG];exact h.aU,by rw[aG];exact h.bw,by rw[aL];exact h.vp⟩
theorem h6.other (h:h6 x k) {fD:List (Nat × Int)}(m:(d,fD)∈k.aK):∃l,(d,l)∈x.aK∧fD.map (·.1)=l.map (·.1):=by
 have hd:d∈x.aK.map (·.1):=by rw[←h.aU];exact mem_map.mpr ⟨_,m,rfl⟩
 obtain⟨z,hz,e⟩:=mem_map.mp hd
 have A4:(d,z.2)∈x.aK:=by rw[←e];exact hz
 exact⟨z.2,A4,h.bw d z.2 fD A4 m⟩
theorem h6.has (h:h6 x k) {fD:List (Nat × Int)}{q:Nat}{o:Int}(m:(d,fD)∈k.aK) (acq:(q,o)∈fD):x.has d q:=by
 obtain⟨l,aC,e⟩:=h.other m
 have bk:q∈l.map (·.1):=by rw[←e];exact mem_map.mpr ⟨_,acq,rfl⟩
 obtain⟨z,hz,aL⟩:=mem_map.mp bk
 exact⟨l,z.2,aC,by rw[←aL];exact hz⟩
theorem h6.isOpen (h:h6 x k) (d:Int):k.isOpen d=x.isOpen d:=by
 have e:∀(l:List (Int × List (Nat × Int))),(l.any fun z=>z.1 == d)=(l.map (·.1)).any (· == d):=fun l=>by rw[any_map];rfl
 unfold aq.isOpen
 rw[e,e,h.aU]
theorem ze (d:Int):∀(l:List (Int × List (Nat × Int))),(l.filter fun z=>z.1 != d).map (·.1)=(l.map (·.1)).filter (· != d)
 | []=>rfl
 | z::l=>by
  rw[filter_cons,map_cons,filter_cons]
  by_cases e:(z.1 != d)=true
  ·rw[if_pos e,if_pos e,map_cons,ze d l]
  ·rw[if_neg e,if_neg e,ze d l]
theorem Cg {l:List (Nat × Int)}{q:Nat}{e:Nat × Int}(h:l.reverse.find? (fun e=>e.1 == q)=some e):(q,e.2)∈l:=by
 have aj:=mem_reverse.mp (mem_of_find?_eq_some h)
 have az:e.1=q:=beq_iff_eq.mp (find?_some (p:=fun e:Nat × Int=>e.1 == q) h)
 rw[←az];exact aj
theorem h6.drop (h:h6 x k) {y:aq}{ds:List Int}(aG:y.aK=x.aK.filter fun z=>z.1 != d) (aL:∀q,(∃d',d'≠d∧x.has d' q)→y.ay[q]?=x.ay[q]?):h6 y { k with ay:=ds,aK:=k.aK.filter fun z=>z.1 != d }:=by
 refine⟨?_,fun d' l fD cp cy=>?_,fun d' l q e m hf=>?_⟩
 ·show (k.aK.filter fun z=>z.1 != d).map (·.1)=_
  rw[aG,ze,ze,h.aU]
 ·rw[aG]at cp
  exact h.bw d' l fD (mem_filter.mp cp).1 (mem_filter.mp cy).1
 ·obtain⟨cp,cy⟩:=mem_filter.mp m
  have hd:d'≠d:=bne_iff_ne.mp cy
  rw[aL q ⟨d',hd,h.has cp (Cg hf)⟩]
  exact h.vp d' l q e cp hf
theorem T3 (d:Int) (y:Nat × Int) (l:List (Int × List (Nat × Int))):(l.map fun z=>if z.1=d then (z.1,z.2++[y]) else z).map (·.1)=l.map (·.1):=by
 rw[map_map]
 refine map_congr_left fun z _=>?_
 show (if z.1=d then (z.1,z.2++[y]) else z).1=z.1
 split <;> rfl
theorem Cy {d d':Int}{y:Nat × Int}{l:List (Int × List (Nat × Int))}{v:List (Nat × Int)}(m:(d',v)∈l.map fun z=>if z.1=d then (z.1,z.2++[y]) else z):∃md,(d',md)∈l∧v=if d'=d then md++[y] else md:=by
 obtain⟨z,hz,e⟩:=mem_map.mp m
 by_cases c:z.1=d
 ·rw[if_pos c]at e
  cases e
  exact⟨z.2,hz,by rw[if_pos c]⟩
 ·rw[if_neg c]at e
  subst e
  exact⟨v,hz,by rw[if_neg c]⟩
theorem KJ (j:J x k.ay x.begun) (h:h6 x k) (e:bZ):J (x.a5 e).1 (hO k e (x.a5 e).2).ay (x.a5 e).1.begun∧h6 (x.a5 e).1 (hO k e (x.a5 e).2):=by
 cases aE:x.refusal e with
 | some w =>
  have aY:x.a5 e=(x,.word w):=by unfold aq.a5;rw[aE]
  have hw:w≠"done":=fun z=>qG aE (by rw[z])
  have gx:hO k e (.word w)=k:=by
   cases e with
   | begin=>rfl
   | put d p n=>exact if_neg hw
   | fin d=>exact if_neg hw
   | drop d=>exact if_neg hw
   | look p=>rfl
   | carry p=>rfl
   | cut=>rfl
  rw[aY]
  show J x (hO k e (.word w)).ay x.begun∧h6 x (hO k e (.word w))
  rw[gx]
  exact⟨j,h⟩
 | none =>
  have aY:x.a5 e=x.gp e:=by unfold aq.a5;rw[aE]
  rw[aY]
  cases e with
  | begin =>
   have d8:x.gp .begin=if (x.began.full 1).2=true then ((x.began.full 1).1,.word "no room") else ((x.began.full 1).1.opened,.num x.begun):=rfl
   have j1:J (x.began.full 1).1 k.ay x.begun:=(j.of (y':=x.began) rfl rfl rfl rfl).full 1
   have aG:(x.began.full 1).1.aK=x.aK:=je
   have aL:(x.began.full 1).1.begun=x.begun+1:=mH
   have bH:(x.began.full 1).1.ay=x.ay:=oz
   rw[d8]
   split
   ·refine⟨?_,h.of aG bH⟩
    show J (x.began.full 1).1 k.ay (x.began.full 1).1.begun
    rw[aL]
    exact⟨j1.cl,j1.cd,j1.ln,j1.ep,j1.bB,j1.eo,j1.da,j1.un,j1.pt,j1.gv,fun d m=>by have:=j1.b0 d m;omega,fun d m=>by have:=j1.lV d m;omega,fun d q o n m=>by have:=j1.iH d q o n m;omega,j1.a3,j1.d3⟩
   ·have bS:(x.began.full 1).1.opened.aK=(x.began.full 1).1.aK++[((x.begun:Int),[])]:=by
     show (x.began.full 1).1.aK++[((((x.began.full 1).1.begun:Nat):Int) - 1,[])]=_
     have ek:((((x.began.full 1).1.begun:Nat):Int) - 1)=(x.begun:Int):=by rw[aL];omega
     rw[ek]
    refine⟨?_,?_,fun d l fD cp cy=>?_,fun d l q e m hf=>?_⟩
    ·show J (x.began.full 1).1.opened k.ay (((x.began.full 1).1.begun:Nat):Int)
     have ek:(((x.began.full 1).1.begun:Nat):Int)=(x.begun:Int)+1:=by rw[aL];omega
     rw[ek]
     exact j1.opened bS rfl rfl rfl
    ·show List.map (fun z:Int × List (Nat × Int)=>z.1) (k.aK++[((x.begun:Int),[])])=_
     rw[bS,aG,map_append,map_append,h.aU]
    ·rw[bS,aG]at cp
     have cy:(d,fD)∈k.aK++[((x.begun:Int),[])]:=cy
     have nb:∀v,(d,v)∈x.aK→d≠x.begun:=fun v m z=>by
      have:x.isOpen d=true:=any_eq_true.mpr ⟨_,m,beq_self_eq_true d⟩
      have:=j.lV d this
      omega
     rcases mem_append.mp cp with z | z <;> rcases mem_append.mp cy with w | w
     ·exact h.bw d l fD z w
     ·cases mem_singleton.mp w
      exact absurd rfl (nb l z)
     ·cases mem_singleton.mp z
      obtain⟨v,aX,_⟩:=h.other w
      exact absurd rfl (nb v aX)
     ·cases mem_singleton.mp z
      cases mem_singleton.mp w
      rfl
    ·have m:(d,l)∈k.aK++[((x.begun:Int),[])]:=m
     show (x.began.full 1).1.ay[q]?=_
     rw[bH]
     rcases mem_append.mp m with w | w
     ·exact h.vp d l q e w hf
     ·cases mem_singleton.mp w
      cases hf
  | put d p n =>
   have d8:x.gp (.put d p n)=if (x.full 2).2=true then ((x.full 2).1,.word "no room") else ((((x.full 2).1.c1 d p.toNat).putIn d p.toNat n),.word "done"):=rfl
   have j1:J (x.full 2).1 k.ay x.begun:=j.full 2
   have aG:(x.full 2).1.aK=x.aK:=je
   have aL:(x.full 2).1.begun=x.begun:=mH
   have bH:(x.full 2).1.ay=x.ay:=oz
   obtain⟨o6,fi⟩:=nD (.inl ⟨d,n,rfl⟩) aE
   have aD:x.isOpen d=true:=iv (.inl ⟨p,n,rfl⟩) aE
   have bF:x.dT p.toNat=none∨x.dT p.toNat=some d:=by
    have e:x.refusal (.put d p n)=(if x.isOpen d=false then some "no dealing" else if p<0∨(x.ay.length:Int)≤p then some "no page" else if x.dT p.toNat=none∨x.dT p.toNat=some d then none else some "taken":Option Str):=rfl
    rw[aD,if_neg (fun z=>nomatch z),if_neg (by omega)]at e
    rw[aE]at e
    by_cases c:x.dT p.toNat=none∨x.dT p.toNat=some d
    ·exact c
    ·rw[if_neg c]at e;cases e
   have aF:p.toNat<x.ay.length:=by omega
   rw[d8]
   split
   ·refine⟨?_,?_⟩
    ·show J (x.full 2).1 (hO k (.put d p n) (.word "no room")).ay (x.full 2).1.begun
     rw[I5,aL]
     exact j1
    ·show h6 (x.full 2).1 (hO k (.put d p n) (.word "no room"))
     rw[I5]
     exact h.of aG bH
   ·have gx:hO k (.put d p n) (.word "done")={ k with aK:=k.aK.map fun z=>if z.1=d then (z.1,z.2++[(p.toNat,n)]) else z }:=if_pos (e:=k) (rfl:("done":Str)="done")
    show J (((x.full 2).1.c1 d p.toNat).putIn d p.toNat n) (hO k (.put d p n) (.word "done")).ay (x.full 2).1.begun∧h6 (((x.full 2).1.c1 d p.toNat).putIn d p.toNat n) (hO k (.put d p n) (.word "done"))
    rw[gx,aL]
    have xN:(x.full 2).1.isOpen d=true:=by rw[tY aG];exact aD
    have free:∀d',(x.full 2).1.has d' p.toNat→d'=d:=fun d' t=>by
     obtain⟨l,o,cp,cy⟩:=t
     exact j.free bF d' ⟨l,o,by rw[←aG];exact cp,cy⟩
    refine⟨j1.put (by rw[bH];exact aF) xN free,?_,fun d' l fD cp cy=>?_,fun d' l q e m hf=>?_⟩
    ·show List.map (fun z:Int × List (Nat × Int)=>z.1) (k.aK.map _)=((x.full 2).1.c1 d p.toNat).aK.map (·.1)
     rw[T3,Ji,aG,h.aU]
    ·have cp:(d',l)∈(x.full 2).1.aK.map fun z=>if z.1=d then (z.1,z.2++[(p.toNat,(x.full 2).1.ay.getD p.toNat 0)]) else z:=cp
     rw[aG]at cp
     obtain⟨v,aX,ev⟩:=Cy cp
     obtain⟨md,iP,u7⟩:=Cy cy
     rw[ev,u7]
     have:=h.bw d' v md aX iP
     by_cases c:d'=d
     ·rw[if_pos c,if_pos c,map_append,map_append,this];rfl
     ·rw[if_neg c,if_neg c];exact this
    ·obtain⟨md,iP,u7⟩:=Cy m
     show ((x.full 2).1.ay.set p.toNat n)[q]?=some e.2
     rw[bH]
     by_cases c:d'=d
     ·rw[if_pos c]at u7
      rw[u7,List.reverse_append]at hf
      have hf:List.find? (fun e:Nat × Int=>e.1 == q) ((p.toNat,n)::md.reverse)=some e:=hf
      rw[find?_cons]at hf
      by_cases dh:p.toNat=q
      ·rw[show (((p.toNat,n):Nat × Int).1 == q)=true from beq_iff_eq.mpr dh]at hf
       cases Option.some.inj hf
       rw[←dh,getElem?_set_self aF]
      ·rw[show (((p.toNat,n):Nat × Int).1 == q)=false from beq_eq_false_iff_ne.mpr dh]at hf
       rw[getElem?_set_ne dh]
       exact h.vp d' md q e iP hf
     ·rw[if_neg c]at u7
      rw[u7]at hf
      have c5:=h.has iP (Cg hf)
      have dh:p.toNat≠q:=fun z=>c (j.free bF d' (by rw[z];exact c5))
      rw[getElem?_set_ne dh]
      exact h.vp d' md q e iP hf
  | fin d =>
   have aD:x.isOpen d=true:=iv (.inr (.inl rfl)) aE
   have gx:hO k (.fin d) (.word "done")={ k with ay:=jA (k.c7 d) k.ay,aK:=k.aK.filter fun z=>z.1 != d }:=if_pos (e:=k) (rfl:("done":Str)="done")
   show J (x.fK d) (hO k (.fin d) (.word "done")).ay x.begun∧h6 (x.fK d) (hO k (.fin d) (.word "done"))
   rw[gx]
   have aQ:(d,k.c7 d)∈k.aK:=kv (by rw[h.isOpen];exact aD)
   have i2:∀z∈k.c7 d,z.1<k.ay.length:=fun z hz=>by
    obtain⟨l,o,cp,cy⟩:=h.has (q:=z.1) (o:=z.2) aQ hz
    rw[j.cl];exact j.d3 d l z.1 o cp cy
   refine⟨j.fK aD (Ca _ _) (fun q t=>?_) fun q t=>?_,h.drop rfl fun q _=>rfl⟩
   ·rw[Jo _ _ i2]
    cases hf:(k.c7 d).reverse.find? (fun e=>e.1 == q) with
    | some z=>exact (h.vp d _ q z aQ hf).symm
    | none =>
     obtain⟨l,o,cp,cy⟩:=t
     have e:=h.bw d l _ cp aQ
     have bk:q∈(k.c7 d).map (·.1):=by rw[e];exact mem_map.mpr ⟨_,cy,rfl⟩
     obtain⟨z,hz,aL⟩:=mem_map.mp bk
     exact absurd (beq_iff_eq.mpr aL) (find?_eq_none.mp hf z (mem_reverse.mpr hz))
   ·rw[Jo _ _ i2]
    cases hf:(k.c7 d).reverse.find? (fun e=>e.1 == q) with
    | some z=>exact absurd (h.has aQ (Cg hf)) t
    | none=>rfl
  | drop d =>
   have aD:x.isOpen d=true:=iv (.inr (.inr rfl)) aE
   have gx:hO k (.drop d) (.word "done")={ k with aK:=k.aK.filter fun z=>z.1 != d }:=if_pos (e:=k) (rfl:("done":Str)="done")
   show J ((x.dU d).fK d) (hO k (.drop d) (.word "done")).ay (x.dU d).begun∧h6 ((x.dU d).fK d) (hO k (.drop d) (.word "done"))
   have ej:(x.dU d).begun=x.begun:=by rw[g9,vK]
   rw[gx,ej]
   refine⟨j.drop aD,h.drop (ds:=k.ay) ?_ fun q ⟨d',hd,t⟩=>?_⟩
   ·show (x.dU d).aK.filter _=_
    rw[g9,mG]
   ·show (x.dU d).ay[q]?=_
    have hm:=kv aD
    rw[g9,B_,zm _ _ (fun z hz=>j.d3 d _ z.1 z.2 hm hz)]
    cases hf:(x.c7 d).find? (fun e=>e.1 == q) with
    | none=>rfl
    | some z =>
     have hz:=mem_of_find?_eq_some hf
     have aL:z.1=q:=beq_iff_eq.mp (find?_some (p:=fun e:Nat × Int=>e.1 == q) hf)
     exact absurd (j.un d' d q t ⟨_,z.2,hm,by rw[←aL];exact hz⟩) hd
  | look p=>exact⟨j,h⟩
  | carry p =>
   obtain⟨o6,fi⟩:=nD (.inr (.inr rfl)) aE
   refine⟨?_,h.of t2 y_⟩
   show J (x.d0 p.toNat) k.ay (x.d0 p.toNat).begun
   rw[vJ]
   exact j.d0 (by omega)
  | cut =>
   refine⟨?_,h.of t8 zo⟩
   show J x.dW k.ay x.dW.begun
   rw[vO]
   exact j.dW
def keptBy (stop:Nat):List bZ→aq→aq→Nat→List Int
 | [],_,k,_=>k.ay
 | e::r,x,k,made=>if stop<made+(x.row e).length then k.ay else keptBy stop r (x.a5 e).1 (hO k e (x.a5 e).2) (made+(x.row e).length)
theorem Lk (stop:Nat):∀(aA:List bZ) (x k:aq) (made:Nat),J x k.ay x.begun→h6 x k→x.sound→x.fit→made≤stop →
  kp ((((x.rows aA).flatten).take (stop - made)).foldl a4.n0 x.cg) ((((x.rows aA).flatten).take (stop - made)).foldl a4.iN x.log) (keptBy stop aA x k made)
 | [],x,k,made,j,h,S,f,hm=>by
  show kp (List.foldl a4.n0 x.cg (List.take (stop - made) [])) (List.foldl a4.iN x.log (List.take (stop - made) [])) k.ay
  rw[take_nil]
  exact j.want
 | e::r,x,k,made,j,h,S,f,hm=>by
  obtain⟨qh,z,G9,rB,G8⟩:=vZ S f e
  have oJ:qh.ay=x.ay∧qh.cg=x.cg∧qh.log=x.log∧qh.aK=x.aK:=by rcases G9 with rfl | rfl <;> exact⟨rfl,rfl,rfl,rfl⟩
  have qg:(x.a5 e).1.cg=z.cg∧(x.a5 e).1.log=z.log:=by
   rcases G8 with h | h
   ·rw[h];exact⟨rfl,rfl⟩
   ·rw[h];exact⟨rfl,rfl⟩
  have lP:(x.rows (e::r)).flatten=x.row e++((x.a5 e).1.rows r).flatten:=rfl
  have gx:keptBy stop (e::r) x k made=if stop<made+(x.row e).length then k.ay else keptBy stop r (x.a5 e).1 (hO k e (x.a5 e).2) (made+(x.row e).length):=rfl
  rw[lP,gx]
  by_cases c:stop<made+(x.row e).length
  ·rw[if_pos c,take_append_of_le_length (by omega)]
   have ZR:Path qh ((x.row e).take (stop - made)++(x.row e).drop (stop - made)) z:=by rw[List.take_append_drop];exact rB
   obtain⟨y,fi,_⟩:=ZR.split
   have acC:J qh k.ay x.begun:=j.of oJ.2.1 oJ.1 oJ.2.2.1 oJ.2.2.2
   have acB:=acC.path fi (Ub x e (stop - made) (by omega))
   have o5:=fi.x7
   rw[oJ.2.1,oJ.2.2.1]at o5
   rw[←o5.1,←o5.2]
   exact acB.want
  ·rw[if_neg c]
   have aG:(x.row e++((x.a5 e).1.rows r).flatten).take (stop - made)=x.row e++(((x.a5 e).1.rows r).flatten).take (stop - (made+(x.row e).length)):=by
    rw[List.take_append,take_of_length_le (by omega)]
    have:stop - made - (x.row e).length=stop - (made+(x.row e).length):=by omega
    rw[this]
   rw[aG,foldl_append,foldl_append]
   have o5:=rB.x7
   rw[oJ.2.1,oJ.2.2.1,←qg.1,←qg.2]at o5
   rw[←o5.1,←o5.2]
   obtain⟨hX,h'⟩:=KJ j h e
   exact Lk stop r _ _ _ hX h' (S.a5 e) (f.a5 S e) (by omega)
theorem Ml (ps:List Int) (room:Int):J (b9 ps room) ps 0 :=
 ⟨rfl,rfl,fun q v h=>(by cases h),fun q _=>rfl,fun d q ⟨l,o,m,_⟩=>(by cases m),fun q _=>⟨rfl,rfl⟩,True.intro,fun d d' q ⟨l,o,m,_⟩=>(by cases m),fun d q o n m=>(by cases m),fun d l q z m=>(by cases m),fun d m=>(by cases m),fun d m=>(by cases m),fun d q o n m=>(by cases m),nodup_nil,fun d l q o m=>(by cases m)⟩
end
section
variable {x:aq}{d m:Int}{p:Nat}
theorem SV (S:x.sound) (e:bZ):((x.a5 e).1.log.length:Int)+(x.a5 e).1.bound≤x.log.length+x.bound+2:=by
 have yL:∀{y:aq} {m:Int},((y.full m).1.log.length:Int)+(y.full m).1.bound≤y.log.length+y.bound:=fun {y} {m}=>by
  have aj:=IQ (x:=y) (m:=m)
  have az:(y.full m).1.bound=y.bound:=qF je
  rw[az]
  omega
 unfold aq.a5
 cases dz:x.refusal e with
 | some w=>show (x.log.length:Int)+x.bound≤_;omega
 | none =>
  cases e with
  | begin =>
   have aj:((x.began.full 1).1.log.length:Int)+(x.began.full 1).1.bound≤x.log.length+x.bound:=yL (y:=x.began)
   show ((if (x.began.full 1).2=true then ((x.began.full 1).1,cY.word "no room") else ((x.began.full 1).1.opened,.num x.begun)).1.log.length:Int)+(if (x.began.full 1).2=true then ((x.began.full 1).1,cY.word "no room") else ((x.began.full 1).1.opened,.num x.begun)).1.bound≤_
   split
   ·show ((x.began.full 1).1.log.length:Int)+(x.began.full 1).1.bound≤_;omega
   ·show ((x.began.full 1).1.log.length:Int)+(x.began.full 1).1.opened.bound≤_
    rw[Iv];omega
  | put d p n =>
   have aj:=yL (y:=x) (m:=2)
   show ((if (x.full 2).2=true then ((x.full 2).1,cY.word "no room") else ((((x.full 2).1.c1 d p.toNat).putIn d p.toNat n),.word "done")).1.log.length:Int)+(if (x.full 2).2=true then ((x.full 2).1,cY.word "no room") else ((((x.full 2).1.c1 d p.toNat).putIn d p.toNat n),.word "done")).1.bound≤_
   split
   ·show ((x.full 2).1.log.length:Int)+(x.full 2).1.bound≤_;omega
   ·have aD:=iv (.inl ⟨_,_,rfl⟩) dz
    have aa:=Ck (x:=(x.full 2).1) (d:=d) (p:=p.toNat) (S.full).a3 (by rw[tY je];exact aD)
    show (((x.full 2).1.log++[bD.put d p.toNat (((x.full 2).1.c1 d p.toNat).ay.getD p.toNat 0) n]).length:Int)+((x.full 2).1.c1 d p.toNat).bound≤_
    rw[aa,length_append,length_singleton]
    omega
  | fin d =>
   have aD:=iv (.inr (.inl rfl)) dz
   have aa:=t_ S.a3 aD
   show ((x.log++[bD.fin d]).length:Int)+({ x with aK:=x.aK.filter fun z=>z.1 != d }:aq).bound≤_
   rw[aa,length_append,length_singleton]
   omega
  | drop d =>
   have aD:=iv (.inr (.inr rfl)) dz
   have aa:=t_ S.a3 aD
   have aG:((x.dU d).fK d).bound=({ x with aK:=x.aK.filter fun z=>z.1 != d }:aq).bound:=qF (by
    show ((x.dU d).aK.filter fun z=>z.1 != d)=_
    rw[g9,mG])
   have aL:(x.dU d).log.length=x.log.length+(x.c7 d).length:=by rw[g9,zj,length_reverse]
   show (((x.dU d).log++[bD.fin d]).length:Int)+((x.dU d).fK d).bound≤_
   rw[aG,aa,length_append,length_singleton,aL]
   omega
  | look p=>show (x.log.length:Int)+x.bound≤_;omega
  | carry p =>
   show ((x.d0 p.toNat).log.length:Int)+(x.d0 p.toNat).bound≤_
   rw[B8,qF t2]
   omega
  | cut =>
   have aj:=B1 (x:=x)
   show (x.dW.log.length:Int)+x.dW.bound≤_
   rw[qF t8]
   omega
theorem VZ (S:x.sound) (e:bZ):((x.row e).length:Int)≤x.ay.length+2+x.bound:=by
 have bn:=vL x
 have key:∀{y:aq} {k:Nat},x.bare.grow y k→(y.c9.length:Int)≤k:=fun {y k} g=>by
  have aj:=g.1
  have az:x.bare.c9.length=0:=rfl
  omega
 unfold aq.row aq.a5
 cases dz:x.bare.refusal e with
 | some w=>show ((0:Nat):Int)≤_;omega
 | none =>
  cases e with
  | begin =>
   have aj:=key (zw (x:=x.bare.began) (m:=1))
   have abh:((x.bare.began.full 1).1.c9.length:Int)≤((x.ay.length+1:Nat):Int):=aj
   show ((if (x.bare.began.full 1).2=true then ((x.bare.began.full 1).1,cY.word "no room") else ((x.bare.began.full 1).1.opened,.num x.bare.begun)).1.c9.length:Int)≤_
   split
   ·show ((x.bare.began.full 1).1.c9.length:Int)≤_;omega
   ·show ((x.bare.began.full 1).1.c9.length:Int)≤_;omega
  | put d p n =>
   have aj:=key (zw (x:=x.bare) (m:=2))
   have abh:((x.bare.full 2).1.c9.length:Int)≤((x.ay.length+1:Nat):Int):=aj
   show ((if (x.bare.full 2).2=true then ((x.bare.full 2).1,cY.word "no room") else ((((x.bare.full 2).1.c1 d p.toNat).putIn d p.toNat n),.word "done")).1.c9.length:Int)≤_
   split
   ·show ((x.bare.full 2).1.c9.length:Int)≤_;omega
   ·show (((x.bare.full 2).1.c9++[_]).length:Int)≤_
    rw[length_append,length_singleton]
    omega
  | fin d=>show ((1:Nat):Int)≤_;omega
  | drop d =>
   have aD:x.isOpen d=true:=iv (x:=x.bare) (.inr (.inr rfl)) dz
   have aa:=Cm aD S.a3
   have aj:=key (B6 (x:=x.bare) (d:=d) (l:=(x.bare.c7 d).reverse))
   rw[length_reverse]at aj
   have az:((x.bare.dU d).c9.length:Int)≤((x.c7 d).length:Int):=aj
   show (((x.bare.dU d).c9++[_]).length:Int)≤_
   rw[length_append,length_singleton]
   omega
  | look p=>show ((0:Nat):Int)≤_;omega
  | carry p =>
   have aj:=key (Cd (x:=x.bare) (p:=p.toNat))
   show ((x.bare.d0 p.toNat).c9.length:Int)≤_
   omega
  | cut =>
   have aj:=key (CM (x:=x.bare))
   show (x.bare.dW.c9.length:Int)≤_
   omega
theorem W9 (s:a4) (l:List bD):(s.iN l).length≤l.length+1:=by
 cases s with
 | dm p n=>exact le_succ _
 | line _=>show (l++[_]).length≤_;rw[length_append];exact le_refl _
 | cut k=>show (l.drop k).length≤_;rw[length_drop];omega
theorem Lh:∀(l:List a4) (g:List bD),(l.foldl a4.iN g).length≤g.length+l.length
 | [],_=>le_refl _
 | s::l,g=>by
  rw[foldl_cons,length_cons]
  have aj:=Lh l (s.iN g)
  have az:=W9 s g
  omega
theorem Kn:∀(l:List a4) (g:List bD) (ln:bD),ln∈l.foldl a4.iN g→ln∈g∨a4.line ln∈l
 | [],_,_,h=>.inl h
 | s::l,g,ln,h=>by
  rw[foldl_cons]at h
  rcases Kn l _ ln h with z | z
  ·cases s with
   | dm p n=>exact .inl z
   | line fD =>
    rcases mem_append.mp z with k | k
    ·exact .inl k
    ·exact .inr (by rw[mem_singleton.mp k];exact mem_cons_self)
   | cut k=>exact .inl (List.mem_of_mem_drop z)
  ·exact .inr (mem_cons_of_mem _ z)
theorem Xq (s:a4) (cs:List Int):(s.n0 cs).length=cs.length:=by
 cases s with
 | dm p n=>exact length_set
 | line _=>rfl
 | cut _=>rfl
theorem Dh:∀(l:List a4) (cs:List Int),(l.foldl a4.n0 cs).length=cs.length
 | [],_=>rfl
 | s::l,cs=>by
  rw[foldl_cons,Dh,Xq]
theorem S1 (S:x.sound) (f:x.fit) (e:bZ):(x.a5 e).1.ay.length=x.ay.length:=by
 obtain⟨y,z,a,b,c⟩:=vZ S f e
 have k1:=b.facts.2.1
 have fF:y.ay.length=x.ay.length:=by rcases a with rfl | rfl <;> rfl
 rcases c with h | h
 ·rw[h,k1,fF]
 ·rw[h];show z.ay.length=_;rw[k1,fF]
theorem JF:∀(aA:List bZ) (x:aq) (j:Nat),x.sound→x.fit→((((x.rows aA).flatten.take j).foldl a4.iN x.log).length:Int)≤x.log.length+x.bound+2 * aA.length+x.ay.length+2
 | [],x,j,S,f=>by
  have bn:=vL x
  show ((List.foldl a4.iN x.log (List.take j [])).length:Int)≤_
  rw[take_nil]
  show (x.log.length:Int)≤_
  omega
 | e::r,x,j,S,f=>by
  obtain⟨qh,z,G9,rB,G8⟩:=vZ S f e
  have oJ:qh.cg=x.cg∧qh.log=x.log:=by rcases G9 with rfl | rfl <;> exact⟨rfl,rfl⟩
  have qg:(x.a5 e).1.log=z.log:=by
   rcases G8 with h | h
   ·rw[h]
   ·rw[h];rfl
  have lP:(x.rows (e::r)).flatten=x.row e++((x.a5 e).1.rows r).flatten:=rfl
  have qk:=VZ S e
  rw[lP,length_cons]
  by_cases c:j≤(x.row e).length
  ·rw[take_append_of_le_length c]
   have aj:=Lh ((x.row e).take j) x.log
   rw[length_take]at aj
   omega
  ·have aG:(x.row e++((x.a5 e).1.rows r).flatten).take j=x.row e++(((x.a5 e).1.rows r).flatten).take (j - (x.row e).length):=by
    rw[List.take_append,take_of_length_le (by omega)]
   rw[aG,foldl_append]
   have o5:=rB.x7.2
   rw[oJ.2,←qg]at o5
   rw[←o5]
   have az:=JF r (x.a5 e).1 (j - (x.row e).length) (S.a5 e) (f.a5 S e)
   have ck:=SV S e
   have dv:=S1 S f e
   omega
end
theorem tZ {env:Env}{p:Str→Prop}{y:Str}:∀{names:List (Str × NameKind)}{k:NameKind},(∀z∈names,z.2≠.cell)→(∀z∈names,z.2=.free→p z.1) →
  (names.map fun (n,k)=>if (k == NameKind.free && env.scope.kind == .function && env.kindOf n == some .cell) then (n,NameKind.cell) else (n,k)).lookup y=some k→(k=.cell∨k=.free)→p y
 | [],_,_,_,h,_=>by simp at h
 | (n,k0)::r,k,aj,az,h,aQ=>by
  rw[map_cons,lookup_cons]at h
  have FO:=aj (n,k0) mem_cons_self
  have xR:=az (n,k0) mem_cons_self
  by_cases ai:(k0 == NameKind.free && env.scope.kind == .function && env.kindOf n == some .cell)=true
  ·simp only[ai,if_true]at h
   cases e:y == n with
   | true =>
    have:k0=.free:=by
     rw[and_eq_true,and_eq_true]at ai
     exact beq_iff_eq.mp ai.1.1
    rw[beq_iff_eq.mp e]
    exact xR this
   | false =>
    rw[e]at h
    exact tZ (fun z hz=>aj z (mem_cons_of_mem _ hz)) (fun z hz=>az z (mem_cons_of_mem _ hz)) h aQ
  ·simp only[ai,Bool.false_eq_true,if_false]at h
   cases e:y == n with
   | true =>
    rw[e]at h
    have h':some k0=some k:=h
    cases h'
    rw[beq_iff_eq.mp e]
    rcases aQ with z | z
    ·exact absurd z FO
    ·exact xR z
   | false =>
    rw[e]at h
    exact tZ (fun z hz=>aj z (mem_cons_of_mem _ hz)) (fun z hz=>az z (mem_cons_of_mem _ hz)) h aQ
theorem ic.two {X:bI}{x f1 f2:Str}{j1 j2:Nat}{cH dh:Addr}{scope:Scope}(sl:closureFor scope X.env=pure [(f1,cH),(f2,dh)]) (jh:∀y∈scope.names,y.2≠.cell) (iz:∀y∈scope.names,y.2=.free→y.1=f1∨y.1=f2) (pQ:scope.kind=.function)
  (sf:∀y∈scope.names,y.2=.local→scope.names.lookup y.1=some .local) (w0:scope.names.lookup x=some .local) (rl:X.env.cells.lookup f1=some cH) (cI:X.env.cells.lookup f2=some dh) (Ba:x≠f1) (oS:x≠f2) (PO:f1≠f2) (abe:X.N[j1]?=some f1) (abd:X.N[j2]?=some f2)
  (FT:X.env.scope.names.lookup f1=some .cell) (FQ:X.env.scope.names.lookup f2=some .cell) (nS:(relabel scope X.env).names.lookup f1=some .cell) (nR:(relabel scope X.env).names.lookup f2=some .cell):ic X x [j1,j2] [x,f1,f2] scope [(f1,cH),(f2,dh)] where
 nL:=sl
 cell:=jh
 kind:=pQ
 names:=sf
 loc:=w0
 sub:=fun y d e=>by
  rw[lookup_cons]at e
  cases z:y == f1 with
  | true =>
   rw[z]at e
   have cF:some cH=some d:=e
   cases cF
   rw[beq_iff_eq.mp z]
   exact rl
  | false =>
   rw[z]at e
   have e:List.lookup y [(f2,dh)]=some d:=e
   rw[lookup_cons]at e
   cases dK:y == f2 with
   | true =>
    rw[dK]at e
    have cF:some dh=some d:=e
    cases cF
    rw[beq_iff_eq.mp dK]
    exact cI
   | false=>rw[dK]at e;simp at e
 has:=fun y b6=>by
  have:y=f1∨y=f2:=by
   rcases b6 with h | h
   ·exact tZ (p:=fun y=>y=f1∨y=f2) jh iz h (.inl rfl)
   ·exact tZ (p:=fun y=>y=f1∨y=f2) jh iz h (.inr rfl)
  rcases this with e | e
  ·subst e
   exact⟨cH,by rw[lookup_cons,beq_self_eq_true]⟩
  ·subst e
   refine⟨dh,?_⟩
   have:(y == f1)=false:=by simpa using fun z:y=f1=>PO z.symm
   rw[lookup_cons,this,lookup_cons,beq_self_eq_true]
 bh:=rfl
 len:=rfl
 a3:=by
  rw[nodup_cons]
  refine⟨fun m=>?_,?_⟩
  ·rcases mem_cons.mp m with z | z
   ·exact Ba z
   ·exact oS (mem_singleton.mp z)
  ·rw[nodup_cons]
   exact⟨fun m=>PO (mem_singleton.mp m),by simp⟩
 p5:=fun i k y aj az=>by
  match i with
  | 0 =>
   have aG:f1=y:=Option.some.inj aj
   have aL:j1=k:=Option.some.inj az
   subst aG aL
   exact⟨abe,FT,nS⟩
  | 1 =>
   have aG:f2=y:=Option.some.inj aj
   have aL:j2=k:=Option.some.inj az
   subst aG aL
   exact⟨abd,FQ,nR⟩
  | i+2=>simp at az
theorem ic.zero {X:bI}{x:Str}{scope:Scope}(sl:closureFor scope X.env=pure []) (jh:∀y∈scope.names,y.2≠.cell) (iz:∀y∈scope.names,y.2≠.free) (pQ:scope.kind=.function)
  (sf:∀y∈scope.names,y.2=.local→scope.names.lookup y.1=some .local) (w0:scope.names.lookup x=some .local):ic X x [] [x] scope [] where
 nL:=sl
 cell:=jh
 kind:=pQ
 names:=sf
 loc:=w0
 sub:=fun y c e=>by simp at e
 has:=fun y b6=>by
  have:False:=by
   rcases b6 with h | h
   ·exact tZ (p:=fun _=>False) jh (fun z hz e=>iz z hz e) h (.inl rfl)
   ·exact tZ (p:=fun _=>False) jh (fun z hz e=>iz z hz e) h (.inr rfl)
  exact this.elim
 bh:=rfl
 len:=rfl
 a3:=by simp
 p5:=fun i j y _ e=>by simp at e
theorem Ig {X:bI}{K:PySem.W.Frag}(h:X.K=K):lr X (.type "list") (fun xs H Q=>∃p ys,xs=[.ref p]∧(aM K H p ys∨aO K H p ys)∧∀l,H l=none→Q (.ref l) (upd H l (.lst ys))):=by subst h;exact ow
theorem Tp {lo:Int}{n:Nat}{bY:TE}{bz:St}{Q:cG}{H:ao}{acc:Addr}(R:V→Prop) (h0:H acc=none) (aR:n≤1000)
  (he:∀(i:Nat) aS (k:cG),i<n→bx H aS→(∀v cB,R v→bx aS cB→k v cB)→bY (some (.int (lo+i))::bz) aS k)
  (q:∀(ys:List V) (af:ao),ys.length=n→(∀v∈ys,R v)→bx H af→af acc=some (.lst ys)→Q (.ref acc) af):sq (rx lo n) bY bz Q H acc:=by
 refine⟨n,fun i ys av=>i≤n∧ys.length=i∧(∀v∈ys,R v)∧bx H av∧av acc=some (.lst ys),⟨zero_le _,rfl,fun v aX=>by simp at aX,bV h0 _,aV⟩,?_⟩
 rintro i ys av ⟨aP,aC,yI,dj,de⟩
 by_cases c2:i<n
 ·refine .inr ⟨c2,c2,?_⟩
  rintro v aS ⟨rfl,rfl⟩
  refine he i _ _ c2 dj fun v cB aX s4=>⟨s4 _ _ de,lt_of_le_of_lt (by omega:ys.length≤1000) (by decide),c2,by rw[length_append,aC];rfl,fun w hw=>?_,(dj.trans s4).hr h0,aV⟩
  rcases mem_append.mp hw with z | z
  ·exact yI w z
  ·rw[mem_singleton.mp z];exact aX
 ·have e:i=n:=by omega
  subst e
  exact .inl ⟨le_refl _,q ys av aC yI dj de⟩
def Sp (H:ao):a4→dY→Prop
 | .line ln,.line y=>kF H ln y
 | .dm p n,.dm q m=>p=q∧n=m
 | .cut k,.cut j=>j=(k:Int)
 | _,_=>False
inductive kc (H:ao):List a4→List dY→Prop where
 | nil:kc H [] []
 | snoc {l:List a4} {aU:List dY} {s:a4} {k:dY} (h:kc H l aU) (q:Sp H s k):kc H (l++[s]) (aU++[k])
theorem XG {H:ao}{s:a4}{v:V}(h:Rep H s.D v):∃dg,Sp H s dg∧pZ H dg v:=by
 cases s with
 | line ln =>
  obtain⟨c,c3,di,rfl,ai,bE,b4⟩:=gj h
  cases bE.str_inv
  exact⟨.line di,kF.Eb b4,c,rfl,ai⟩
 | dm p n =>
  obtain⟨c,c3,di,n7,rfl,ai,bE,b4,gZ⟩:=zA h
  cases bE.str_inv
  cases b4.int_inv
  cases gZ.int_inv
  exact⟨.dm p n,⟨rfl,rfl⟩,c,rfl,ai⟩
 | cut k =>
  obtain⟨c,c3,di,rfl,ai,bE,b4⟩:=gj h
  cases bE.str_inv
  cases b4.int_inv
  exact⟨.cut (k:Int),rfl,c,rfl,ai⟩
theorem KL {H:ao}:∀(n:Nat) {l:List a4}{zs:List V},l.length=n→a9 H (l.map a4.D) zs→∃aU,kc H l aU∧mb H aU zs
 | 0,l,zs,e,h=>by
  have cF:=List.eq_nil_of_length_eq_zero e
  subst cF
  rw[a9.lx h]
  exact⟨[],.nil,.nil⟩
 | n+1,l,zs,e,h=>by
  have hg:l≠[]:=fun z=>by rw[z]at e;cases e
  have da:=List.dropLast_concat_getLast hg
  generalize l.dropLast=fD at da
  generalize l.getLast hg=s at da
  subst da
  rw[map_append]at h
  obtain⟨ys,x,rfl,aj,az⟩:=a9.snoc h
  have cF:fD.length=n:=by rw[length_append,length_singleton]at e;omega
  obtain⟨aU,a1,a2⟩:=KL n cF aj
  obtain⟨k,eY,gh⟩:=XG az
  exact⟨aU++[k],.snoc a1 eY,.snoc a2 gh⟩
theorem WG {H:ao}{l:List a4}{zs:List V}(h:a9 H (l.map a4.D) zs):∃aU,kc H l aU∧mb H aU zs:=KL _ rfl h
section
variable {H:ao}{l:List a4}{aU:List dY}
theorem kc.len (h:kc H l aU):l.length=aU.length:=by
 induction h with
 | nil=>rfl
 | snoc _ _ b3=>rw[length_append,length_append,b3];rfl
theorem kc.take (h:kc H l aU):∀i,kc H (l.take i) (aU.take i):=by
 induction h with
 | nil=>intro i;rw[take_nil,take_nil];exact .nil
 | @snoc l aU s k h q b3 =>
  intro i
  have aC:=h.len
  by_cases aP:i≤l.length
  ·rw[take_append_of_le_length aP,take_append_of_le_length (by omega)]
   exact b3 i
  ·rw[take_of_length_le (by rw[length_append,length_singleton];omega),take_of_length_le (by rw[length_append,length_singleton];omega)]
   exact .snoc h q
theorem kc.bP (h:kc H l aU) (ps:List Int):aU.foldl dY.bP (ps.map V.int)=(l.foldl a4.n0 ps).map V.int:=by
 induction h with
 | nil=>rfl
 | @snoc l aU s k h q b3 =>
  rw[foldl_append,foldl_append,b3]
  show dY.bP _ k=(a4.n0 _ s).map V.int
  match s,k,q with
  | .line ln,.line y,_=>rfl
  | .dm p n,.dm _ _,⟨rfl,rfl⟩=>exact pC _ _ _
  | .cut j,.cut _,_=>rfl
theorem kc.cA (h:kc H l aU) {log:List bD}{xs:List V}(aC:hu H log xs):hu H (l.foldl a4.iN log) (aU.foldl dY.cA xs):=by
 induction h with
 | nil=>exact aC
 | @snoc l aU s k h q b3 =>
  rw[foldl_append,foldl_append]
  show hu H (a4.iN _ s) (dY.cA _ k)
  match s,k,q with
  | .line ln,.line y,q=>exact fc.snoc b3 q
  | .dm p n,.dm _ _,_=>exact b3
  | .cut j,.cut _,rfl =>
   show hu H ((l.foldl a4.iN log).drop j) (j8 (aU.foldl dY.cA xs) (some (j:Int)) none)
   rw[uq]
   exact fc.drop b3 j
theorem kc.ok (h:kc H l aU) {c:Nat}(hf:∀p n,a4.dm p n∈l→p<c):∀k∈aU,k.ok c:=by
 induction h with
 | nil=>intro k aQ;cases aQ
 | @snoc l aU s k h q b3 =>
  intro g5 aQ
  rcases mem_append.mp aQ with z | z
  ·exact b3 (fun p n m=>hf p n (mem_append_left _ m)) g5 z
  ·rw[mem_singleton.mp z]
   match s,k,q with
   | .line ln,.line y,_=>exact True.intro
   | .dm p n,.dm _ _,⟨rfl,rfl⟩=>exact hf p n (mem_append_right _ (mem_singleton.mpr rfl))
   | .cut j,.cut _,_=>exact True.intro
end
structure Day where
 aA:List bZ
 stop:Nat
 aJ:List Nat
def q7 (aJ:List Nat):List V:=aJ.map fun n=>V.int (n:Nat)
def Day.D (d:Day):D:=.tup [.lst (d.aA.map bZ.D),.int (d.stop:Nat),.lst (d.aJ.map fun (n:Nat)=>D.int (n:Nat))]
def uG (H:ao) (bad:List Addr) (d:Day) (v:V):Prop:=∃(t dl aC:Addr) (us:List V),v=.ref t∧dl∉bad∧aC∉bad∧H t=some (.tup [.ref dl,.int (d.stop:Nat),.ref aC])∧H dl=some (.lst us)∧a9 H (d.aA.map bZ.D) us∧H aC=some (.lst (q7 d.aJ))
abbrev iJ (H:ao) (bad:List Addr) (ds:List Day) (us:List V):Prop:=fc (uG H bad) ds us
section
variable {H af:ao}{bad sI:List Addr}{d:Day}{v:V}{ds:List Day}{us:List V}
theorem uG.move (h:uG H bad d v) (st:∀b o,b∉bad→H b=some o→af b=some o) (kt:d1 H af) (nb:∀b,b∈sI→b∈bad∨H b=none):uG af sI d v:=by
 obtain⟨t,dl,aC,us,e,dN,dI,bF,hd,i4,c5⟩:=h
 refine⟨t,dl,aC,us,e,fun z=>?_,fun z=>?_,kt _ _ bF,st _ _ dN hd,a9.keep kt _ _ (er bZ.f3 _) i4,st _ _ dI c5⟩
 ·rcases nb _ z with y | y
  ·exact dN y
  ·rw[hd]at y;cases y
 ·rcases nb _ z with y | y
  ·exact dI y
  ·rw[c5]at y;cases y
theorem iJ.move (h:iJ H bad ds us) (st:∀b o,b∉bad→H b=some o→af b=some o) (kt:d1 H af) (nb:∀b,b∈sI→b∈bad∨H b=none):iJ af sI ds us:=fc.mono h fun _ _ q=>q.move st kt nb
theorem iJ.same (h:iJ H bad ds us) (s:bx H af):iJ af bad ds us:=h.move (fun b o _ e=>s b o e) s.fy fun b aa=>.inl aa
theorem Ka (H:ao):∀aJ:List Nat,a9 H (aJ.map fun (n:Nat)=>D.int (n:Nat)) (q7 aJ)
 | []=>.nil
 | n::r=>.cons .ofInt (Ka H r)
theorem KI:∀aJ:List Nat,fe (aJ.map fun (n:Nat)=>D.int (n:Nat))=aJ.length
 | []=>by show fe []=0;exact la
 | n::r=>by
  rw[map_cons,kx,KI r,wi,length_cons]
  omega
theorem uG.rep (h:uG H bad d v):Rep H d.D v:=by
 obtain⟨t,dl,aC,us,rfl,dN,dI,bF,hd,i4,c5⟩:=h
 exact .hs bF (.cons (.qS hd i4) (.cons .ofInt (.cons (.qS c5 (Ka H _)) .nil)))
theorem iJ.MV (h:iJ H bad ds us):a9 H (ds.map Day.D) us:=Jw (fc.mono h fun _ _ q=>q.rep)
theorem J4 {n m:Nat}:∀ds:List Day,(∀d∈ds,d.aA.length≤n∧d.aJ.length≤m)→fe (ds.map Day.D)≤ds.length * (6 * n+m+4)
 | [],_=>by rw[map_nil,la];exact zero_le _
 | d::r,h=>by
  rw[map_cons,kx,length_cons,Nat.succ_mul]
  have b3:=J4 r fun e he=>h e (mem_cons_of_mem _ he)
  obtain⟨aj,az⟩:=h d mem_cons_self
  have du:=Jk d.aA
  have aG:d.D.ef=1+fe [.lst (d.aA.map bZ.D),.int (d.stop:Nat),.lst (d.aJ.map fun (n:Nat)=>D.int (n:Nat))]:=Dj _
  rw[aG,kx,kx,kx,la,uu,uu,wi,KI]
  omega
end
theorem Lf:∀{ys:List V},(∀v∈ys,∃n:Nat,v=.int (n:Nat))→∃aJ,ys=q7 aJ
 | [],_=>⟨[],rfl⟩
 | v::r,h=>by
  obtain⟨n,rfl⟩:=h v mem_cons_self
  obtain⟨aJ,rfl⟩:=Lf fun w hw=>h w (mem_cons_of_mem _ hw)
  exact⟨n::aJ,rfl⟩
theorem Wh {H:ao}{a b:Addr}{aU:List Int}{xs:List V}(aj:H a=some (.lst (aU.map V.int))) (az:H b=some (.lst xs)) (aQ:1≤aU.length) (bh:∀v∈xs,∃c,v=V.ref c):a≠b:=fun e=>by
 subst e
 rw[aj]at az
 have e:aU.map V.int=xs:=by cases az;rfl
 cases aU with
 | nil=>exact absurd aQ (by decide)
 | cons k r =>
  obtain⟨c,ai⟩:=bh (.int k) (by rw[←e];exact mem_cons_self)
  cases ai
def gV (room:Int) (ps:List Int) (aA:List bZ):List a4:=((b9 ps room).rows aA).flatten
def r6 (room:Int) (ps:List Int) (d:Day):List Int:=keptBy (min d.stop (gV room ps d.aA).length) d.aA (b9 ps room) (b9 ps room) 0
def mQ (room:Int) (ps:List Int) (ds:List Day) (i:Nat):List Int:=(ds.take i).foldl (r6 room) ps
theorem Xh (ps:List Int) (room:Int):h6 (b9 ps room) (b9 ps room):=⟨rfl,fun d l fD m=>(by cases m),fun d l q e m=>(by cases m)⟩
theorem I8 {room:Int}(gN:0≤room) (ps:List Int) (d:Day):kp (((gV room ps d.aA).take d.stop).foldl a4.n0 ps) (((gV room ps d.aA).take d.stop).foldl a4.iN []) (r6 room ps d):=by
 have e:(gV room ps d.aA).take d.stop=(gV room ps d.aA).take (min d.stop (gV room ps d.aA).length):=by
  by_cases c:d.stop≤(gV room ps d.aA).length
  ·rw[Nat.min_eq_left c]
  ·rw[Nat.min_eq_right (by omega),take_of_length_le (by omega),take_length]
 rw[e]
 exact Lk _ d.aA (b9 ps room) (b9 ps room) 0 (Ml ps room) (Xh ps room) (Cv ps room) (De gN) (zero_le _)
theorem B7 {room:Int}(gN:0≤room) (ps:List Int) (d:Day):(r6 room ps d).length=ps.length:=by
 rw[(I8 gN ps d).1,Dh]
theorem IG {room:Int}(gN:0≤room) (ps:List Int):∀(ds:List Day) (i:Nat),(mQ room ps ds i).length=ps.length:=by
 intro ds i
 unfold mQ
 generalize ds.take i=l
 induction l generalizing ps with
 | nil=>rfl
 | cons d r b3=>rw[foldl_cons,b3,B7 gN]
theorem Ij {room:Int}{ps:List Int}{ds:List Day}{i:Nat}{d:Day}(h:ds[i]?=some d):mQ room ps ds (i+1)=r6 room (mQ room ps ds i) d:=by
 unfold mQ
 rw[take_add_one,h,foldl_append]
 rfl
theorem Wi {room:Int}(gN:0≤room) {ps:List Int}{aA:List bZ}(aF:ps.length≤100) (he:aA.length≤63) (j:Nat):(((gV room ps aA).take j).foldl a4.iN []).length≤300:=by
 have aj:=JF aA (b9 ps room) j (Cv ps room) (De gN)
 have ph:(b9 ps room).bound=0:=rfl
 have fC:(b9 ps room).log=[]:=rfl
 have acO:(b9 ps room).ay.length=ps.length:=rfl
 rw[fC,ph,acO,length_nil]at aj
 have e:((b9 ps room).rows aA).flatten=gV room ps aA:=rfl
 rw[e]at aj
 omega
theorem J6:∀rows:List (List a4),(rows.map fun r=>(r.length:Int)).sum=(rows.flatten.length:Int)
 | []=>rfl
 | r::l=>by
  rw[map_cons,sum_cons,J6 l,List.flatten_cons,length_append]
  omega
end L2
namespace Gs
open PySem L2
theorem cj {j k:Nat}{A:Around}(h:gJ j A) (q:k≤j:=by decide):gJ k A:=h.mono q
theorem d2 {N Q:List Str}{sc:Scope}(a:sc.kind=.function:=by rfl) (b:sc.isCoroutine=false:=by rfl) (c:sc.isGenerator=false:=by rfl) (d:N.Nodup:=by decide +kernel) (e:N.take Q.length=Q:=by rfl) (f:∀x∈Q,sc.names.lookup x=some .local∨sc.names.lookup x=some .cell:=by decide +kernel) (g:∀y∈sc.names,y.2≠.free:=by decide +kernel):dP N Q sc:=⟨a,b,c,d,e,f,g⟩
abbrev Nc:List Str:=["_law_script","_law_head","_law_count","_law_room","_law_pages","_law_asked","_law_ones","_law_handed","_law_found","_law_kept","_law_k","_law_deeds","_law_house","_law_told","_law_rows","_law_deed","_law_stop"]
abbrev sA:List Str:=["_law_cells","_law_count","_law_words","_law_asked","_law_out","_law_over","_law_begun","_law_k","_law_rest","_law_word","_law_odd","_law_far","_law_page","_law_strange","_law_dealing","_law_number"]
abbrev Nd:List Str:=["_law_script","_law_count","_law_many","_law_size","_law_made","_law_k","_law_cells","_law_stop","_law_halts"]
abbrev Af:List Str:=["_law_pages","_law_asked","_law_told","_law_rows","_law_stop"]
abbrev uM:List Str:=["_law_house","_law_dealing","_law_page","_law_number"]
abbrev Ar:List Str:=["_law_pages","_law_desk","_law_log","_law_puts"]
abbrev sF:List Str:=["_law_number","_law_prime","_law_many"]
abbrev An:List Str:=["_law_puts","_law_desk","_law_deed"]
abbrev kK:List Str:=["self","dealing","page","number"]
abbrev Ak:List Str:=["pages","desk","log","dealings"]
abbrev nQ:List Str:=["_law_house","_law_stroke"]
abbrev Ag:List Str:=["_law_script","_law_count"]
abbrev Aj:List Str:=["_law_cells","_law_count"]
abbrev q9:List Str:=["_law_house","_law_deed"]
abbrev uN:List Str:=["_law_house","_law_page"]
abbrev uL:List Str:=["pages","log","strokes"]
abbrev wU:List Str:=["_law_cell","_law_count"]
abbrev As:List Str:=["_law_lines","_law_page"]
abbrev Ao:List Str:=["_law_house","_law_more"]
abbrev Am:List Str:=["_law_pages","_law_room"]
abbrev Al:List Str:=["self","dealing","page"]
abbrev q0:List Str:=["pages","room","deeds"]
abbrev Au:List Str:=["_law_found","_law_due"]
abbrev Aq:List Str:=["_law_puts","_law_page"]
abbrev sD:List Str:=["_law_script","_law_k"]
abbrev wR:List Str:=["self","pages","room"]
abbrev Ai:List Str:=["pages","log","halts"]
abbrev Ah:List Str:=["pages","room","days"]
abbrev sC:List Str:=["self","pages","log"]
abbrev iB:List Str:=["self","dealing"]
abbrev jl:List Str:=["self","stroke"]
abbrev lz:List Str:=["house","deed"]
abbrev ie:List Str:=["self","page"]
abbrev m1:List Str:=["self","more"]
abbrev qZ:List Str:=["pages","log"]
abbrev Ae:List Str:=["_law_script"]
abbrev sE:List Str:=["_law_found"]
abbrev uO:List Str:=["_law_house"]
abbrev oM:List Str:=["_law_head"]
abbrev wV:List Str:=["_law_puts"]
abbrev wQ:List Str:=["_law_rows"]
abbrev lA:List Str:=["self"]
def top (i:Nat):Stmt:=PySem.Challenge.pw_quillhouse_k11_whole_days.main.body.getD i (.Pass ⟨0,0,0,0⟩)
abbrev DF:Stmt:=inClass (top 1) 0
abbrev EU:Stmt:=inClass (top 1) 1
abbrev C5:Stmt:=top 2
abbrev Du:Stmt:=top 10
abbrev Dy:Stmt:=top 11
abbrev DA:Stmt:=inClass (top 13) 0
abbrev DH:Stmt:=inClass (top 13) 1
abbrev Es:Stmt:=inClass (top 13) 2
abbrev Et:Stmt:=inClass (top 13) 3
abbrev D5:Stmt:=inClass (top 13) 4
abbrev D1:Stmt:=inClass (top 13) 5
abbrev DE:Stmt:=inClass (top 13) 6
abbrev Ew:Stmt:=inClass (top 13) 7
abbrev Ea:Stmt:=inClass (top 13) 8
abbrev D9:Stmt:=inClass (top 13) 9
abbrev D_:Stmt:=inClass (top 13) 10
abbrev D8:Stmt:=inClass (top 13) 11
abbrev D3:Stmt:=inClass (top 13) 12
abbrev Dw:Stmt:=inClass (top 13) 13
abbrev C0:Stmt:=inClass (top 13) 14
abbrev Dv:Stmt:=inClass (top 13) 15
abbrev Cb:Stmt:=top 15
abbrev zL:Stmt:=top 16
abbrev C4:Stmt:=top 17
abbrev DZ:Stmt:=top 19
abbrev ET:Stmt:=top 20
abbrev D7:Stmt:=top 22
abbrev DK:Stmt:=top 23
abbrev Eu:Stmt:=top 24
abbrev D6:Stmt:=top 26
abbrev wo:Stmt:=top 27
abbrev EV:Stmt:=top 28
abbrev DI:Stmt:=top 29
abbrev kC:Stmt:=top 30
abbrev Dt:Stmt:=top 31
abbrev D0:Stmt:=top 32
abbrev Dr:Stmt:=top 33
abbrev CD:Stmt:=top 34
abbrev DG:Stmt:=top 35
abbrev DJ:Stmt:=top 36
abbrev C2:Stmt:=top 37
abbrev Dz:Stmt:=top 38
abbrev C1:Stmt:=top 39
abbrev DC:Stmt:=top 40
abbrev CF:Stmt:=top 41
abbrev D4:Stmt:=top 42
abbrev Ds:Stmt:=top 43
abbrev DB:Stmt:=top 44
abbrev Co:Stmt:=top 45
abbrev D2:Stmt:=top 46
abbrev BZ:Stmt:=top 47
abbrev wc:Stmt:=top 48
abbrev DD:Stmt:=top 49
abbrev wN:Stmt:=top 50
theorem en {c A B:Prop} [Decidable c] (ai:c) (h:A):if decide c=true then A else B:=by
 rw[decide_eq_true ai]
 exact eB h
theorem bC {c A B:Prop} [Decidable c] (ai:¬c) (h:B):if decide c=true then A else B:=by
 rw[decide_eq_false ai]
 exact dQ h
theorem pW {c A B:Prop} [Decidable c] (ai:¬c) (h:A):if (!decide c)=true then A else B:=by
 rw[decide_eq_false ai]
 exact eB h
theorem ji:bootBuiltins "list"=some (.type "list"):=by decide +kernel
theorem DV:bootBuiltins "tuple"=some (.type "tuple"):=by decide +kernel
theorem AB:bootBuiltins "int"=some (.type "int"):=by decide +kernel
theorem EL:bootBuiltins "str"=some (.type "str"):=by decide +kernel
theorem MH:bootBuiltins "bool"=some (.type "bool"):=by decide +kernel
theorem MG:bootBuiltins "dict"=some (.type "dict"):=by decide +kernel
theorem l3:bootBuiltins "isinstance"=some (.builtin "isinstance"):=by decide +kernel
section
variable (K:PySem.W.Frag)
theorem IL:kitOne K (.type "int") (.type "int")=some true:=by kernel_rfl
theorem Il:kitOne K (.type "int") (.type "bool")=some false:=by kernel_rfl
theorem qI:kitOne K (.type "int") (.type "str")=some false:=by kernel_rfl
theorem pD:kitOne K (.type "str") (.type "str")=some true:=by kernel_rfl
theorem BX:kitOne K (.type "list") (.type "list")=some true:=by kernel_rfl
theorem H_:kitOne K (.type "list") (.type "tuple")=some false:=by kernel_rfl
theorem H9:kitOne K (.type "tuple") (.type "list")=some false:=by kernel_rfl
theorem H7:kitOne K (.type "tuple") (.type "tuple")=some true:=by kernel_rfl
theorem Wk:PySem.W.kitAny K (.type "int") ([ "list","tuple"].map Value.type)=some false:=by kernel_rfl
theorem Wj:PySem.W.kitAny K (.type "str") ([ "list","tuple"].map Value.type)=some false:=by kernel_rfl
theorem VB:PySem.W.kitAny K (.type "list") ([ "list","tuple"].map Value.type)=some true:=by kernel_rfl
theorem Uw:PySem.W.kitAny K (.type "tuple") ([ "list","tuple"].map Value.type)=some true:=by kernel_rfl
end
structure ff (mg:Str→Option Value):Prop where
 lst:mg "list"=none
 tup:mg "tuple"=none
 int:mg "int"=none
 str:mg "str"=none
 b0:mg "bool"=none
 l7:mg "isinstance"=none
 len:mg "len"=none
 i2:mg "range"=none
 va:mg "enumerate"=none
 Rc:mg "dict"=none
def Dn:dn:=fun vs H Q _=>∃n p m:Int,vs=[.int n,.int p,.int m]∧0<p∧0<m∧∀r:Int,0≤r→r<m→Q (.int r) H
def KN:dn:=fun vs H Q _=>∃i:Int,vs=[.int i]∧Q (.b0 true) H
def Eo (K:PySem.W.Frag):dn:=fun vs H Q _=>∃(a:Addr) (ns:List Int) (k:Int),vs=[.ref a,.int k]∧aM K H a (ns.map V.int)∧0≤k∧∀z:Int,Q (.int z) H
def KW:dn:=fun vs H Q _=>∃(x y:V) (d:D),vs=[x,y]∧Rep H d x∧Rep H d y∧d.ef≤190000∧∀af,bx H af→Q (.b0 true) af
section
variable {P:Program}{w:World}{K:PySem.W.Frag}{mg:Str→Option Value}{base:Heap}{f:Addr}{fd:FuncData}
theorem WJ:dP sF sF (cR D6):=d2
theorem Wd (F:bU K "_law_draw" "_law_draw" D6 f fd):bp P w K mg base bW 1 f fd sF Dn:=by
 refine F.ok WJ (fun vs H Q E h=>?_) (fun cz A outer s H vs Q E aE h=>?_)
 ·obtain⟨n,p,m,rfl,_⟩:=h
  rfl
 obtain⟨n,p,m,rfl,aF,hm,q⟩:=h
 refine⟨_,bl (dH (c0 iZ (c0 iZ (c0 sd (ah 0) aZ) (ah 1)) (ah 2))),?_⟩
 refine⟨_,rfl,_,_,rfl,rfl,.inr ⟨by decide,by decide⟩,_,rfl,_,_,rfl,rfl,aF,_,rfl,_,_,rfl,rfl,hm,?_⟩
 exact q _ (Int.emod_nonneg _ (by omega)) (Int.emod_lt_of_pos _ hm)
theorem K0:dP sE sE (cR wo):=d2
theorem Vf (F:bU K "_law_whole" "_law_whole" wo f fd) (B:ff mg):bp P w K mg base bW 1 f fd sE KN:=by
 refine F.ok K0 (fun vs H Q E h=>?_) (fun cz A outer s H vs Q E aE h=>?_)
 ·obtain⟨i,rfl,_⟩:=h
  rfl
 obtain⟨i,rfl,q⟩:=h
 refine⟨_,bl (dH (DP (es mM rfl B.l7 l3 (au (ah 0) (au (lg (v:=.ty "int") rfl B.int AB rfl) aN)))
  (DO (LQ (es mM rfl B.l7 l3 (au (ah 0) (au (lg (v:=.ty "bool") rfl B.b0 MH rfl) aN))))))),?_⟩
 refine⟨_,rfl,_,_,_,_,rfl,.int i,IL K,_,rfl,eB ?_⟩
 exact⟨_,rfl,_,_,_,_,rfl,.int i,Il K,_,rfl,q⟩
theorem YF:dP sD sD (cR EV):=d2
theorem X0 (F:bU K "_law_at" "_law_at" EV f fd) (B:ff mg):bp P w K mg base bW 1 f fd sD (Eo K):=by
 refine F.ok YF (fun vs H Q E h=>?_) (fun cz A outer s H vs Q E aE h=>?_)
 ·obtain⟨a,ns,k,rfl,_⟩:=h
  rfl
 obtain⟨a,ns,k,rfl,hY,h0,q⟩:=h
 refine⟨_,bg (c_ (cX z5 (ah 1) (es gU rfl B.len PySem.boot_len (au (ah 0) aN)) (cP _)) (bl (dH (bK fa (ah 0) (ah 1) (fun _ _=>rfl)))) dZ) (bl (dH aZ)),?_⟩
 refine⟨_,rfl,_,rfl,a,_,rfl,.inl hY,_,_,rfl,rfl,_,rfl,?_⟩
 refine gn (fun c=>?_) (fun c=>?_)
 ·have fO:k<(((ns.map V.int).length:Nat):Int):=of_decide_eq_true c
  obtain⟨v,aj,az⟩:=DW h0 fO
  obtain⟨z,rfl,_⟩:=IP az
  exact⟨_,rfl,_,rfl,a,_,_,_,rfl,rfl,hY,aj,q z⟩
 ·exact q 0
theorem v_:dP ["_law_found","_law_due","_law_left","_law_right","_law_one","_law_two"] Au (cR DI):=d2
theorem Lj {α:Type}(l:List α) (a:α):(l++[a])[(l++[a]).length - 1]?=some a:=by
 rw[length_append,length_singleton,Nat.add_sub_cancel,getElem?_append_right (le_refl _),sub_self]
 rfl
theorem Vt {g:Addr}{jw:FuncData}(F:bU K "_law_alike" "_law_alike" DI f fd) (B:ff mg) (tS:bp P w K mg base bW 1 g jw sE KN) (tH:Binds K jw sE []) (Hq:keepIn K (.ref g)=true) (tx:mg "_law_whole"=some (.ref g)) :
  bp P w K mg base bW 2 f fd Au KW:=by
 refine F.ok v_ (fun vs H Q E h=>?_) (fun cz A outer s H vs Q E aE h=>?_)
 ·obtain⟨x,y,d,rfl,_⟩:=h
  rfl
 obtain⟨x,y,d,rfl,bh,b6,hz,q⟩:=h
 have bq:=ht aE
 refine⟨_,(bg (cJ (i:=2) v_.a3 rfl (Or.inl rfl) (fx (au (ah 0) aN))) (bg (cJ (i:=3) v_.a3 rfl (Or.inl rfl) (fx (au (ah 1) aN))) (bg (U6 PassesOwn.never (cX (Ke (Nat.lt_of_succ_lt bq)) (ah 3) (fx aN) (cP _)) (bg (cJ (i:=4) v_.a3 rfl (Or.inl rfl) (LR plainAttrs_list PySem.F.slot_list_pop PySem.F.type_list_pop LU (ah 2))) (bg (cJ (i:=5) v_.a3 rfl (Or.inl rfl) (LR plainAttrs_list PySem.F.slot_list_pop PySem.F.type_list_pop LU (ah 3))) (bl (c_ (jZ (es UL rfl B.l7 l3 (au (ah 5) (au (gH (au (lg (v:=.ty "list") rfl B.lst ji rfl) (au (lg (v:=.ty "tuple") rfl B.tup DV rfl) aN))) aN)))) (bg (c_ (cX kD (es mM rfl B.l7 l3 (au (ah 4) (au (lg (v:=.ty "list") rfl B.lst ji rfl) aN))) (es mM rfl B.l7 l3 (au (ah 5) (au (lg (v:=.ty "list") rfl B.lst ji rfl) aN))) (cP _)) (bl (dH lp)) dZ) (bg (c_ (mS (cX kD (es mM rfl B.l7 l3 (au (ah 4) (au (lg (v:=.ty "tuple") rfl B.tup DV rfl) aN))) (es mM rfl B.l7 l3 (au (ah 5) (au (lg (v:=.ty "tuple") rfl B.tup DV rfl) aN))) (cP _)) (cX kD (es gU rfl B.len PySem.boot_len (au (ah 4) aN)) (es gU rfl B.len PySem.boot_len (au (ah 5) aN)) (cP _))) (bl (dH lp)) dZ) (bg (dD (ia plainAttrs_list slot_list_extend type_list_extend I4 (ah 2) (au (ah 4) aN))) (bl (dD (ia plainAttrs_list slot_list_extend type_list_extend I4 (ah 3) (au (ah 5) aN))))))) (bl (c_ (jZ (es mM rfl B.l7 l3 (au (ah 5) (au (lg (v:=.ty "str") rfl B.str EL rfl) aN)))) (bl (c_ (mS (pO (jZ (es mM rfl B.l7 l3 (au (ah 4) (au (lg (v:=.ty "str") rfl B.str EL rfl) aN))))) (cX kD (ah 4) (ah 5) (cP _))) (bl (dH lp)) dZ)) (bl (c_ (mS (pO (jZ (dE tS (cj aE) rfl tx Hq tH .nil cU (au (ah 4) aN)))) (cX kD (ah 4) (ah 5) (cP _))) (bl (dH lp)) dZ))))))))) (bl (dH lp))))),?_⟩
 have small:∀{n:Nat},n≤190000→n<sizeLine:=fun h=>jB (by omega)
 refine⟨_,rfl,c8,fun l aC=>⟨_,rfl,c8,fun r m6=>?_⟩⟩
 have q8:l≠r:=ct (aV (H:=H) (a:=l) (o:=.lst [x])) m6
 have FI:H r=none:=by rw[aB q8.symm]at m6;exact m6
 refine⟨fun m σ av=>∃(ds:List D) (xs ys:List V) (cc b7:Option V),m=fe ds∧σ=[some x,some y,some (.ref l),some (.ref r),cc,b7]∧bx H av∧av l=some (.lst xs)∧av r=some (.lst ys)∧a9 H ds xs∧a9 H ds ys∧fe ds≤190000,
  ⟨d.ef,[d],[x],[y],none,none,by rw[kx,la];rfl,rfl,(bV aC _).trans (bV m6 _),by rw[aB q8,aV],aV,.cons bh .nil,.cons b6 .nil,by rw[kx,la];exact hz⟩,?_⟩
 rintro m σ av ⟨ds,xs,ys,cc,b7,rfl,rfl,s2,aG,aL,bE,b4,hsz⟩
 refine⟨_,rfl,c8,fun t bF=>?_⟩
 have s3:bx H (upd av t (.lst [])):=s2.trans (bV bF _)
 have Gh:(upd av t (.lst [])) l=some (.lst xs):=by rw[aB (ct aG bF)];exact aG
 have Gf:(upd av t (.lst [])) r=some (.lst ys):=by rw[aB (ct aL bF)];exact aL
 have s9:(upd av t (.lst [])) t=some (.lst []):=aV
 generalize upd av t (.lst [])=aS at s3 Gh Gf s9 ⊢
 refine⟨r,t,ys,rfl,rfl,Gf,s9,_,rfl,?_⟩
 rcases List.eq_nil_or_concat ds with rfl | ⟨oY,d',Q4⟩
 ·rw[b4.lx]
  refine dQ ?_
  exact q aS s3
 rw[List.concat_eq_append]at Q4
 subst Q4
 obtain⟨gK,o1,rfl,NV,AH⟩:=bE.snoc
 obtain⟨ly,y',rfl,NU,AG⟩:=b4.snoc
 have hg:(!(ly++[y']).isEmpty)=true:=by simp
 rw[hg]
 refine eB ⟨_,fun bz af h=>h,?_⟩
 have dk:∀(fC:List D) (us vs:List V) (cc b7:Option V) (af:ao),fe fC<d'.ef→bx H af→af l=some (.lst (gK++us))→af r=some (.lst (ly++vs))→a9 H fC us→a9 H fC vs →
   ∃gb,gb<fe (oY++[d'])∧∃(ds:List D) (xs ys:List V) (fi eK:Option V),gb=fe ds∧([some x,some y,some (.ref l),some (.ref r),cc,b7]:St)=[some x,some y,some (.ref l),some (.ref r),fi,eK]∧bx H af∧af l=some (.lst xs)∧af r=some (.lst ys)∧a9 H ds xs∧a9 H ds ys∧fe ds≤190000 :=
  fun fC us vs cc b7 af c2 dj aj az ck dv=>by
   have e:fe (oY++[d'])=fe oY+d'.ef:=by rw[zk,kx,la,Nat.add_zero]
   have cF:fe (oY++fC)=fe oY+fe fC:=zk _ _
   exact⟨fe (oY++fC),by omega,oY++fC,_,_,cc,b7,rfl,rfl,dj,aj,az,NV.append ck,NU.append dv,by omega⟩
 have Nx:(upd aS l (.lst (gK++[o1]).dropLast)) r=some (.lst (ly++[y'])):=by rw[aB q8.symm];exact Gf
 refine⟨_,rfl,.inl ⟨rfl,_,aM.of Gh⟩,l,_,o1,rfl,rfl,Gh,Lj _ _,?_⟩
 refine⟨_,rfl,.inl ⟨rfl,_,aM.of Nx⟩,r,_,y',rfl,rfl,Nx,Lj _ _,?_⟩
 have s4:bx H (upd (upd aS l (.lst (gK++[o1]).dropLast)) r (.lst (ly++[y']).dropLast)):=(s3.hr aC).hr FI
 have mz:(upd (upd aS l (.lst (gK++[o1]).dropLast)) r (.lst (ly++[y']).dropLast)) l=some (.lst gK):=by rw[aB q8,aV,List.dropLast_concat]
 have mj:(upd (upd aS l (.lst (gK++[o1]).dropLast)) r (.lst (ly++[y']).dropLast)) r=some (.lst ly):=by rw[aV,List.dropLast_concat]
 generalize upd (upd aS l (.lst (gK++[o1]).dropLast)) r (.lst (ly++[y']).dropLast)=cB at s4 mz mj ⊢
 refine⟨_,rfl,c8,fun p aF=>?_⟩
 have kT:(upd cB p (.tup [.ty "list",.ty "tuple"])) p=some (.tup [.ty "list",.ty "tuple"]):=aV
 have s5:bx H (upd cB p (.tup [.ty "list",.ty "tuple"])):=s4.trans (bV aF _)
 have nu:(upd cB p (.tup [.ty "list",.ty "tuple"])) l=some (.lst gK):=by rw[aB (ct mz aF)];exact mz
 have mh:(upd cB p (.tup [.ty "list",.ty "tuple"])) r=some (.lst ly):=by rw[aB (ct mj aF)];exact mj
 generalize upd cB p (.tup [.ty "list",.ty "tuple"])=dr at kT s5 nu mh ⊢
 have hlen:∀(fC:List D) (us:List V),fe fC<d'.ef→a9 H fC us→gK.length+us.length≤sizeLine∧ly.length+us.length≤sizeLine:=fun fC us aj az=>by
  have a1:=Dd fC
  have a2:=az.length
  have jU:=Dd oY
  have pk:=NV.length
  have tL:=NU.length
  have e:fe (oY++[d'])=fe oY+d'.ef:=by rw[zk,kx,la,Nat.add_zero]
  exact⟨le_of_lt (small (by omega)),le_of_lt (small (by omega))⟩
 cases d' with
 | int i =>
  cases AH.int_inv
  cases AG.int_inv
  refine⟨_,_,p,["list","tuple"],_,rfl,.int i,kT,Wk K,_,rfl,dQ ?_⟩
  refine⟨_,rfl,_,_,_,_,rfl,.int i,qI K,_,rfl,dQ ?_⟩
  refine⟨_,rfl,i,rfl,_,rfl,dQ ?_⟩
  refine⟨_,rfl,_,rfl,rfl,_,rfl,nG rfl ?_⟩
  exact dk [] [] [] _ _ dr (by rw[la,wi];decide) s5 (by rw[append_nil];exact nu) (by rw[append_nil];exact mh) .nil .nil
 | str z =>
  cases AH.str_inv
  cases AG.str_inv
  refine⟨_,_,p,["list","tuple"],_,rfl,.str z,kT,Wj K,_,rfl,dQ ?_⟩
  refine⟨_,rfl,_,_,_,_,rfl,.str z,pD K,_,rfl,eB ?_⟩
  refine⟨_,rfl,_,_,_,_,rfl,.str z,pD K,_,rfl,dQ ?_⟩
  refine⟨_,rfl,_,rfl,rfl,_,rfl,nG rfl ?_⟩
  exact dk [] [] [] _ _ dr (by rw[la,LB];decide) s5 (by rw[append_nil];exact nu) (by rw[append_nil];exact mh) .nil .nil
 | tup fC =>
  obtain⟨a,us,rfl,bo,jN⟩:=AH.r1
  obtain⟨b,vs,rfl,aa,tu⟩:=AG.r1
  have qa:=s5 _ _ bo
  have nY:=s5 _ _ aa
  have c2:fe fC<(D.tup fC).ef:=by rw[Dj];omega
  obtain⟨du,_⟩:=hlen fC us c2 jN
  obtain⟨_,dK⟩:=hlen fC vs c2 tu
  refine⟨_,_,p,["list","tuple"],_,rfl,.tup nY,kT,Uw K,_,rfl,eB ?_⟩
  refine⟨_,rfl,_,_,_,_,rfl,.tup qa,H9 K,_,rfl,_,_,_,_,rfl,.tup nY,H9 K,rfl,_,rfl,nG rfl ?_⟩
  refine⟨_,rfl,_,_,_,_,rfl,.tup qa,H7 K,_,rfl,_,_,_,_,rfl,.tup nY,H7 K,rfl,_,rfl,nG rfl ?_⟩
  refine⟨_,rfl,a,us,rfl,.inr (aO.of qa),_,rfl,b,vs,rfl,.inr (aO.of nY),rfl,_,rfl,nG (by rw[jN.length,tu.length]) ?_⟩
  refine⟨_,rfl,.inl ⟨rfl,_,aM.of nu⟩,_,rfl,l,a,gK,us,rfl,rfl,nu,.inr qa,du,?_⟩
  have fq:(upd dr l (.lst (gK++us))) b=some (.tup vs):=by rw[aB (ct aa aC)];exact nY
  have yu:(upd dr l (.lst (gK++us))) r=some (.lst ly):=by rw[aB q8.symm];exact mh
  refine⟨_,rfl,.inl ⟨rfl,_,aM.of yu⟩,_,rfl,r,b,ly,vs,rfl,rfl,yu,.inr fq,dK,?_⟩
  exact dk fC us vs _ _ _ c2 ((s5.hr aC).hr FI) (by rw[aB q8,aV]) aV jN tu
 | lst fC =>
  obtain⟨a,us,rfl,bo,jN⟩:=AH.lst_inv
  obtain⟨b,vs,rfl,aa,tu⟩:=AG.lst_inv
  have qa:=s5 _ _ bo
  have nY:=s5 _ _ aa
  have c2:fe fC<(D.lst fC).ef:=by rw[uu];omega
  obtain⟨du,_⟩:=hlen fC us c2 jN
  obtain⟨_,dK⟩:=hlen fC vs c2 tu
  refine⟨_,_,p,["list","tuple"],_,rfl,.lst nY,kT,VB K,_,rfl,eB ?_⟩
  refine⟨_,rfl,_,_,_,_,rfl,.lst qa,BX K,_,rfl,_,_,_,_,rfl,.lst nY,BX K,rfl,_,rfl,nG rfl ?_⟩
  refine⟨_,rfl,_,_,_,_,rfl,.lst qa,H_ K,_,rfl,_,_,_,_,rfl,.lst nY,H_ K,rfl,_,rfl,nG rfl ?_⟩
  refine⟨_,rfl,a,us,rfl,.inl (aM.of qa),_,rfl,b,vs,rfl,.inl (aM.of nY),rfl,_,rfl,nG (by rw[jN.length,tu.length]) ?_⟩
  refine⟨_,rfl,.inl ⟨rfl,_,aM.of nu⟩,_,rfl,l,a,gK,us,rfl,rfl,nu,.inl qa,du,?_⟩
  have fq:(upd dr l (.lst (gK++us))) b=some (.lst vs):=by rw[aB (ct aa aC)];exact nY
  have yu:(upd dr l (.lst (gK++us))) r=some (.lst ly):=by rw[aB q8.symm];exact mh
  refine⟨_,rfl,.inl ⟨rfl,_,aM.of yu⟩,_,rfl,r,b,ly,vs,rfl,rfl,yu,.inl fq,dK,?_⟩
  exact dk fC us vs _ _ _ c2 ((s5.hr aC).hr FI) (by rw[aB q8,aV]) aV jN tu
def KX:dn:=fun vs H Q _=>∃(l:Addr) (xs:List V) (log:List bD) (p:Nat),vs=[.ref l,.int (p:Nat)]∧H l=some (.lst xs)∧hu H log xs∧Q (.b0 (log.any (i0 p))) H
def J8:dn:=fun vs H Q _=>∃(ce ak lo pu:Addr) (cs ds:List Int) (xs:List V) (log:List bD) (kvs:List (Key × V)) (op:Int→Bool),vs=[.ref ce,.ref ak,.ref lo,.ref pu]∧H ce=some (.lst (cs.map V.int))∧H ak=some (.lst (ds.map V.int))∧cs.length=ds.length∧H lo=some (.lst xs)∧hu H log xs∧(∀ln∈log,ln.ok ds.length)∧log.length≤100000 ∧
 H pu=some (.bR kvs)∧(∀d:Int,(dF kvs (Sum.inl d)).isSome=op d)∧∀af,bx H af→Q (.int (ez cs ds op log:Nat)) af
def vY:dn:=fun vs H Q _=>∃(h ce ak lo pu st:Addr) (pl:List (Int × Addr)) (x:aq) (v:V) (s:a4),vs=[.ref h,v]∧br H h ce ak lo pu st pl x∧Rep H s.D v∧s.okIn x∧x.fits 1 ∧
 ∀lo' af,br af h ce ak lo' pu st pl (x.dc s)→jk (own h ce ak pu st pl) lo lo' H af→Q .cS af
def CV:dn:=fun vs H Q _=>∃(h ce ak lo pu st:Addr) (pl:List (Int × Addr)) (x:aq),vs=[.ref h]∧br H h ce ak lo pu st pl x∧x.fits 1 ∧
 ∀lo' af,br af h ce ak lo' pu st pl x.dW→jk (own h ce ak pu st pl) lo lo' H af→Q .cS af
def Cn:dn:=fun vs H Q _=>∃(h ce ak lo pu st:Addr) (pl:List (Int × Addr)) (x:aq) (p:Nat),vs=[.ref h,.int (p:Nat)]∧br H h ce ak lo pu st pl x∧p<x.ay.length∧x.fits 1 ∧
 ∀lo' af,br af h ce ak lo' pu st pl (x.d0 p)→jk (own h ce ak pu st pl) lo lo' H af→Q .cS af
theorem K5:dP ["_law_lines","_law_page","_law_one"] As (cR DJ):=d2
theorem Vu (F:bU K "_law_put_again" "_law_put_again" DJ f fd):bp P w K mg base bW 1 f fd As KX:=by
 refine F.ok K5 (fun vs H Q E h=>?_) (fun cz A outer s H vs Q E aE h=>?_)
 ·obtain⟨l,xs,log,p,rfl,_⟩:=h
  rfl
 obtain⟨l,xs,log,p,rfl,aC,eX,q⟩:=h
 refine⟨_,(bg (hM PassesOwn.never rfl (jf (ah 0)) (fQ (i:=2) K5.a3 rfl (Or.inl rfl)) (bl (c_ (oA (cX el (bK cC (ah 2) aZ (fun _ _=>rfl)) bJ (cP _)) (cX el (bK cC (ah 2) aZ (fun _ _=>rfl)) (ah 1) (cP _))) (bl (dH lp)) dZ))) (bl (dH lp))),?_⟩
 refine⟨_,rfl,l,rfl,⟨xs,aM.of aC⟩,mL (K:=K) (a:=l) (xs:=xs) (fun i σ av=>∃o:Option V,σ=[some (.ref l),some (.int (p:Nat)),o]∧av=H∧(log.take i).any (i0 p)=false)
  ⟨none,rfl,rfl,rfl⟩ (fun i σ av _ ⟨_,_,e,_⟩=>by rw[e];exact aM.of aC) ?_ ?_⟩
 ·rintro i x σ av aP ⟨o,rfl,rfl,aR⟩
  obtain⟨ln,fS,gX⟩:=eX.get aP
  have ja:(log.take (i+1)).any (i0 p)=i0 p ln:=by
   rw[take_add_one,any_append,aR,fS]
   simp
  cases ln with
  | fin d =>
   obtain⟨c,rfl,ai⟩:=gX
   refine⟨_,rfl,c,_,_,_,rfl,rfl,aO.of ai,rfl,rfl,_,rfl,bC uB ?_⟩
   refine dQ ?_
   exact⟨_,rfl,rfl,ja⟩
  | put d eH fB n =>
   obtain⟨c,rfl,ai⟩:=gX
   refine⟨_,rfl,c,_,_,_,rfl,rfl,aO.of ai,rfl,rfl,_,rfl,en rfl ?_⟩
   refine⟨_,rfl,c,_,_,_,rfl,rfl,aO.of ai,rfl,_,rfl,rfl,_,rfl,gn (fun cH=>?_) (fun cH=>?_)⟩
   ·have aG:V.int (eH:Nat)=V.int (p:Nat):=of_decide_eq_true cH
    injection aG with aG
    have aL:eH=p:=by omega
    have bH:log.any (i0 p)=true:=any_eq_true.mpr ⟨_,mem_of_getElem? fS,decide_eq_true aL⟩
    rw[bH]at q
    exact q
   ·refine⟨_,rfl,rfl,?_⟩
    rw[ja]
    refine decide_eq_false fun z=>cH (decide_eq_true (by rw[z]))
 ·rintro σ av ⟨o,rfl,rfl,aR⟩
  rw[←eX.1,take_length]at aR
  rw[aR]at q
  exact q
theorem zy:dP ["_law_pages","_law_desk","_law_log","_law_puts","_law_k","_law_line","_law_page"] Ar (cR C2):=d2
theorem Up {cs ds:List Int}{op:Int→Bool}{log:List bD}{i:Nat}{ln:bD}(h:log[i]?=some ln):log.drop i=ln::log.drop (i+1):=by
 obtain⟨aP,e⟩:=List.getElem?_eq_some_iff.mp h
 rw[List.drop_eq_getElem_cons aP,e]
theorem Uj {HA:Addr}{Sj:FuncData}(F:bU K "_law_needed" "_law_needed" C2 f fd) (B:ff mg) (ada:bp P w K mg base bW 1 HA Sj As KX) (acQ:Binds K Sj As []) (acz:keepIn K (.ref HA)=true) (acs:mg "_law_put_again"=some (.ref HA)) :
  bp P w K mg base bW 2 f fd Ar J8:=by
 refine F.ok zy (fun vs H Q E h=>?_) (fun cz A outer s H vs Q E aE h=>?_)
 ·obtain⟨ce,ak,lo,pu,cs,ds,xs,log,kvs,op,rfl,_⟩:=h
  rfl
 obtain⟨ce,ak,lo,pu,cs,ds,xs,log,kvs,op,rfl,ai,hd,lD,aC,eX,bM,nc,aF,nT,q⟩:=h
 have bq:=ht aE
 have g4:=eX.1
 refine⟨_,(bg (hM PassesOwn.never rfl (pF rfl B.i2 (au (es gU rfl B.len PySem.boot_len (au (ah 2) aN)) aN)) (fQ (i:=4) zy.a3 rfl (Or.inl rfl)) (bg (cJ (i:=5) zy.a3 rfl (Or.inl rfl) (bK fa (ah 2) (ah 4) (fun _ _=>rfl))) (bl (c_ (cX el (bK cC (ah 5) aZ (fun _ _=>rfl)) bJ (cP _)) (bg (c_ (uw (DQ bq (bK cC (ah 5) aZ (fun _ _=>rfl)) (ah 3))) (bl (dH (ah 4))) dZ) (bg (cJ (i:=6) zy.a3 rfl (Or.inl rfl) (bK cC (ah 5) aZ (fun _ _=>rfl))) (bl (c_ (oA (pO (jZ (dE ada (cj aE) rfl acs acz acQ .nil cU (au (rZ r2 (ah 2) (qO (c0 gI (ah 4) aZ)) ue) (au (ah 6) aN))))) (cX kD (bK fa (ah 0) (ah 6) (fun _ _=>rfl)) (bK fa (ah 1) (ah 6) (fun _ _=>rfl)) (cP _))) (bl (dH (ah 4))) dZ)))) dZ)))) (bl (dH (es gU rfl B.len PySem.boot_len (au (ah 2) aN))))),?_⟩
 refine⟨_,rfl,lo,xs,rfl,.inl (aM.of aC),_,rfl,by omega,by omega,rY (fun i σ av=>∃hW e7 e3:Option V,σ=[some (.ref ce),some (.ref ak),some (.ref lo),some (.ref pu),hW,e7,e3]∧bx H av∧ez cs ds op log=i+ez cs ds op (log.drop i))
  ⟨none,none,none,rfl,bx.refl _,by rw[drop_zero,zero_add]⟩ ?_ ?_⟩
 ·rintro i σ av aP ⟨hW,e7,e3,rfl,s2,aR⟩
  have e0:(0:Int)+(i:Int)=((i:Nat):Int):=by omega
  rw[e0]
  have iQ:i<xs.length:=by omega
  obtain⟨ln,fS,gX⟩:=eX.get (getElem?_eq_getElem iQ)
  have jj:=gX.mono s2.fy
  have i3:=Up (cs:=cs) (ds:=ds) (op:=op) fS
  rw[i3]at aR
  refine⟨_,rfl,_,rfl,lo,_,_,_,rfl,rfl,aM.of (s2 _ _ aC),e4 (getElem?_eq_getElem iQ),?_⟩
  generalize xs[i]=v at jj ⊢
  cases ln with
  | fin d =>
   obtain⟨c,rfl,aX⟩:=jj
   refine⟨_,rfl,c,_,_,_,rfl,rfl,aO.of aX,rfl,rfl,_,rfl,bC uB ?_⟩
   refine⟨_,_,_,rfl,s2,?_⟩
   rw[aR]
   show i+(ez cs ds op (log.drop (i+1))+1)=_
   omega
  | put d p o n =>
   obtain⟨c,rfl,aX⟩:=jj
   have aaE:p<ds.length:=bM _ (mem_of_getElem? fS)
   refine⟨_,rfl,c,_,_,_,rfl,rfl,aO.of aX,rfl,rfl,_,rfl,en rfl ?_⟩
   refine⟨_,rfl,c,_,_,_,rfl,rfl,aO.of aX,rfl,_,rfl,pu,_,rfl,fl.k (k:=Sum.inl d) (s2 _ _ aF),_,rfl,?_⟩
   rw[nT d]
   have j5:¬(op d=true∨((log.drop (i+1)).any (i0 p)=false∧cs[p]?≠ds[p]?))→ez cs ds op log=(i+1)+ez cs ds op (log.drop (i+1)):=fun z=>by
    rw[aR]
    show i+(if _ then _ else _)=_
    rw[if_neg z]
    omega
   have stop:(op d=true∨((log.drop (i+1)).any (i0 p)=false∧cs[p]?≠ds[p]?))→ez cs ds op log=i:=fun z=>by
    rw[aR]
    show i+(if _ then _ else _)=_
    rw[if_pos z]
    rfl
   refine gn (fun cH=>?_) (fun cH=>?_)
   ·have aW:=q av s2
    rw[stop (.inl cH)]at aW
    exact⟨_,rfl,aW⟩
   refine⟨_,rfl,c,_,_,_,rfl,rfl,aO.of aX,rfl,?_⟩
   refine⟨_,rfl,_,rfl,_,_,rfl,rfl,_,rfl,lo,_,rfl,aM.of (s2 _ _ aC),fun u oQ=>?_⟩
   have aG:((i:Nat):Int)+1=((i+1:Nat):Int):=by omega
   rw[aG,uq]at *
   have s3:=bV oQ (.lst (xs.drop (i+1)))
   have iF:(upd av u (.lst (xs.drop (i+1)))) u=some (.lst (xs.drop (i+1))):=aV
   generalize upd av u (.lst (xs.drop (i+1)))=aS at s3 iF ⊢
   have eZ:=s2.trans s3
   obtain⟨du,a1,eY⟩:=ll (ns:=cs) (k:=((p:Nat):Int)) (by omega) (by omega)
   obtain⟨dK,a2,gh⟩:=ll (ns:=ds) (k:=((p:Nat):Int)) (by omega) (by omega)
   rw[Int.toNat_natCast]at a1 a2
   refine⟨_,rfl,u,_,log.drop (i+1),p,rfl,iF,(eX.mono fun a x h=>h.mono eZ.fy).drop _,_,rfl,?_⟩
   cases Nt:(log.drop (i+1)).any (i0 p) with
   | true =>
    refine dQ (dQ ?_)
    exact⟨_,_,_,rfl,eZ,j5 fun z=>z.elim (fun y=>cH y) fun y=>by rw[Nt]at y;cases y.1⟩
   | false =>
    refine eB ?_
    refine⟨_,rfl,_,rfl,ce,_,_,_,rfl,rfl,aM.of (eZ _ _ ai),eY,_,rfl,_,rfl,ak,_,_,_,rfl,rfl,aM.of (eZ _ _ hd),gh,rfl,_,rfl,?_⟩
    by_cases e:du=dK
    ·rw[e]
     have d8:decide (V.int dK=V.int dK)=true:=decide_eq_true rfl
     rw[d8]
     refine dQ ?_
     exact⟨_,_,_,rfl,eZ,j5 fun z=>z.elim (fun y=>cH y) fun y=>y.2 (by rw[a1,a2,e])⟩
    ·have d8:decide (V.int du=V.int dK)=false:=decide_eq_false fun y=>e (by injection y)
     rw[d8]
     refine eB ?_
     have aW:=q aS eZ
     rw[stop (.inr ⟨Nt,by rw[a1,a2];exact fun y=>e (Option.some.inj y)⟩)]at aW
     exact⟨_,rfl,aW⟩
 ·rintro σ av ⟨hW,e7,e3,rfl,s2,aR⟩
  have aL:(xs.length:Int).toNat=log.length:=by omega
  rw[aL,drop_length]at aR
  have aW:=q av s2
  rw[aR]at aW
  refine⟨_,rfl,lo,xs,rfl,.inl (aM.of (s2 _ _ aC)),?_⟩
  rw[←g4]
  exact aW
theorem UU:dP nQ nQ (cR C1):=d2
theorem MF:¬(V.str "cut"=V.str "line"):=by decide +kernel
theorem Mg:¬(V.str "page"=V.str "line"):=by decide +kernel
theorem XQ:¬(V.str "page"=V.str "cut"):=by decide +kernel
theorem Ui (F:bU K "_law_stroke_in" "_law_stroke_in" C1 f fd) (B:ff mg):bp P w K mg base bW 1 f fd nQ vY:=by
 refine F.ok UU (fun vs H Q E h=>?_) (fun cz A outer s H vs Q E aE h=>?_)
 ·obtain⟨h,ce,ak,lo,pu,st,pl,x,v,s,rfl,_⟩:=h
  rfl
 obtain⟨h,ce,ak,lo,pu,st,pl,x,v,dj,rfl,b5,bX,bM,⟨du,dK,yk⟩,q⟩:=h
 have bq:=ht aE
 refine⟨_,(bg (dD (ia plainAttrs_list PySem.F.slot_list_append PySem.F.type_list_append h_ (e1 bq (ah 0) bJ (fun _ _=>rfl)) (au (ah 1) aN))) (bl (c_ (cX el (bK cC (ah 1) aZ (fun _ _=>rfl)) bJ (cP _)) (bl (mO bq (ah 0) bJ (c0 DR (e1 bq (ah 0) bJ (fun _ _=>rfl)) (fx (au (bK cC (ah 1) aZ (fun _ _=>rfl)) aN))) rfl)) (bl (c_ (cX el (bK cC (ah 1) aZ (fun _ _=>rfl)) bJ (cP _)) (bl (mO bq (ah 0) bJ (rZ r2 (e1 bq (ah 0) bJ (fun _ _=>rfl)) (qO (bK cC (ah 1) aZ (fun _ _=>rfl))) ue) rfl)) (bl (r9 (bK cC (ah 1) aZ (fun _ _=>rfl)) (sa (e1 bq (ah 0) bJ (fun _ _=>rfl)) (bK cC (ah 1) aZ (fun _ _=>rfl)) set_list)))))))),?_⟩
 obtain⟨zs,aA,rs⟩:=b5.dg
 have kW:=rs.length
 rw[length_map]at kW
 refine⟨_,rfl,h,_,rfl,b5.Kp,.inl ⟨rfl,_,aM.of aA⟩,_,rfl,st,zs,v,rfl,rfl,aA,jB (by omega),?_⟩
 have bA:=b5.MP aA rs bX
 have kt:d1 H (upd H st (.lst (zs++[v]))):=rX aA
 have uU:=Rep.keep kt _ _ (a4.f3 dj) bX
 have b7:hh (own h ce ak pu st pl) H (upd H st (.lst (zs++[v]))):=kB (br.ms ..)
 generalize upd H st (.lst (zs++[v]))=av at bA uU b7 ⊢
 cases dj with
 | line ln =>
  obtain⟨c,c3,di,rfl,ai,bE,b4⟩:=gj uU
  cases bE.str_inv
  refine⟨_,rfl,c,_,_,_,rfl,rfl,aO.of ai,rfl,rfl,_,rfl,en rfl ?_⟩
  obtain⟨xs,da,qk⟩:=bA.aC
  have jv:xs.length=x.log.length:=qk.1.symm
  refine⟨_,rfl,h,_,rfl,bA.w3,_,rfl,c,_,_,_,rfl,rfl,aO.of ai,rfl,c8,fun gM aj=>?_⟩
  have s3:=bV aj (.lst [di])
  have bH:(upd av gM (.lst [di])) gM=some (.lst [di]):=aV
  generalize upd av gM (.lst [di])=aS at s3 bH ⊢
  have cn:=bA.same s3
  refine⟨lo,gM,_,_,rfl,rfl,s3 _ _ da,bH,le_of_lt (jB (by rw[length_singleton];omega)),fun gC az=>?_⟩
  have s4:=bV az (.lst (xs++[di]))
  have bS:(upd aS gC (.lst (xs++[di]))) gC=some (.lst (xs++[di])):=aV
  have dI:=cn.there az
  generalize upd aS gC (.lst (xs++[di]))=cB at s4 bS ⊢
  have dX:=cn.same s4
  have ho:=s3.trans s4
  have HT:hu cB (x.log++[ln]) (xs++[di]):=fc.snoc (qk.mono fun a y q=>q.mono ho.fy) ((kF.Eb b4).mono ho.fy)
  refine⟨_,rfl,h,_,rfl,dX.M4 _,?_⟩
  exact q gC _ (dX.Ep bS HT dI) (.fresh (b7.trans (bx.et s3)) az (b7.trans ((bx.et ho).trans (kB (br.o7 ..)))))
 | cut k =>
  obtain⟨c,c3,di,rfl,ai,bE,b4⟩:=gj uU
  cases bE.str_inv
  cases b4.int_inv
  refine⟨_,rfl,c,_,_,_,rfl,rfl,aO.of ai,rfl,rfl,_,rfl,bC MF ?_⟩
  refine⟨_,rfl,c,_,_,_,rfl,rfl,aO.of ai,rfl,rfl,_,rfl,en rfl ?_⟩
  obtain⟨xs,da,qk⟩:=bA.aC
  refine⟨_,rfl,h,_,rfl,bA.w3,_,rfl,c,_,_,_,rfl,rfl,aO.of ai,rfl,_,rfl,lo,xs,rfl,aM.of da,fun gC az=>?_⟩
  rw[uq]at *
  have s4:=bV az (.lst (xs.drop k))
  have bS:(upd av gC (.lst (xs.drop k))) gC=some (.lst (xs.drop k)):=aV
  have dI:=bA.there az
  generalize upd av gC (.lst (xs.drop k))=cB at s4 bS ⊢
  have dX:=bA.same s4
  have HT:hu cB (x.log.drop k) (xs.drop k):=(qk.mono fun a y q=>q.mono s4.fy).drop k
  refine⟨_,rfl,h,_,rfl,dX.M4 _,?_⟩
  exact q gC _ (dX.Ep bS HT dI) (.fresh b7 az (b7.trans ((bx.et s4).trans (kB (br.o7 ..)))))
 | dm p n =>
  obtain⟨c,c3,di,n7,rfl,ai,bE,b4,gZ⟩:=zA uU
  cases bE.str_inv
  cases b4.int_inv
  cases gZ.int_inv
  refine⟨_,rfl,c,_,_,_,rfl,rfl,aO.of ai,rfl,rfl,_,rfl,bC Mg ?_⟩
  refine⟨_,rfl,c,_,_,_,rfl,rfl,aO.of ai,rfl,rfl,_,rfl,bC XQ ?_⟩
  have aF:p<x.ay.length:=bM
  refine⟨_,rfl,c,_,_,_,rfl,rfl,aO.of ai,rfl,_,rfl,h,_,rfl,bA.Dg,_,rfl,c,_,_,_,rfl,rfl,aO.of ai,rfl,ce,_,_,p,rfl,rfl,bA.ai,r4 (by rw[length_map];exact b5.cd ▸ aF),?_⟩
  rw[pC]
  exact q lo _ (bA.setC (by rw[length_set];exact b5.cd)) (b7.trans (kB (br.tw ..))).l
def CS:dn:=fun vs H Q _=>∃(h ce ak lo pu st:Addr) (pl:List (Int × Addr)) (x:aq) (d:Int) (p:Nat) (n:Int),vs=[.ref h,.int d,.int (p:Nat),.int n]∧br H h ce ak lo pu st pl x∧p<x.ay.length∧x.fits 1 ∧
 ∀lo' af,br af h ce ak lo' pu st pl (x.putIn d p n)→jk (own h ce ak pu st pl) lo lo' H af→Q .cS af
def KV:dn:=fun vs H Q _=>∃(h ce ak lo pu st:Addr) (pl:List (Int × Addr)) (x:aq),vs=[.ref pu]∧br H h ce ak lo pu st pl x∧x.aK.length≤200∧∀af,bx H af→Q (.int x.bound) af
def KO:dn:=fun vs H Q _=>∃(h ce ak lo pu st:Addr) (pl:List (Int × Addr)) (x:aq) (p:Nat),vs=[.ref pu,.int (p:Nat)]∧br H h ce ak lo pu st pl x∧∀af,bx H af→Q (.int ((x.dT p).getD (-1))) af
def LI:dn:=fun vs H Q _=>∃(h ce ak lo pu st:Addr) (pl:List (Int × Addr)) (x:aq) (m:Int),vs=[.ref h,.int m]∧br H h ce ak lo pu st pl x∧x.aK.length≤200∧x.ay.length≤1000∧x.fits (x.ay.length+1) ∧
 ∀lo' af,br af h ce ak lo' pu st pl (x.full m).1→jk (own h ce ak pu st pl) lo lo' H af→Q (.b0 (x.full m).2) af
theorem K3:dP ["_law_house","_law_many"] uO (cR DC):=d2
theorem Vn {jR:Addr}{lT:FuncData}{g6:Addr}{h3:FuncData}(F:bU K "_law_cut_in" "_law_cut_in" DC f fd) (B:ff mg) (qB:bp P w K mg base bW 2 jR lT Ar J8) (qw:Binds K lT Ar []) (yD:keepIn K (.ref jR)=true) (mN:mg "_law_needed"=some (.ref jR)) (k9:bp P w K mg base bW 1 g6 h3 nQ vY) (k4:Binds K h3 nQ []) (tA:keepIn K (.ref g6)=true) (kV:mg "_law_stroke_in"=some (.ref g6)):bp P w K mg base bW 3 f fd uO CV:=by
 refine F.ok K3 (fun vs H Q E h=>?_) (fun cz A outer s H vs Q E aE h=>?_)
 ·obtain⟨h,ce,ak,lo,pu,st,pl,x,rfl,_⟩:=h
  rfl
 obtain⟨h,ce,ak,lo,pu,st,pl,x,rfl,b5,z,q⟩:=h
 have bq:=ht aE
 refine⟨_,(bg (cJ (i:=1) K3.a3 rfl (Or.inl rfl) (dE qB (cj aE) rfl mN yD qw .nil cU (au (e1 bq (ah 0) bJ (fun _ _=>rfl)) (au (e1 bq (ah 0) bJ (fun _ _=>rfl)) (au (e1 bq (ah 0) bJ (fun _ _=>rfl)) (au (e1 bq (ah 0) bJ (fun _ _=>rfl)) aN)))))) (bl (c_ (cX uC (ah 1) aZ (cP _)) (bl (dD (dE k9 (cj aE) rfl kV tA k4 .nil cU (au (ah 0) (au (gH (au bJ (au (ah 1) aN))) aN))))) dZ))),?_⟩
 obtain⟨xs,da,qk⟩:=b5.aC
 refine⟨_,rfl,h,_,rfl,b5.Dg,_,rfl,h,_,rfl,b5.l0,_,rfl,h,_,rfl,b5.w3,_,rfl,h,_,rfl,b5.lq,?_⟩
 refine⟨ce,ak,lo,pu,_,_,xs,x.log,_,x.isOpen,rfl,b5.ai,b5.hd,b5.cd,da,qk,z.2.2,by have:=z.2.1;omega,b5.aF,b5.isOpen,fun av s2=>?_⟩
 have bA:=b5.same s2
 have hA:x.dW=if 0<ez x.cg x.ay x.isOpen x.log then x.dc (.cut (ez x.cg x.ay x.isOpen x.log)) else x:=rfl
 generalize ez x.cg x.ay x.isOpen x.log=n at hA ⊢
 refine⟨_,rfl,_,_,rfl,rfl,_,rfl,gn (fun cH=>?_) (fun cH=>?_)⟩
 ·have dh:0<n:=by have e_:(0:Int)<(n:Nat):=of_decide_eq_true cH;omega
  rw[if_pos dh]at hA
  refine⟨_,rfl,_,rfl,c8,fun t bF=>?_⟩
  have s3:=bV bF (.tup [.str "cut",.int (n:Nat)])
  refine⟨h,ce,ak,lo,pu,st,pl,x,.ref t,.cut n,rfl,bA.same s3,.hs aV (.cons .ofStr (.cons .ofInt .nil)),True.intro,z,fun lo' af cn dC=>?_⟩
  rw[←hA]at cn
  exact q lo' af cn ((bx.et (s2.trans s3)).l.trans dC)
 ·have dh:¬0<n:=fun y=>cH (decide_eq_true (by omega))
  rw[if_neg dh]at hA
  rw[←hA]at bA
  exact q lo av bA ((bx.et s2).l)
theorem Jp:dP ["_law_house","_law_page","_law_number"] uN (cR CF):=d2
theorem TG {g6:Addr}{h3:FuncData}(F:bU K "_law_carry_in" "_law_carry_in" CF f fd) (B:ff mg) (k9:bp P w K mg base bW 1 g6 h3 nQ vY) (k4:Binds K h3 nQ []) (tA:keepIn K (.ref g6)=true) (kV:mg "_law_stroke_in"=some (.ref g6)):bp P w K mg base bW 2 f fd uN Cn:=by
 refine F.ok Jp (fun vs H Q E h=>?_) (fun cz A outer s H vs Q E aE h=>?_)
 ·obtain⟨h,ce,ak,lo,pu,st,pl,x,p,rfl,_⟩:=h
  rfl
 obtain⟨h,ce,ak,lo,pu,st,pl,x,p,rfl,b5,aF,z,q⟩:=h
 have bq:=ht aE
 refine⟨_,(bg (cJ (i:=2) Jp.a3 rfl (Or.inl rfl) (bK fa (e1 bq (ah 0) bJ (fun _ _=>rfl)) (ah 1) (fun _ _=>rfl))) (bl (c_ (cX kD (bK fa (e1 bq (ah 0) bJ (fun _ _=>rfl)) (ah 1) (fun _ _=>rfl)) (ah 2) (cP _)) (bl (dD (dE k9 (cj aE) rfl kV tA k4 .nil cU (au (ah 0) (au (gH (au bJ (au (ah 1) (au (ah 2) aN)))) aN))))) dZ))),?_⟩
 obtain⟨c,cH,dh⟩:=b5.atC aF
 obtain⟨d,gg,e9⟩:=b5.rr aF
 have hA:x.d0 p=if x.cg[p]?=x.ay[p]? then x else x.dc (.dm p (x.ay.getD p 0)):=rfl
 rw[getD_eq_getElem?_getD,cH,gg,Option.getD_some]at hA
 refine⟨_,rfl,h,_,rfl,b5.l0,_,rfl,ak,_,_,_,rfl,rfl,aM.of b5.hd,e9,?_⟩
 refine⟨_,rfl,h,_,rfl,b5.Dg,_,rfl,ce,_,_,_,rfl,rfl,aM.of b5.ai,dh,_,rfl,rfl,_,rfl,?_⟩
 by_cases e:c=d
 ·have d8:decide (V.int c=V.int d)=true:=decide_eq_true (by rw[e])
  rw[d8]
  rw[if_pos (by rw[e])]at hA
  refine dQ ?_
  rw[←hA]at b5
  exact q lo H b5 (hh.refl _ _).l
 ·have d8:decide (V.int c=V.int d)=false:=decide_eq_false fun y=>e (by injection y)
  rw[d8]
  rw[if_neg (fun y=>e (Option.some.inj y))]at hA
  refine eB ?_
  refine⟨_,rfl,_,rfl,_,rfl,c8,fun t bF=>?_⟩
  have s3:=bV bF (.tup [.str "page",.int (p:Nat),.int d])
  refine⟨h,ce,ak,lo,pu,st,pl,x,.ref t,.dm p d,rfl,b5.same s3,.hs aV (.cons .ofStr (.cons .ofInt (.cons .ofInt .nil))),aF,z,fun lo' af cn dC=>?_⟩
  rw[←hA]at cn
  exact q lo' af cn ((bx.et s3).l.trans dC)
theorem K1:dP ["_law_house","_law_dealing","_law_page","_law_number","_law_old"] uM (cR Ds):=d2
theorem Vh {g6:Addr}{h3:FuncData}(F:bU K "_law_put_in" "_law_put_in" Ds f fd) (B:ff mg) (k9:bp P w K mg base bW 1 g6 h3 nQ vY) (k4:Binds K h3 nQ []) (tA:keepIn K (.ref g6)=true) (kV:mg "_law_stroke_in"=some (.ref g6)):bp P w K mg base bW 2 f fd uM CS:=by
 refine F.ok K1 (fun vs H Q E h=>?_) (fun cz A outer s H vs Q E aE h=>?_)
 ·obtain⟨h,ce,ak,lo,pu,st,pl,x,d,p,n,rfl,_⟩:=h
  rfl
 obtain⟨h,ce,ak,lo,pu,st,pl,x,d,p,n,rfl,b5,aF,z,q⟩:=h
 have bq:=ht aE
 refine⟨_,(bg (cJ (i:=4) K1.a3 rfl (Or.inl rfl) (bK fa (e1 bq (ah 0) bJ (fun _ _=>rfl)) (ah 2) (fun _ _=>rfl))) (bg (dD (dE k9 (cj aE) rfl kV tA k4 .nil cU (au (ah 0) (au (gH (au bJ (au (gH (au bJ (au (ah 1) (au (ah 2) (au (ah 4) (au (ah 3) aN)))))) aN))) aN)))) (bl (r9 (ah 3) (sa (e1 bq (ah 0) bJ (fun _ _=>rfl)) (ah 2) set_list))))),?_⟩
 obtain⟨o,gg,e9⟩:=b5.rr aF
 have iS:x.ay.getD p 0=o:=by rw[getD_eq_getElem?_getD,gg];rfl
 have hA:x.putIn d p n={ x.dc (.line (.put d p (x.ay.getD p 0) n)) with ay:=x.ay.set p n }:=rfl
 rw[iS]at hA
 refine⟨_,rfl,h,_,rfl,b5.l0,_,rfl,ak,_,_,_,rfl,rfl,aM.of b5.hd,e9,?_⟩
 refine⟨_,rfl,_,rfl,_,rfl,_,rfl,_,rfl,c8,fun t1 sS=>⟨c8,fun d_ p9=>?_⟩⟩
 have s1:=bV sS (.tup [.str "put",.int d,.int (p:Nat),.int o,.int n])
 have aG:(upd H t1 (.tup [.str "put",.int d,.int (p:Nat),.int o,.int n])) t1=some (.tup [.str "put",.int d,.int (p:Nat),.int o,.int n]):=aV
 have wX:(upd H t1 (.tup [.str "put",.int d,.int (p:Nat),.int o,.int n])) d_=none:=p9
 have s2:=bV wX (.tup [.str "line",.ref t1])
 refine⟨h,ce,ak,lo,pu,st,pl,x,.ref d_,.line (.put d p o n),rfl,b5.same (s1.trans s2),.hs aV (.cons .ofStr (.cons (.hs (s2 _ _ aG) (.cons .ofStr (.cons .ofInt (.cons .ofInt (.cons .ofInt (.cons .ofInt .nil)))))) .nil)),aF,z,fun lo' af cn dC=>?_⟩
 have ld:(x.dc (.line (.put d p o n))).ay=x.ay:=rfl
 refine⟨_,rfl,_,rfl,h,_,rfl,cn.l0,_,rfl,ak,_,_,p,rfl,rfl,cn.hd,r4 (by rw[length_map];exact aF),?_⟩
 rw[pC]
 have dX:=cn.uJ (c:=x.ay.set p n) (by rw[length_set];rfl)
 exact q lo' _ (by rw[hA];exact dX) ((bx.et (s1.trans s2)).l.trans (dC.trans (kB (br.eW ..)).l))
structure w7 (mg:Str→Option Value):Prop where
 sum:mg "sum"=none
 rev:mg "reversed"=none
theorem Ny:bootBuiltins "sum"=some (.builtin "sum"):=by decide +kernel
theorem VX:dP wV wV (cR DG):=d2
theorem Vr (F:bU K "_law_bound" "_law_bound" DG f fd) (B:ff mg) (lY:w7 mg):bp P w K mg base bW 1 f fd wV KV:=by
 refine F.ok VX (fun vs H Q E h=>?_) (fun cz A outer s H vs Q E aE h=>?_)
 ·obtain⟨h,ce,ak,lo,pu,st,pl,x,rfl,_⟩:=h
  rfl
 obtain⟨h,ce,ak,lo,pu,st,pl,x,rfl,b5,ry,q⟩:=h
 have bq:=ht aE
 refine⟨_,(bl (dH (es (KC aE.hd) rfl lY.sum Ny (au (zM [0] ["_law_dealing","_law_puts"] (ic.one (fv:="_law_puts") (j:=0) rfl (by decide +kernel) (by decide +kernel) rfl (by decide +kernel) rfl rfl (by decide +kernel) rfl rfl rfl) rfl (jf (jd (Cj aE.hd) rfl B.lst ji (au (ah 0) aN))) (fun C s1 H1 bG=>(c0 gI (es (Ih (K:=K) rfl) rfl B.len PySem.boot_len (au (e1 bq (ah 1) (ah 0) (fun _ _=>rfl)) aN)) aZ))) aN)))),?_⟩
 have kX:=b5.mW
 refine⟨_,rfl,pu,_,rfl,b5.aF,fun e8 aj=>⟨e8,rfl,⟨_,aM.of aV⟩,fun acc de=>?_⟩⟩
 rw[C6]at *
 have s1:=bV aj (.lst ((pl.map (·.1)).map V.int))
 have aG:(upd H e8 (.lst ((pl.map (·.1)).map V.int))) e8=some (.lst ((pl.map (·.1)).map V.int)):=aV
 have bA:=b5.same s1
 have Ek:(upd H e8 (.lst ((pl.map (·.1)).map V.int))) acc=none:=de
 generalize upd H e8 (.lst ((pl.map (·.1)).map V.int))=H1 at s1 aG bA Ek ⊢
 refine JQ (K:=K) (zs:=(x.aK.map fun z=>(z.2.length:Int)+1).map V.int) aG Ek (by rw[length_map,length_map];omega) (by rw[length_map,length_map,length_map,length_map];exact kX.symm) (fun i y z aS k b6 hz s3 aQ=>?_) ?_
 ·have aP:i<pl.length:=by
   have:=(List.getElem?_eq_some_iff.mp b6).1
   rw[length_map,length_map]at this
   exact this
  have ig:pl[i]?=some pl[i]:=getElem?_eq_getElem aP
  obtain⟨w,ys,fh,eG,jq,tk,ti⟩:=(bA.same s3).at_ ig
  have fF:y=.int (pl[i]).1:=by
   rw[getElem?_map,getElem?_map,ig]at b6
   exact (Option.some.inj b6).symm
  have gd:z=.int ((w.2.length:Int)+1):=by
   rw[getElem?_map,getElem?_map,fh]at hz
   exact (Option.some.inj hz).symm
  subst fF gd
  have gR:=tk.length
  rw[length_map]at gR
  refine⟨_,rfl,_,rfl,pu,_,rfl,ti,_,ys,rfl,.inl (aM.of jq),_,_,rfl,rfl,?_⟩
  rw[gR]
  exact aQ
 ·exact⟨acc,_,rfl,aM.of aV,q _ (s1.trans (bV Ek _))⟩
theorem CX:dP ["_law_puts","_law_page","_law_dealing","_law_pair"] Aq (cR Dr):=d2
theorem Vg (F:bU K "_law_taker" "_law_taker" Dr f fd) (B:ff mg):bp P w K mg base bW 1 f fd Aq KO:=by
 refine F.ok CX (fun vs H Q E h=>?_) (fun cz A outer s H vs Q E aE h=>?_)
 ·obtain⟨h,ce,ak,lo,pu,st,pl,x,p,rfl,_⟩:=h
  rfl
 obtain⟨h,ce,ak,lo,pu,st,pl,x,p,rfl,b5,q⟩:=h
 have bq:=ht aE
 refine⟨_,(bg (hM PassesOwn.never rfl (jf (jd (Cj aE.hd) rfl B.lst ji (au (ah 0) aN))) (fQ (i:=2) CX.a3 rfl (Or.inl rfl)) (bl (hM PassesOwn.never rfl (jf (e1 bq (ah 0) (ah 2) (fun _ _=>rfl))) (fQ (i:=3) CX.a3 rfl (Or.inl rfl)) (bl (c_ (cX el (bK cC (ah 3) aZ (fun _ _=>rfl)) (ah 1) (cP _)) (bl (dH (ah 2))) dZ))))) (bl (dH (uA ur aZ)))),?_⟩
 have kX:=b5.mW
 refine⟨_,rfl,pu,_,rfl,b5.aF,fun e8 aj=>⟨e8,rfl,⟨_,aM.of aV⟩,?_⟩⟩
 rw[C6]at *
 have s1:=bV aj (.lst ((pl.map (·.1)).map V.int))
 have aG:(upd H e8 (.lst ((pl.map (·.1)).map V.int))) e8=some (.lst ((pl.map (·.1)).map V.int)):=aV
 have bA:=b5.same s1
 generalize upd H e8 (.lst ((pl.map (·.1)).map V.int))=H1 at s1 aG bA ⊢
 have bk:=q H1 s1
 refine mL (K:=K) (a:=e8) (xs:=(pl.map (·.1)).map V.int) (fun i σ av=>∃b7 dC:Option V,σ=[some (.ref pu),some (.int (p:Nat)),b7,dC]∧H1=av∧(x.aK.take i).find? (fun z=>z.2.any fun y=>y.1 == p)=none)
  ⟨none,none,rfl,rfl,rfl⟩ (fun i σ av _ ⟨_,_,_,e,_⟩=>by rw[←e];exact aM.of aG) ?_ ?_
 ·rintro i v σ av aP ⟨b7,dC,rfl,rfl,aR⟩
  have sX:i<pl.length:=by
   have:=(List.getElem?_eq_some_iff.mp aP).1
   rw[length_map,length_map]at this
   exact this
  have ig:pl[i]?=some pl[i]:=getElem?_eq_getElem sX
  obtain⟨w,ys,fh,eG,jq,tk,ti⟩:=bA.at_ ig
  have fF:v=.int w.1:=by
   rw[getElem?_map,getElem?_map,ig]at aP
   rw[eG]
   exact (Option.some.inj aP).symm
  subst fF
  rw[←eG]at ti
  generalize (pl[i]).2=lN at jq ti
  refine⟨_,rfl,_,rfl,pu,_,rfl,ti,lN,rfl,⟨ys,aM.of jq⟩,?_⟩
  refine mL (K:=K) (a:=lN) (xs:=ys) (fun j σ av=>∃dC:Option V,σ=[some (.ref pu),some (.int (p:Nat)),some (.int w.1),dC]∧H1=av∧(w.2.take j).any (fun y=>y.1 == p)=false)
   ⟨_,rfl,rfl,rfl⟩ (fun j σ av _ ⟨_,_,e,_⟩=>by rw[←e];exact aM.of jq) ?_ ?_
  ·rintro j v σ av cD ⟨dC,rfl,rfl,hm⟩
   obtain⟨z,du,dK⟩:=qL tk cD
   obtain⟨c,c3,di,rfl,ai,bE,b4⟩:=gj (a:=.int (z.1:Nat)) (b:=.int z.2) dK
   cases bE.int_inv
   have ja:(w.2.take (j+1)).any (fun y=>y.1 == p)=(z.1 == p):=by
    rw[take_add_one,any_append,hm,du]
    simp
   refine⟨_,rfl,c,_,_,_,rfl,rfl,aO.of ai,rfl,_,rfl,rfl,_,rfl,gn (fun cH=>?_) (fun cH=>?_)⟩
   ·have bH:V.int (z.1:Nat)=V.int (p:Nat):=of_decide_eq_true cH
    injection bH with bH
    have bS:z.1=p:=by omega
    have ek:x.dT p=some w.1:=by
     unfold aq.dT
     rw[I7 fh aR (any_eq_true.mpr ⟨z,mem_of_getElem? du,by rw[bS];exact beq_self_eq_true p⟩)]
     rfl
    rw[ek]at bk
    exact⟨_,rfl,bk⟩
   ·refine⟨_,rfl,rfl,?_⟩
    rw[ja]
    exact beq_eq_false_iff_ne.mpr fun y=>cH (decide_eq_true (by rw[y]))
  ·rintro σ av ⟨dC,rfl,rfl,hm⟩
   have gR:=tk.length
   rw[length_map]at gR
   rw[gR,take_length]at hm
   exact⟨_,_,rfl,rfl,UC fh aR hm⟩
 ·rintro σ av ⟨b7,dC,rfl,rfl,aR⟩
  rw[length_map,length_map,kX,take_length]at aR
  have ek:x.dT p=none:=by
   unfold aq.dT
   rw[aR]
   rfl
  rw[ek]at bk
  exact⟨_,rfl,bk⟩
theorem LM:dP ["_law_house","_law_more","_law_page"] Ao (cR D4):=d2
theorem Wa {lO:Addr}{om:FuncData}{jS:Addr}{lU:FuncData}{jP:Addr}{lR:FuncData}(F:bU K "_law_full" "_law_full" D4 f fd) (B:ff mg) (qD:bp P w K mg base bW 1 lO om wV KV) (qy:Binds K om wV []) (tB:keepIn K (.ref lO)=true) (qm:mg "_law_bound"=some (.ref lO)) (qC:bp P w K mg base bW 2 jS lU uN Cn) (qx:Binds K lU uN []) (yE:keepIn K (.ref jS)=true) (ql:mg "_law_carry_in"=some (.ref jS)) (pv:bp P w K mg base bW 3 jP lR uO CV) (pd:Binds K lR uO []) (vq:keepIn K (.ref jP)=true) (o8:mg "_law_cut_in"=some (.ref jP)):bp P w K mg base bW 4 f fd Ao LI:=by
 refine F.ok LM (fun vs H Q E h=>?_) (fun cz A outer s H vs Q E aE h=>?_)
 ·obtain⟨h,ce,ak,lo,pu,st,pl,x,m,rfl,_⟩:=h
  rfl
 obtain⟨h,ce,ak,lo,pu,st,pl,x,m,rfl,b5,ry,qg,z,q⟩:=h
 have bq:=ht aE
 refine⟨_,(bg (c_ (cX Mi (c0 gI (c0 gI (es gU rfl B.len PySem.boot_len (au (e1 bq (ah 0) bJ (fun _ _=>rfl)) aN)) (dE qD (cj aE) rfl qm tB qy .nil cU (au (e1 bq (ah 0) bJ (fun _ _=>rfl)) aN))) (ah 1)) (e1 bq (ah 0) bJ (fun _ _=>rfl)) (cP _)) (bl (dH lp)) dZ) (bg (hM PassesOwn.never rfl (pF rfl B.i2 (au (es gU rfl B.len PySem.boot_len (au (e1 bq (ah 0) bJ (fun _ _=>rfl)) aN)) aN)) (fQ (i:=2) LM.a3 rfl (Or.inl rfl)) (bl (dD (dE qC (cj aE) rfl ql yE qx .nil cU (au (ah 0) (au (ah 2) aN)))))) (bg (dD (dE pv (cj aE) rfl o8 vq pd .nil cU (au (ah 0) aN))) (bl (dH (uf uC (c0 gI (c0 gI (es gU rfl B.len PySem.boot_len (au (e1 bq (ah 0) bJ (fun _ _=>rfl)) aN)) (dE qD (cj aE) rfl qm tB qy .nil cU (au (e1 bq (ah 0) bJ (fun _ _=>rfl)) aN))) (ah 1)) (e1 bq (ah 0) bJ (fun _ _=>rfl)) (cP _))))))),?_⟩
 obtain⟨xs,da,qk⟩:=b5.aC
 have g4:x.log.length=xs.length:=qk.1
 have lP:x.full m=if x.hN m=true then (x,false) else (x.gk, !x.gk.hN m):=rfl
 refine⟨_,rfl,h,_,rfl,b5.w3,lo,xs,rfl,.inl (aM.of da),_,rfl,h,_,rfl,b5.lq,h,ce,ak,lo,pu,st,pl,x,rfl,b5,ry,fun av s2=>?_⟩
 have bA:=b5.same s2
 refine⟨_,_,rfl,rfl,_,rfl,_,_,rfl,rfl,_,rfl,h,_,rfl,bA.Mm,_,_,rfl,rfl,_,rfl,gn (fun cH=>?_) (fun cH=>?_)⟩
 ·have dh:x.hN m=true:=by unfold aq.hN;rw[g4];exact cH
  rw[if_pos dh]at lP
  rw[lP]at q
  exact q lo av bA ((bx.et s2).l)
 have dh:¬x.hN m=true:=fun y=>cH (by unfold aq.hN at y;rw[g4]at y;exact y)
 rw[if_neg dh]at lP
 rw[lP]at q
 have ld:(x.ay.map V.int).length=x.ay.length:=length_map _
 refine⟨_,rfl,h,_,rfl,bA.l0,ak,_,rfl,.inl (aM.of bA.hd),_,rfl,by omega,by omega,rY (fun i σ aS=>∃(b7:Option V) (lo':Addr),σ=[some (.ref h),some (.int m),b7]∧br aS h ce ak lo' pu st pl (x.e2 i)∧jk (own h ce ak pu st pl) lo lo' H aS)
  ⟨none,lo,rfl,bA,(bx.et s2).l⟩ ?_ ?_⟩
 ·rintro i σ aS aP ⟨b7,lo',rfl,cn,dC⟩
  have e0:(0:Int)+(i:Int)=((i:Nat):Int):=by omega
  rw[e0]
  have iQ:i<x.ay.length:=by omega
  refine⟨_,rfl,_,rfl,h,ce,ak,lo',pu,st,pl,_,i,rfl,cn,by rw[rR];exact iQ,aq.fits.e2 (i:=i) (k:=1) (z.mono (by omega)) (by omega),fun eO cB dX hW=>?_⟩
  rw[←ks]at dX
  exact⟨_,eO,rfl,dX,dC.trans hW⟩
 ·rintro σ aS ⟨b7,lo',rfl,cn,dC⟩
  have vz:((x.ay.map V.int).length:Int).toNat=x.ay.length:=by omega
  rw[vz]at cn
  refine⟨_,rfl,h,ce,ak,lo',pu,st,pl,_,rfl,cn,aq.fits.e2 (i:=x.ay.length) (k:=1) z (le_refl _),fun eO cB dX hW=>?_⟩
  rw[←ku]at dX
  obtain⟨ys,abm,ZM⟩:=dX.aC
  have gR:x.gk.log.length=ys.length:=ZM.1
  refine⟨_,rfl,h,_,rfl,dX.w3,eO,ys,rfl,.inl (aM.of abm),_,rfl,h,_,rfl,dX.lq,h,ce,ak,eO,pu,st,pl,x.gk,rfl,dX,by rw[Ic];exact ry,fun dr s5=>?_⟩
  have gi:=dX.same s5
  refine⟨_,_,rfl,rfl,_,rfl,_,_,rfl,rfl,_,rfl,h,_,rfl,gi.Mm,_,_,rfl,rfl,?_⟩
  have ml:=q eO dr gi (dC.trans (hW.trans (bx.et s5).l))
  have hl:(!x.gk.hN m)=decide (x.gk.room<(ys.length:Int)+x.gk.bound+m):=by
   unfold aq.hN
   rw[gR]
   by_cases y:(ys.length:Int)+x.gk.bound+m≤x.gk.room
   ·rw[decide_eq_true y,decide_eq_false (by omega)];rfl
   ·rw[decide_eq_false y,decide_eq_true (by omega)];rfl
  rw[hl]at ml
  exact ml
def Jl:dn:=fun vs H Q _=>∃(h ce ak lo pu st:Addr) (pl:List (Int × Addr)) (x:aq) (v:V) (e:bZ),vs=[.ref pu,.ref ak,v]∧br H h ce ak lo pu st pl x∧Rep H e.D v∧1≤x.ay.length∧(∀z∈x.aK,0≤z.1)∧∀af,bx H af→Q (.str ((x.refusal e).getD "done")) af
def Xo (o_:Bool) (d:Int):bZ:=if o_ then .drop d else .fin d
def KR:dn:=fun vs H Q _=>∃(h ce ak lo pu st:Addr) (pl:List (Int × Addr)) (x:aq) (v:V) (o_:Bool) (d:Int),vs=[.ref h,v]∧br H h ce ak lo pu st pl x∧Rep H (Xo o_ d).D v∧x.isOpen d=true∧(∀z∈x.c7 d,z.1<x.ay.length)∧x.fits ((x.c7 d).length+1) ∧
 ∀lo' af,br af h ce ak lo' pu st (pl.filter fun z=>z.1 != d) ((if o_ then x.dU d else x).fK d)→jk (own h ce ak pu st pl) lo lo' H af→Q .cS af
theorem zq:dP ["_law_puts","_law_desk","_law_deed","_law_page"] An (cR CD):=d2
theorem Wl (t d:Int):(if true=true then !iO (.int t) [.int (-1),.int d] else iO (.int t) [.int (-1),.int d]) = !decide (t = -1∨t=d):=by
 rw[if_pos rfl]
 have e:=VC t [-1,d]
 have aL:([-1,d]:List Int).map V.int=[.int (-1),.int d]:=rfl
 rw[aL]at e
 rw[e]
 congr 1
 exact decide_eq_decide.mpr (by simp)
theorem pX {c A B:Prop} [Decidable c] (ai:c) (h:B):if (!decide c)=true then A else B:=by
 rw[decide_eq_true ai]
 exact dQ h
theorem TF {oe:Addr}{gS:FuncData}(F:bU K "_law_refusal" "_law_refusal" CD f fd) (B:ff mg) (GT:bp P w K mg base bW 1 oe gS Aq KO) (yS:Binds K gS Aq []) (yz:keepIn K (.ref oe)=true) (rE:mg "_law_taker"=some (.ref oe)):bp P w K mg base bW 2 f fd An Jl:=by
 refine F.ok zq (fun vs H Q E h=>?_) (fun cz A outer s H vs Q E aE h=>?_)
 ·obtain⟨h,ce,ak,lo,pu,st,pl,x,v,e,rfl,_⟩:=h
  rfl
 obtain⟨h,ce,ak,lo,pu,st,pl,x,v,e,rfl,b5,bX,ad8,aR,q⟩:=h
 have bq:=ht aE
 refine⟨_,(bg (c_ (oA (cX JB (bK cC (ah 2) aZ (fun _ _=>rfl)) (fx (au bJ (au bJ (au bJ aN)))) (by with_unfolding_all rfl)) (uw (Cs bq (bK cC (ah 2) aZ (fun _ _=>rfl)) (ah 0)))) (bl (dH bJ)) dZ) (bg (cJ (i:=3) zq.a3 rfl (Or.inl rfl) aZ) (bg (c_ (cX el (bK cC (ah 2) aZ (fun _ _=>rfl)) bJ (cP _)) (bl (cJ (i:=3) zq.a3 rfl (Or.inl rfl) (bK cC (ah 2) aZ (fun _ _=>rfl)))) dZ) (bg (c_ (mS (cX el (bK cC (ah 2) aZ (fun _ _=>rfl)) bJ (cP _)) (cX el (bK cC (ah 2) aZ (fun _ _=>rfl)) bJ (cP _))) (bl (cJ (i:=3) zq.a3 rfl (Or.inl rfl) (bK cC (ah 2) aZ (fun _ _=>rfl)))) dZ) (bg (c_ (mS (cX z5 (ah 3) aZ (cP _)) (cX Mj (ah 3) (es gU rfl B.len PySem.boot_len (au (ah 1) aN)) (cP _))) (bl (dH bJ)) dZ) (bg (c_ (oA (cX el (bK cC (ah 2) aZ (fun _ _=>rfl)) bJ (cP _)) (cX S4 (dE GT (cj aE) rfl rE yz yS .nil cU (au (ah 0) (au (ah 3) aN))) (fx (au (uA ur aZ) (au (bK cC (ah 2) aZ (fun _ _=>rfl)) aN))) (by with_unfolding_all rfl))) (bl (dH bJ)) dZ) (bl (dH bJ)))))))),?_⟩
 cases e with
 | begin =>
  obtain⟨c,c3,rfl,ai,bE⟩:=qM bX
  cases bE.str_inv
  refine⟨_,rfl,c,_,_,_,rfl,rfl,aO.of ai,rfl,c8,fun l aC=>⟨l,_,rfl,.inl (aM.of aV),rfl,rfl,_,rfl,?_⟩⟩
  have s1:=bV aC (.lst [.str "put",.str "end",.str "drop"])
  have bA:=b5.same s1
  have cI:=s1 _ _ ai
  have aW:=q _ s1
  generalize upd H l (.lst [.str "put",.str "end",.str "drop"])=H1 at s1 bA cI aW ⊢
  have l9:(if false=true then !iO (V.str "begin") [V.str "put",V.str "end",V.str "drop"] else iO (V.str "begin") [V.str "put",V.str "end",V.str "drop"])=false:=by decide +kernel
  rw[l9]
  have aW:Q (.str ((none:Option Str).getD "done")) H1:=aW
  refine dQ (dQ ?_)
  refine⟨_,rfl,c,_,_,_,rfl,rfl,aO.of cI,rfl,rfl,_,rfl,bC (by decide +kernel) ?_⟩
  refine⟨_,rfl,c,_,_,_,rfl,rfl,aO.of cI,rfl,rfl,_,rfl,bC (by decide +kernel) ?_⟩
  refine⟨_,rfl,c,_,_,_,rfl,rfl,aO.of cI,rfl,rfl,_,rfl,bC (by decide +kernel) ?_⟩
  refine⟨_,rfl,_,_,rfl,rfl,_,rfl,bC (by decide) ?_⟩
  refine⟨_,rfl,_,rfl,ak,_,rfl,.inl (aM.of bA.hd),_,_,rfl,rfl,_,rfl,bC (by rw[length_map];omega) ?_⟩
  refine⟨_,rfl,c,_,_,_,rfl,rfl,aO.of cI,rfl,rfl,_,rfl,bC (by decide +kernel) (dQ ?_)⟩
  exact aW
 | put d p n =>
  obtain⟨c,c3,di,n7,yl,rfl,ai,bE,b4,gZ,mj⟩:=zz bX
  cases bE.str_inv
  cases b4.int_inv
  cases gZ.int_inv
  cases mj.int_inv
  refine⟨_,rfl,c,_,_,_,rfl,rfl,aO.of ai,rfl,c8,fun l aC=>⟨l,_,rfl,.inl (aM.of aV),rfl,rfl,_,rfl,?_⟩⟩
  have s1:=bV aC (.lst [.str "put",.str "end",.str "drop"])
  have bA:=b5.same s1
  have cI:=s1 _ _ ai
  have aW:=q _ s1
  generalize upd H l (.lst [.str "put",.str "end",.str "drop"])=H1 at s1 bA cI aW ⊢
  have l9:(if false=true then !iO (V.str "put") [V.str "put",V.str "end",V.str "drop"] else iO (V.str "put") [V.str "put",V.str "end",V.str "drop"])=true:=by decide +kernel
  rw[l9]
  have aW:Q (.str (((if x.isOpen d=false then some "no dealing" else if p<0∨(x.ay.length:Int)≤p then some "no page" else if x.dT p.toNat=none∨x.dT p.toNat=some d then none else some "taken"):Option Str).getD "done")) H1:=aW
  refine eB ?_
  refine⟨_,rfl,c,_,_,_,rfl,rfl,aO.of cI,rfl,_,rfl,pu,_,rfl,bA.uE d,_,rfl,?_⟩
  rw[bA.isOpen d]
  cases aD:x.isOpen d with
  | false =>
   rw[aD,if_pos rfl]at aW
   exact eB aW
  | true =>
  rw[aD,if_neg (fun z=>nomatch z)]at aW
  refine dQ ?_
  refine⟨_,rfl,c,_,_,_,rfl,rfl,aO.of cI,rfl,rfl,_,rfl,en rfl ?_⟩
  refine⟨_,rfl,c,_,_,_,rfl,rfl,aO.of cI,rfl,?_⟩
  refine⟨_,rfl,c,_,_,_,rfl,rfl,aO.of cI,rfl,rfl,_,rfl,bC (by decide +kernel) ?_⟩
  refine⟨_,rfl,c,_,_,_,rfl,rfl,aO.of cI,rfl,rfl,_,rfl,bC (by decide +kernel) ?_⟩
  refine⟨_,rfl,_,_,rfl,rfl,_,rfl,gn (fun cH=>?_) (fun cH=>?_)⟩
  ·have dh:p<0:=of_decide_eq_true cH
   refine eB ?_
   rw[if_pos (Or.inl dh)]at aW
   exact aW
  refine⟨_,rfl,_,rfl,ak,_,rfl,.inl (aM.of bA.hd),_,_,rfl,rfl,_,rfl,gn (fun e_=>?_) (fun e_=>?_)⟩
  ·have hn:((x.ay.map V.int).length:Int)≤p:=of_decide_eq_true e_
   rw[length_map]at hn
   rw[if_pos (Or.inr hn)]at aW
   exact aW
  have dh:¬p<0:=fun y=>cH (decide_eq_true y)
  have hn:¬(x.ay.length:Int)≤p:=fun y=>e_ (decide_eq_true (by rw[length_map];exact y))
  rw[if_neg (fun y=>y.elim dh hn)]at aW
  refine⟨_,rfl,c,_,_,_,rfl,rfl,aO.of cI,rfl,rfl,_,rfl,en rfl ?_⟩
  obtain⟨bL,rfl⟩:∃bL:Nat,p=(bL:Int):=⟨p.toNat,by omega⟩
  rw[Int.toNat_natCast]at aW
  refine⟨_,rfl,_,rfl,h,ce,ak,lo,pu,st,pl,x,bL,rfl,bA,fun aS s3=>?_⟩
  have m8:=s3 _ _ cI
  refine⟨_,rfl,_,rfl,c,_,_,_,rfl,rfl,aO.of m8,rfl,c8,fun gu sV=>⟨gu,_,rfl,.inl (aM.of aV),rfl,rfl,_,rfl,?_⟩⟩
  have s4:=bV sV (.lst [.int (-1),.int d])
  have ju:=q _ (s1.trans (s3.trans s4))
  have ju:Q (.str ((if x.isOpen d=false then some "no dealing" else if (bL:Int)<0∨(x.ay.length:Int)≤(bL:Int) then some "no page" else if x.dT (bL:Int).toNat=none∨x.dT (bL:Int).toNat=some d then none else some "taken":Option Str).getD "done")) _:=ju
  rw[aD,if_neg (fun z=>nomatch z),if_neg (fun y=>y.elim dh hn),Int.toNat_natCast]at ju
  rw[Wl]
  cases bF:x.dT bL with
  | none =>
   rw[bF,if_pos (Or.inl rfl)]at ju
   refine pX ?_ ju
   exact Or.inl rfl
  | some t =>
   rw[bF]at ju
   have t0:0≤t:=by
    unfold aq.dT at bF
    obtain⟨z,hz,e⟩:=Option.map_eq_some_iff.mp bF
    rw[←e]
    exact aR z (mem_of_find?_eq_some hz)
   by_cases e:t=d
   ·subst e
    rw[if_pos (Or.inr rfl)]at ju
    exact pX (Or.inr rfl) ju
   ·rw[if_neg (fun y=>y.elim (fun z=>nomatch z) fun z=>e (Option.some.inj z))]at ju
    refine pW (fun y=>?_) ju
    rcases y with y | y
    ·have y':t = -1:=y
     omega
    ·exact e y
 | fin d =>
  obtain⟨c,c3,di,rfl,ai,bE,b4⟩:=gj bX
  cases bE.str_inv
  cases b4.int_inv
  refine⟨_,rfl,c,_,_,_,rfl,rfl,aO.of ai,rfl,c8,fun l aC=>⟨l,_,rfl,.inl (aM.of aV),rfl,rfl,_,rfl,?_⟩⟩
  have s1:=bV aC (.lst [.str "put",.str "end",.str "drop"])
  have bA:=b5.same s1
  have cI:=s1 _ _ ai
  have aW:=q _ s1
  generalize upd H l (.lst [.str "put",.str "end",.str "drop"])=H1 at s1 bA cI aW ⊢
  have l9:(if false=true then !iO (V.str "end") [V.str "put",V.str "end",V.str "drop"] else iO (V.str "end") [V.str "put",V.str "end",V.str "drop"])=true:=by decide +kernel
  rw[l9]
  have aW:Q (.str (((if x.isOpen d=false then some "no dealing" else none):Option Str).getD "done")) H1:=aW
  refine eB ?_
  refine⟨_,rfl,c,_,_,_,rfl,rfl,aO.of cI,rfl,_,rfl,pu,_,rfl,bA.uE d,_,rfl,?_⟩
  rw[bA.isOpen d]
  cases aD:x.isOpen d with
  | false =>
   rw[aD,if_pos rfl]at aW
   exact eB aW
  | true =>
  rw[aD,if_neg (fun z=>nomatch z)]at aW
  refine dQ ?_
  refine⟨_,rfl,c,_,_,_,rfl,rfl,aO.of cI,rfl,rfl,_,rfl,bC (by decide +kernel) ?_⟩
  refine⟨_,rfl,c,_,_,_,rfl,rfl,aO.of cI,rfl,rfl,_,rfl,bC (by decide +kernel) ?_⟩
  refine⟨_,rfl,c,_,_,_,rfl,rfl,aO.of cI,rfl,rfl,_,rfl,bC (by decide +kernel) ?_⟩
  refine⟨_,rfl,_,_,rfl,rfl,_,rfl,bC (by decide) ?_⟩
  refine⟨_,rfl,_,rfl,ak,_,rfl,.inl (aM.of bA.hd),_,_,rfl,rfl,_,rfl,bC (by rw[length_map];omega) ?_⟩
  refine⟨_,rfl,c,_,_,_,rfl,rfl,aO.of cI,rfl,rfl,_,rfl,bC (by decide +kernel) (dQ ?_)⟩
  exact aW
 | drop d =>
  obtain⟨c,c3,di,rfl,ai,bE,b4⟩:=gj bX
  cases bE.str_inv
  cases b4.int_inv
  refine⟨_,rfl,c,_,_,_,rfl,rfl,aO.of ai,rfl,c8,fun l aC=>⟨l,_,rfl,.inl (aM.of aV),rfl,rfl,_,rfl,?_⟩⟩
  have s1:=bV aC (.lst [.str "put",.str "end",.str "drop"])
  have bA:=b5.same s1
  have cI:=s1 _ _ ai
  have aW:=q _ s1
  generalize upd H l (.lst [.str "put",.str "end",.str "drop"])=H1 at s1 bA cI aW ⊢
  have l9:(if false=true then !iO (V.str "drop") [V.str "put",V.str "end",V.str "drop"] else iO (V.str "drop") [V.str "put",V.str "end",V.str "drop"])=true:=by decide +kernel
  rw[l9]
  have aW:Q (.str (((if x.isOpen d=false then some "no dealing" else none):Option Str).getD "done")) H1:=aW
  refine eB ?_
  refine⟨_,rfl,c,_,_,_,rfl,rfl,aO.of cI,rfl,_,rfl,pu,_,rfl,bA.uE d,_,rfl,?_⟩
  rw[bA.isOpen d]
  cases aD:x.isOpen d with
  | false =>
   rw[aD,if_pos rfl]at aW
   exact eB aW
  | true =>
  rw[aD,if_neg (fun z=>nomatch z)]at aW
  refine dQ ?_
  refine⟨_,rfl,c,_,_,_,rfl,rfl,aO.of cI,rfl,rfl,_,rfl,bC (by decide +kernel) ?_⟩
  refine⟨_,rfl,c,_,_,_,rfl,rfl,aO.of cI,rfl,rfl,_,rfl,bC (by decide +kernel) ?_⟩
  refine⟨_,rfl,c,_,_,_,rfl,rfl,aO.of cI,rfl,rfl,_,rfl,bC (by decide +kernel) ?_⟩
  refine⟨_,rfl,_,_,rfl,rfl,_,rfl,bC (by decide) ?_⟩
  refine⟨_,rfl,_,rfl,ak,_,rfl,.inl (aM.of bA.hd),_,_,rfl,rfl,_,rfl,bC (by rw[length_map];omega) ?_⟩
  refine⟨_,rfl,c,_,_,_,rfl,rfl,aO.of cI,rfl,rfl,_,rfl,bC (by decide +kernel) (dQ ?_)⟩
  exact aW
 | look p =>
  obtain⟨c,c3,di,rfl,ai,bE,b4⟩:=gj bX
  cases bE.str_inv
  cases b4.int_inv
  refine⟨_,rfl,c,_,_,_,rfl,rfl,aO.of ai,rfl,c8,fun l aC=>⟨l,_,rfl,.inl (aM.of aV),rfl,rfl,_,rfl,?_⟩⟩
  have s1:=bV aC (.lst [.str "put",.str "end",.str "drop"])
  have bA:=b5.same s1
  have cI:=s1 _ _ ai
  have aW:=q _ s1
  generalize upd H l (.lst [.str "put",.str "end",.str "drop"])=H1 at s1 bA cI aW ⊢
  have l9:(if false=true then !iO (V.str "look") [V.str "put",V.str "end",V.str "drop"] else iO (V.str "look") [V.str "put",V.str "end",V.str "drop"])=false:=by decide +kernel
  rw[l9]
  have aW:Q (.str (((if p<0∨(x.ay.length:Int)≤p then some "no page" else none):Option Str).getD "done")) H1:=aW
  refine dQ (dQ ?_)
  refine⟨_,rfl,c,_,_,_,rfl,rfl,aO.of cI,rfl,rfl,_,rfl,bC (by decide +kernel) ?_⟩
  refine⟨_,rfl,c,_,_,_,rfl,rfl,aO.of cI,rfl,rfl,_,rfl,en rfl (eB ?_)⟩
  refine⟨_,rfl,c,_,_,_,rfl,rfl,aO.of cI,rfl,?_⟩
  refine⟨_,rfl,_,_,rfl,rfl,_,rfl,gn (fun cH=>?_) (fun cH=>?_)⟩
  ·have dh:p<0:=of_decide_eq_true cH
   refine eB ?_
   rw[if_pos (Or.inl dh)]at aW
   exact aW
  refine⟨_,rfl,_,rfl,ak,_,rfl,.inl (aM.of bA.hd),_,_,rfl,rfl,_,rfl,gn (fun e_=>?_) (fun e_=>?_)⟩
  ·have hn:((x.ay.map V.int).length:Int)≤p:=of_decide_eq_true e_
   rw[length_map]at hn
   rw[if_pos (Or.inr hn)]at aW
   exact aW
  have dh:¬p<0:=fun y=>cH (decide_eq_true y)
  have hn:¬(x.ay.length:Int)≤p:=fun y=>e_ (decide_eq_true (by rw[length_map];exact y))
  rw[if_neg (fun y=>y.elim dh hn)]at aW
  refine⟨_,rfl,c,_,_,_,rfl,rfl,aO.of cI,rfl,rfl,_,rfl,bC (by decide +kernel) (dQ ?_)⟩
  exact aW
 | carry p =>
  obtain⟨c,c3,di,rfl,ai,bE,b4⟩:=gj bX
  cases bE.str_inv
  cases b4.int_inv
  refine⟨_,rfl,c,_,_,_,rfl,rfl,aO.of ai,rfl,c8,fun l aC=>⟨l,_,rfl,.inl (aM.of aV),rfl,rfl,_,rfl,?_⟩⟩
  have s1:=bV aC (.lst [.str "put",.str "end",.str "drop"])
  have bA:=b5.same s1
  have cI:=s1 _ _ ai
  have aW:=q _ s1
  generalize upd H l (.lst [.str "put",.str "end",.str "drop"])=H1 at s1 bA cI aW ⊢
  have l9:(if false=true then !iO (V.str "carry") [V.str "put",V.str "end",V.str "drop"] else iO (V.str "carry") [V.str "put",V.str "end",V.str "drop"])=false:=by decide +kernel
  rw[l9]
  have aW:Q (.str (((if p<0∨(x.ay.length:Int)≤p then some "no page" else none):Option Str).getD "done")) H1:=aW
  refine dQ (dQ ?_)
  refine⟨_,rfl,c,_,_,_,rfl,rfl,aO.of cI,rfl,rfl,_,rfl,bC (by decide +kernel) ?_⟩
  refine⟨_,rfl,c,_,_,_,rfl,rfl,aO.of cI,rfl,rfl,_,rfl,bC (by decide +kernel) ?_⟩
  refine⟨_,rfl,c,_,_,_,rfl,rfl,aO.of cI,rfl,rfl,_,rfl,en rfl ?_⟩
  refine⟨_,rfl,c,_,_,_,rfl,rfl,aO.of cI,rfl,?_⟩
  refine⟨_,rfl,_,_,rfl,rfl,_,rfl,gn (fun cH=>?_) (fun cH=>?_)⟩
  ·have dh:p<0:=of_decide_eq_true cH
   refine eB ?_
   rw[if_pos (Or.inl dh)]at aW
   exact aW
  refine⟨_,rfl,_,rfl,ak,_,rfl,.inl (aM.of bA.hd),_,_,rfl,rfl,_,rfl,gn (fun e_=>?_) (fun e_=>?_)⟩
  ·have hn:((x.ay.map V.int).length:Int)≤p:=of_decide_eq_true e_
   rw[length_map]at hn
   rw[if_pos (Or.inr hn)]at aW
   exact aW
  have dh:¬p<0:=fun y=>cH (decide_eq_true y)
  have hn:¬(x.ay.length:Int)≤p:=fun y=>e_ (decide_eq_true (by rw[length_map];exact y))
  rw[if_neg (fun y=>y.elim dh hn)]at aW
  refine⟨_,rfl,c,_,_,_,rfl,rfl,aO.of cI,rfl,rfl,_,rfl,bC (by decide +kernel) (dQ ?_)⟩
  exact aW
 | cut =>
  obtain⟨c,c3,rfl,ai,bE⟩:=qM bX
  cases bE.str_inv
  refine⟨_,rfl,c,_,_,_,rfl,rfl,aO.of ai,rfl,c8,fun l aC=>⟨l,_,rfl,.inl (aM.of aV),rfl,rfl,_,rfl,?_⟩⟩
  have s1:=bV aC (.lst [.str "put",.str "end",.str "drop"])
  have bA:=b5.same s1
  have cI:=s1 _ _ ai
  have aW:=q _ s1
  generalize upd H l (.lst [.str "put",.str "end",.str "drop"])=H1 at s1 bA cI aW ⊢
  have l9:(if false=true then !iO (V.str "cut") [V.str "put",V.str "end",V.str "drop"] else iO (V.str "cut") [V.str "put",V.str "end",V.str "drop"])=false:=by decide +kernel
  rw[l9]
  have aW:Q (.str ((none:Option Str).getD "done")) H1:=aW
  refine dQ (dQ ?_)
  refine⟨_,rfl,c,_,_,_,rfl,rfl,aO.of cI,rfl,rfl,_,rfl,bC (by decide +kernel) ?_⟩
  refine⟨_,rfl,c,_,_,_,rfl,rfl,aO.of cI,rfl,rfl,_,rfl,bC (by decide +kernel) ?_⟩
  refine⟨_,rfl,c,_,_,_,rfl,rfl,aO.of cI,rfl,rfl,_,rfl,bC (by decide +kernel) ?_⟩
  refine⟨_,rfl,_,_,rfl,rfl,_,rfl,bC (by decide) ?_⟩
  refine⟨_,rfl,_,rfl,ak,_,rfl,.inl (aM.of bA.hd),_,_,rfl,rfl,_,rfl,bC (by rw[length_map];omega) ?_⟩
  refine⟨_,rfl,c,_,_,_,rfl,rfl,aO.of cI,rfl,rfl,_,rfl,bC (by decide +kernel) (dQ ?_)⟩
  exact aW
theorem CY:dP ["_law_house","_law_deed","_law_page","_law_old"] q9 (cR DB):=d2
theorem Vl {g6:Addr}{h3:FuncData}{h2:Addr}{iT:FuncData}(F:bU K "_law_end_in" "_law_end_in" DB f fd) (B:ff mg) (lY:w7 mg) (k9:bp P w K mg base bW 1 g6 h3 nQ vY) (k4:Binds K h3 nQ []) (tA:keepIn K (.ref g6)=true) (kV:mg "_law_stroke_in"=some (.ref g6)) (mE:bp P w K mg base bW 2 h2 iT uM CS) (mC:Binds K iT uM []) (yC:keepIn K (.ref h2)=true) (kk:mg "_law_put_in"=some (.ref h2)):bp P w K mg base bW 3 f fd q9 KR:=by
 refine F.ok CY (fun vs H Q E h=>?_) (fun cz A outer s H vs Q E aE h=>?_)
 ·obtain⟨h,ce,ak,lo,pu,st,pl,x,v,o_,d,rfl,_⟩:=h
  rfl
 obtain⟨h,ce,ak,lo,pu,st,pl,x,v,o_,d,rfl,b5,bX,aD,lC,z,q⟩:=h
 have bq:=ht aE
 refine⟨_,(bg (c_ (cX el (bK cC (ah 1) aZ (fun _ _=>rfl)) bJ (cP _)) (bl (hM PassesOwn.never rfl (jf (TA aE.hd rfl B.lst rfl lY.rev (e1 bq (e1 bq (ah 0) bJ (fun _ _=>rfl)) (bK cC (ah 1) aZ (fun _ _=>rfl)) (fun _ _=>rfl)))) (r_ rfl (kA (fQ (i:=2) CY.a3 rfl (Or.inl rfl)) (kA (fQ (i:=3) CY.a3 rfl (Or.inl rfl)) r3))) (bl (dD (dE mE (cj aE) rfl kk yC mC .nil cU (au (ah 0) (au (bK cC (ah 1) aZ (fun _ _=>rfl)) (au (ah 2) (au (ah 3) aN))))))))) dZ) (bg (dD (dE k9 (cj aE) rfl kV tA k4 .nil cU (au (ah 0) (au (gH (au bJ (au (gH (au bJ (au (bK cC (ah 1) aZ (fun _ _=>rfl)) aN))) aN))) aN)))) (bl (dD (CI (e1 bq (ah 0) bJ (fun _ _=>rfl)) (bK cC (ah 1) aZ (fun _ _=>rfl)) ⟨rfl,rfl,rfl,rfl⟩))))),?_⟩
 obtain⟨c,di,ev,ai,b4,hg⟩:∃c w,v=.ref c∧H c=some (.tup [.str w,.int d])∧(o_=true→w="drop")∧(o_=false→w="end"):=by
  cases o_ with
  | true =>
   obtain⟨c,c3,di,rfl,ai,bE,b4⟩:=gj (a:=.str "drop") (b:=.int d) bX
   cases bE.str_inv
   cases b4.int_inv
   exact⟨c,_,rfl,ai,fun _=>rfl,(fun z=>nomatch z)⟩
  | false =>
   obtain⟨c,c3,di,rfl,ai,bE,b4⟩:=gj (a:=.str "end") (b:=.int d) bX
   cases bE.str_inv
   cases b4.int_inv
   exact⟨c,_,rfl,ai,(fun z=>nomatch z),fun _=>rfl⟩
 subst ev
 cases o_ with
 | true =>
  cases b4 rfl
  refine⟨_,rfl,c,_,_,_,rfl,rfl,aO.of ai,rfl,rfl,_,rfl,en rfl ?_⟩
  obtain⟨i,a,ys,aP,hw,bo,nS,cO⟩:=b5.qP aD
  have m3:=nS.length
  rw[length_map]at m3
  refine⟨_,rfl,h,_,rfl,b5.lq,_,rfl,c,_,_,_,rfl,rfl,aO.of ai,rfl,pu,_,rfl,cO,a,ys,rfl,aM.of bo,fun l aC=>⟨l,rfl,⟨_,aM.of aV⟩,?_⟩⟩
  have s1:=bV aC (.lst ys.reverse)
  have aG:(upd H l (.lst ys.reverse)) l=some (.lst ys.reverse):=aV
  have nl:=b5.there aC
  have bA:=b5.same s1
  have nR:=a9.mono s1 _ _ nS
  have cI:=s1 _ _ ai
  generalize upd H l (.lst ys.reverse)=H1 at s1 aG bA nR cI ⊢
  refine mL (K:=K) (a:=l) (xs:=ys.reverse) (fun j σ av=>∃(b7 dC:Option V) (lo':Addr),σ=[some (.ref h),some (.ref c),b7,dC]∧br av h ce ak lo' pu st pl (x.ee d ((x.c7 d).reverse.take j))∧jk (own h ce ak pu st pl) lo lo' H1 av)
   ⟨none,none,lo,rfl,bA,(hh.refl _ _).l⟩ (fun j σ av _ ⟨_,_,_,_,_,b7⟩=>aM.of (b7.1 _ _ nl aG)) ?_ ?_
  ·rintro j v σ av cD ⟨b7,dC,lo',rfl,cn,et⟩
   have FU:j<ys.length:=by
    have:=(List.getElem?_eq_some_iff.mp cD).1
    rw[length_reverse]at this
    exact this
   have u0:ys[ys.length - 1 - j]?=some v:=by rw[getElem?_reverse FU]at cD;exact cD
   obtain⟨jo,du,dK⟩:=qL nR u0
   have Zy:(x.c7 d).reverse[j]?=some jo:=by
    rw[getElem?_reverse (by omega),←m3]
    exact du
   have kt:=bA.fy et.1
   obtain⟨b,fh,eG,rfl,aa,bu,aW⟩:=gj (a:=.int (jo.1:Nat)) (b:=.int jo.2) (Rep.keep kt _ _ (hD jo) dK)
   cases bu.int_inv
   cases aW.int_inv
   have m7:jo.1<x.ay.length:=lC jo (mem_of_getElem? du)
   refine⟨b,_,rfl,aO.of aa,rfl,_,_,rfl,_,_,rfl,rfl,?_⟩
   refine⟨_,rfl,_,rfl,c,_,_,_,rfl,rfl,aO.of (kt _ _ cI),rfl,_,rfl,_,rfl,h,ce,ak,lo',pu,st,pl,_,d,jo.1,jo.2,rfl,cn,by rw[vM];exact m7,aq.fits.ee (k:=1) (z.mono ?_) (fun y b6=>lC y (mem_reverse.mp (mem_of_mem_take b6))),fun eO cB dX hW=>?_⟩
   ·rw[length_take,length_reverse]
    omega
   ·rw[←Iz]at dX
    have ja:(x.c7 d).reverse.take (j+1)=(x.c7 d).reverse.take j++[jo]:=by
     rw[take_add_one,Zy]
     rfl
    rw[←ja]at dX
    exact⟨_,_,eO,rfl,dX,et.trans hW⟩
  ·rintro σ av ⟨b7,dC,lo',rfl,cn,et⟩
   have da:ys.reverse.length=(x.c7 d).reverse.length:=by rw[length_reverse,length_reverse];exact m3
   rw[da,take_length,←g9]at cn
   have m8:=bA.fy et.1 _ _ cI
   have AI:(x.dU d).aK=x.aK:=by rw[g9,mG]
   have yk:(x.dU d).fits 1:=by
    rw[g9]
    exact aq.fits.ee (k:=1) (by rw[length_reverse];exact z) fun y b6=>lC y (mem_reverse.mp b6)
   have rd:(x.dU d).isOpen d=true:=by unfold aq.isOpen;rw[AI];exact aD
   have fs:∀eO af,br af h ce ak eO pu st (pl.filter fun z=>z.1 != d) ((x.dU d).fK d)→jk (own h ce ak pu st pl) lo' eO av af→Q .cS af:=fun eO af dX hW=>q eO af dX ((bx.et s1).l.trans (et.trans hW))
   refine⟨_,rfl,_,rfl,c,_,_,_,rfl,rfl,aO.of m8,rfl,c8,fun t1 sS=>⟨c8,fun d_ p9=>?_⟩⟩
   have s1:=bV sS (.tup [.str "end",.int d])
   have aG:(upd av t1 (.tup [.str "end",.int d])) t1=some (.tup [.str "end",.int d]):=aV
   have wX:(upd av t1 (.tup [.str "end",.int d])) d_=none:=p9
   have s2:=bV wX (.tup [.str "line",.ref t1])
   have fu:=s1.trans s2
   refine⟨h,ce,ak,lo',pu,st,pl,(x.dU d),.ref d_,.line (.fin d),rfl,cn.same fu,.hs aV (.cons .ofStr (.cons (.hs (s2 _ _ aG) (.cons .ofStr (.cons .ofInt .nil))) .nil)),True.intro,yk,fun eO dr gi e7=>?_⟩
   have rk:=(cn.same fu).fy e7.1 _ _ (fu _ _ m8)
   have aX:=gi.isOpen d
   have FN:((x.dU d).dc (.line (.fin d))).isOpen d=true:=rd
   rw[FN]at aX
   obtain⟨tl,sR⟩:=Option.isSome_iff_exists.mp aX
   refine⟨_,rfl,h,_,rfl,gi.lq,pu,rfl,.inl ⟨_,.inl gi.aF⟩,_,rfl,c,_,_,_,rfl,rfl,aO.of rk,rfl,_,Sum.inl d,tl,gi.aF,rfl,sR,?_⟩
   exact fs eO _ (gi.ended d) ((bx.et fu).l.trans (e7.trans (kB (br.mp ..)).l))
 | false =>
  cases hg rfl
  refine⟨_,rfl,c,_,_,_,rfl,rfl,aO.of ai,rfl,rfl,_,rfl,bC (by decide +kernel) ?_⟩
  have fs:∀eO af,br af h ce ak eO pu st (pl.filter fun z=>z.1 != d) (x.fK d)→jk (own h ce ak pu st pl) lo eO H af→Q .cS af:=q
  have cn:=b5
  have m8:=ai
  have rd:=aD
  have yk:x.fits 1:=z.mono (by omega)
  refine⟨_,rfl,_,rfl,c,_,_,_,rfl,rfl,aO.of m8,rfl,c8,fun t1 sS=>⟨c8,fun d_ p9=>?_⟩⟩
  have s1:=bV sS (.tup [.str "end",.int d])
  have aG:(upd H t1 (.tup [.str "end",.int d])) t1=some (.tup [.str "end",.int d]):=aV
  have wX:(upd H t1 (.tup [.str "end",.int d])) d_=none:=p9
  have s2:=bV wX (.tup [.str "line",.ref t1])
  have fu:=s1.trans s2
  refine⟨h,ce,ak,lo,pu,st,pl,x,.ref d_,.line (.fin d),rfl,cn.same fu,.hs aV (.cons .ofStr (.cons (.hs (s2 _ _ aG) (.cons .ofStr (.cons .ofInt .nil))) .nil)),True.intro,yk,fun eO dr gi e7=>?_⟩
  have rk:=(cn.same fu).fy e7.1 _ _ (fu _ _ m8)
  have aX:=gi.isOpen d
  have FN:(x.dc (.line (.fin d))).isOpen d=true:=rd
  rw[FN]at aX
  obtain⟨tl,sR⟩:=Option.isSome_iff_exists.mp aX
  refine⟨_,rfl,h,_,rfl,gi.lq,pu,rfl,.inl ⟨_,.inl gi.aF⟩,_,rfl,c,_,_,_,rfl,rfl,aO.of rk,rfl,_,Sum.inl d,tl,gi.aF,rfl,sR,?_⟩
  exact fs eO _ (gi.ended d) ((bx.et fu).l.trans (e7.trans (kB (br.mp ..)).l))
def IW:dn:=fun vs H Q _=>∃(h ce ak lo pu st:Addr) (pl:List (Int × Addr)) (x:aq) (v:V) (e:bZ) (n:Nat),vs=[.ref h,v]∧br H h ce ak lo pu st pl x∧Rep H e.D v∧x.good n∧n≤110 ∧
 ∀lo' hx af,br af h ce ak lo' pu st hx (x.a5 e).1→jk (own h ce ak pu st pl) lo lo' H af→(∀b∈own h ce ak pu st hx,b∈own h ce ak pu st pl∨H b=none)→Q (x.a5 e).2.v af
theorem Me:dP ["_law_house","_law_deed","_law_word"] q9 (cR Co):=d2
theorem Tg {vv:Addr}{yP:FuncData}{jQ:Addr}{lS:FuncData}{h2:Addr}{iT:FuncData}{tE:Addr}{yQ:FuncData}{jS:Addr}{lU:FuncData}{jP:Addr}{lR:FuncData}(F:bU K "_law_answered" "_law_answered" Co f fd) (B:ff mg) (BQ:bp P w K mg base bW 4 vv yP Ao LI) (BI:Binds K yP Ao []) (R6:keepIn K (.ref vv)=true) (BC:mg "_law_full"=some (.ref vv)) (px:bp P w K mg base bW 2 jQ lS An Jl) (pe:Binds K lS An []) (vr:keepIn K (.ref jQ)=true) (mw:mg "_law_refusal"=some (.ref jQ)) (mE:bp P w K mg base bW 2 h2 iT uM CS) (mC:Binds K iT uM []) (yC:keepIn K (.ref h2)=true) (kk:mg "_law_put_in"=some (.ref h2)) (GE:bp P w K mg base bW 3 tE yQ q9 KR) (HL:Binds K yQ q9 []) (Hs:keepIn K (.ref tE)=true) (Hl:mg "_law_end_in"=some (.ref tE)) (qC:bp P w K mg base bW 2 jS lU uN Cn) (qx:Binds K lU uN []) (yE:keepIn K (.ref jS)=true) (ql:mg "_law_carry_in"=some (.ref jS)) (pv:bp P w K mg base bW 3 jP lR uO CV) (pd:Binds K lR uO []) (vq:keepIn K (.ref jP)=true) (o8:mg "_law_cut_in"=some (.ref jP)):bp P w K mg base bW 5 f fd q9 IW:=by
 refine F.ok Me (fun vs H Q E h=>?_) (fun cz A outer s H vs Q E aE h=>?_)
 ·obtain⟨h,ce,ak,lo,pu,st,pl,x,v,e,n,rfl,_⟩:=h
  rfl
 obtain⟨h,ce,ak,lo,pu,st,pl,x,v,e,nn,rfl,b5,bX,g,aR,q⟩:=h
 have bq:=ht aE
 refine⟨_,(bg (c_ (cX el (bK cC (ah 1) aZ (fun _ _=>rfl)) bJ (cP _)) (bg (mO bq (ah 0) bJ (c0 gI (e1 bq (ah 0) bJ (fun _ _=>rfl)) aZ) rfl) (bg (c_ (jZ (dE BQ (cj aE) rfl BC R6 BI .nil cU (au (ah 0) (au aZ aN)))) (bl (dH bJ)) dZ) (bg (mO bq (e1 bq (ah 0) bJ (fun _ _=>rfl)) (c0 sb (e1 bq (ah 0) bJ (fun _ _=>rfl)) aZ) (fx aN) rfl) (bl (dH (c0 sb (e1 bq (ah 0) bJ (fun _ _=>rfl)) aZ)))))) dZ) (bg (cJ (i:=2) Me.a3 rfl (Or.inl rfl) (dE px (cj aE) rfl mw vr pe .nil cU (au (e1 bq (ah 0) bJ (fun _ _=>rfl)) (au (e1 bq (ah 0) bJ (fun _ _=>rfl)) (au (ah 1) aN))))) (bg (c_ (cX kD (ah 2) bJ (cP _)) (bl (dH (ah 2))) dZ) (bg (c_ (cX el (bK cC (ah 1) aZ (fun _ _=>rfl)) bJ (cP _)) (bg (c_ (jZ (dE BQ (cj aE) rfl BC R6 BI .nil cU (au (ah 0) (au aZ aN)))) (bl (dH bJ)) dZ) (bg (dD (ia plainAttrs_list PySem.F.slot_list_append PySem.F.type_list_append h_ (e1 bq (e1 bq (ah 0) bJ (fun _ _=>rfl)) (bK cC (ah 1) aZ (fun _ _=>rfl)) (fun _ _=>rfl)) (au (gH (au (bK cC (ah 1) aZ (fun _ _=>rfl)) (au (bK fa (e1 bq (ah 0) bJ (fun _ _=>rfl)) (bK cC (ah 1) aZ (fun _ _=>rfl)) (fun _ _=>rfl)) aN))) aN))) (bl (dD (dE mE (cj aE) rfl kk yC mC .nil cU (au (ah 0) (au (bK cC (ah 1) aZ (fun _ _=>rfl)) (au (bK cC (ah 1) aZ (fun _ _=>rfl)) (au (bK cC (ah 1) aZ (fun _ _=>rfl)) aN))))))))) (bl (c_ (mS (cX el (bK cC (ah 1) aZ (fun _ _=>rfl)) bJ (cP _)) (cX el (bK cC (ah 1) aZ (fun _ _=>rfl)) bJ (cP _))) (bl (dD (dE GE (cj aE) rfl Hl Hs HL .nil cU (au (ah 0) (au (ah 1) aN))))) (bl (c_ (cX el (bK cC (ah 1) aZ (fun _ _=>rfl)) bJ (cP _)) (bl (dH (bK fa (e1 bq (ah 0) bJ (fun _ _=>rfl)) (bK cC (ah 1) aZ (fun _ _=>rfl)) (fun _ _=>rfl)))) (bl (c_ (cX el (bK cC (ah 1) aZ (fun _ _=>rfl)) bJ (cP _)) (bl (dD (dE qC (cj aE) rfl ql yE qx .nil cU (au (ah 0) (au (bK cC (ah 1) aZ (fun _ _=>rfl)) aN))))) (bl (dD (dE pv (cj aE) rfl o8 vq pd .nil cU (au (ah 0) aN))))))))))) (bl (dH bJ)))))),?_⟩
 cases e with
 | begin =>
  obtain⟨c,c3,rfl,ai,bE⟩:=qM bX
  cases bE.str_inv
  refine⟨_,rfl,c,_,_,_,rfl,rfl,aO.of ai,rfl,rfl,_,rfl,en rfl ?_⟩
  have aY:x.a5 .begin=if (x.began.full 1).2=true then ((x.began.full 1).1,.word "no room") else ((x.began.full 1).1.opened,.num x.begun):=rfl
  refine⟨_,rfl,h,_,rfl,b5.DU,_,_,rfl,rfl,_,rfl,h,_,rfl,b5.WX _,?_⟩
  have bA:br _ h ce ak lo pu st pl x.began:=b5.setB (n:=x.begun+1) (b:=(x.begun:Int)+1) (by omega)
  have b7:hh (own h ce ak pu st pl) H (upd H h (.bR (putK (aQ ce ak lo pu st x.room x.begun) (Sum.inr "begun") (.int ((x.begun:Int)+1))))):=kB (br.o7 ..)
  generalize upd H h (.bR (putK (aQ ce ak lo pu st x.room x.begun) (Sum.inr "begun") (.int ((x.begun:Int)+1))))=av at bA b7 ⊢
  have qv:x.began.fits (x.began.ay.length+1):=g.fits (by omega) (by have:=g.e9;show x.ay.length+1≤_;omega)
  refine⟨_,rfl,h,ce,ak,lo,pu,st,pl,x.began,1,rfl,bA,(by have:=g.pl;show x.aK.length≤200;omega),(by have:=g.e9;show x.ay.length≤1000;omega),qv,fun lo' aS cn dC=>⟨_,rfl,?_⟩⟩
  cases hf:(x.began.full 1).2 with
  | true =>
   rw[hf,if_pos rfl]at aY
   refine eB ?_
   rw[aY]at q
   exact q lo' pl aS cn (b7.l.trans dC) fun b aa=>.inl aa
  | false =>
   rw[hf,if_neg Bool.false_ne_true]at aY
   rw[aY]at q
   refine dQ ?_
   have ej:(x.began.full 1).1.begun=x.begun+1:=mH
   have cu:(x.began.full 1).1.aK=x.aK:=je
   have iS:(x.began.full 1).1.opened={ (x.began.full 1).1 with aK:=(x.began.full 1).1.aK++[((((x.began.full 1).1.begun:Nat):Int) - 1,[])] }:=rfl
   rw[iS]at q
   generalize (x.began.full 1).1=y at cn q ej cu
   have nT:y.isOpen ((y.begun:Int) - 1)=false:=by
    cases b6:y.isOpen ((y.begun:Int) - 1) with
    | false=>rfl
    | true =>
     have m:=kv b6
     rw[cu]at m
     have:=(g.d3 _ m).2.1
     rw[ej]at this
     have adu:(((x.begun+1:Nat):Int) - 1)<(x.begun:Nat):=this
     omega
   refine⟨c8,fun u oQ=>?_⟩
   have mu:=cn.there oQ
   have s4:=bV oQ (.lst [])
   have bS:(upd aS u (.lst [])) u=some (.lst []):=aV
   have nul:u≠lo':=by
    obtain⟨xs,da,_⟩:=cn.aC
    exact (ct da oQ).symm
   have aaz:u∉own h ce ak pu st pl→H u=none:=fun aR=>by
    cases e:H u with
    | none=>rfl
    | some b1 =>
     have:=(b7.trans dC.1) u b1 aR e
     rw[oQ]at this
     cases this
   have dX:=cn.same s4
   generalize upd aS u (.lst [])=cB at s4 bS dX ⊢
   have Ft:(d6 pl).length<sizeLine:=jB (by
    have aG:(d6 pl).length=pl.length:=length_map _
    have aL:=b5.mW
    have:=g.pl
    omega)
   refine⟨_,rfl,h,_,rfl,dX.lq,_,rfl,h,_,rfl,dX.DU,_,_,rfl,rfl,pu,_,rfl,.inl ⟨_,Sum.inl ((y.begun:Int) - 1),dX.aF,rfl,Ft,rfl⟩,?_⟩
   have gi:=dX.opened (d:=(y.begun:Int) - 1) bS mu nul nT
   refine⟨_,rfl,h,_,rfl,gi.DU,_,_,rfl,rfl,?_⟩
   have ml:=q lo' _ _ gi (b7.l.trans (dC.trans ((bx.et s4).l.trans (kB (br.mp ..)).l))) fun b aa=>by
    rw[pJ]at aa
    rcases aa with e | e | e | e | e | ⟨z,hz,e⟩
    ·rw[e];exact .inl (br.o7 ..)
    ·rw[e];exact .inl (br.tw ..)
    ·rw[e];exact .inl (br.eW ..)
    ·rw[e];exact .inl (br.mp ..)
    ·rw[e];exact .inl (br.ms ..)
    ·rcases mem_append.mp hz with hz | hz
     ·rw[←e];exact .inl (br.yx hz ..)
     ·have gd:=mem_singleton.mp hz
      rw[gd]at e
      rw[←e]
      exact .inr (aaz mu)
   have ev:V.int ((y.begun:Int) - 1)=(cY.num x.begun).v:=by
    show V.int _=V.int _
    rw[ej]
    congr 1
    omega
   show Q (V.int ((y.begun:Int) - 1)) _
   rw[ev]
   exact ml
 | put d p n =>
  obtain⟨c,c3,di,n7,yl,rfl,ai,bE,b4,gZ,mj⟩:=zz bX
  cases bE.str_inv
  cases b4.int_inv
  cases gZ.int_inv
  cases mj.int_inv
  refine⟨_,rfl,c,_,_,_,rfl,rfl,aO.of ai,rfl,rfl,_,rfl,bC (by decide +kernel) ?_⟩
  refine⟨_,rfl,h,_,rfl,b5.lq,_,rfl,h,_,rfl,b5.l0,_,rfl,h,ce,ak,lo,pu,st,pl,x,.ref c,(.put d p n),rfl,b5,bX,g.gg,fun z hz=>(g.d3 z hz).1,fun av s2=>?_⟩
  have bA:=b5.same s2
  have cI:=s2 _ _ ai
  cases dz:x.refusal (.put d p n) with
  | some ww =>
   have aY:x.a5 (.put d p n)=(x,.word ww):=by unfold aq.a5;rw[dz]
   rw[aY]at q
   refine⟨_,rfl,rfl,_,rfl,pW (qG dz) ?_⟩
   exact⟨_,rfl,q lo pl av bA ((bx.et s2).l) fun b aa=>.inl aa⟩
  | none =>
  have aY:x.a5 (.put d p n)=x.gp (.put d p n):=by unfold aq.a5;rw[dz]
  rw[aY]at q
  refine⟨_,rfl,rfl,_,rfl,pX rfl ?_⟩
  refine⟨_,rfl,c,_,_,_,rfl,rfl,aO.of cI,rfl,rfl,_,rfl,en rfl ?_⟩
  have aD:x.isOpen d=true:=iv (.inl ⟨p,n,rfl⟩) dz
  obtain⟨o6,fi⟩:=nD (.inl ⟨d,n,rfl⟩) dz
  obtain⟨bL,rfl⟩:∃bL:Nat,p=(bL:Int):=⟨p.toNat,by omega⟩
  have j_:bL<x.ay.length:=by omega
  have d8:x.gp (.put d (bL:Int) n)=if (x.full 2).2=true then ((x.full 2).1,.word "no room") else ((((x.full 2).1.c1 d (bL:Int).toNat).putIn d (bL:Int).toNat n),.word "done"):=rfl
  rw[Int.toNat_natCast]at d8
  have qv:x.fits (x.ay.length+1+1):=g.fits (by omega) (by have:=g.e9;omega)
  refine⟨_,rfl,h,ce,ak,lo,pu,st,pl,x,2,rfl,bA,(by have:=g.pl;omega),(by have:=g.e9;omega),qv.mono (by omega),fun lo' aS cn dC=>⟨_,rfl,?_⟩⟩
  have gq:=(bx.et (gD:=own h ce ak pu st pl) s2).l.trans dC
  cases hf:(x.full 2).2 with
  | true =>
   rw[hf,if_pos rfl]at d8
   refine eB ?_
   rw[d8]at q
   exact q lo' pl aS cn gq fun b aa=>.inl aa
  | false =>
   rw[hf,if_neg Bool.false_ne_true]at d8
   rw[d8]at q
   refine dQ ?_
   have cu:(x.full 2).1.aK=x.aK:=je
   have x4:(x.full 2).1.ay=x.ay:=oz
   have rJ:(x.full 2).1.fits 1:=aq.fits.full qv
   have m8:=bA.fy dC.1 _ _ cI
   generalize (x.full 2).1=y at cn q cu x4 rJ
   have sU:y.isOpen d=true:=by unfold aq.isOpen;rw[cu];exact aD
   have xK:bL<y.ay.length:=by rw[x4];exact j_
   obtain⟨i,a,ys,aP,hw,bo,nS,cO⟩:=cn.qP sU
   obtain⟨o,gg,e9⟩:=cn.rr xK
   have iS:y.ay.getD bL 0=o:=by rw[getD_eq_getElem?_getD,gg];rfl
   have m3:=nS.length
   rw[length_map]at m3
   have kW:(y.c7 d).length≤110:=by
    have m:=kv sU
    rw[cu]at m
    have ck:(y.c7 d).length≤_:=(g.d3 _ m).2.2.1
    omega
   refine⟨_,rfl,h,_,rfl,cn.lq,_,rfl,c,_,_,_,rfl,rfl,aO.of m8,rfl,pu,_,rfl,cO,.inl ⟨rfl,_,aM.of bo⟩,_,rfl,c,_,_,_,rfl,rfl,aO.of m8,rfl,_,rfl,h,_,rfl,cn.l0,_,rfl,c,_,_,_,rfl,rfl,aO.of m8,rfl,ak,_,_,_,rfl,rfl,aM.of cn.hd,e9,c8,fun t bF=>?_⟩
   have s4:=bV bF (.tup [.int (bL:Nat),.int o])
   have bS:(upd aS t (.tup [.int (bL:Nat),.int o])) t=some (.tup [.int (bL:Nat),.int o]):=aV
   have dX:=cn.same s4
   have P1:=s4 _ _ m8
   generalize upd aS t (.tup [.int (bL:Nat),.int o])=cB at s4 bS dX P1 ⊢
   refine⟨a,ys,.ref t,rfl,rfl,s4 _ _ bo,jB (by omega),?_⟩
   have gi:=dX.c1 (y:=(bL,o)) (v:=.ref t) aP (s4 _ _ bo) (.hs bS (.cons .ofInt (.cons .ofInt .nil)))
   have Hf:a∈own h ce ak pu st pl:=br.yx (mem_of_getElem? aP) ..
   have e7:hh (own h ce ak pu st pl) cB (upd cB a (.lst (ys++[.ref t]))):=kB Hf
   have rk:=dX.fy e7 _ _ P1
   have gx:y.c1 d bL={ y with aK:=y.aK.map fun z=>if z.1=d then (z.1,z.2++[(bL,y.ay.getD bL 0)]) else z }:=rfl
   rw[iS]at gx
   rw[←gx]at gi
   generalize upd cB a (.lst (ys++[.ref t]))=dr at gi e7 rk ⊢
   refine⟨_,rfl,_,rfl,c,_,_,_,rfl,rfl,aO.of rk,rfl,_,rfl,c,_,_,_,rfl,rfl,aO.of rk,rfl,_,rfl,c,_,_,_,rfl,rfl,aO.of rk,rfl,h,ce,ak,lo',pu,st,pl,y.c1 d bL,d,bL,n,rfl,gi,xK,rJ,fun eO dO tX e3=>?_⟩
   exact q eO pl dO tX (gq.trans ((bx.et s4).l.trans (e7.l.trans e3))) fun b aa=>.inl aa
 | fin d =>
  obtain⟨c,c3,di,rfl,ai,bE,b4⟩:=gj bX
  cases bE.str_inv
  cases b4.int_inv
  refine⟨_,rfl,c,_,_,_,rfl,rfl,aO.of ai,rfl,rfl,_,rfl,bC (by decide +kernel) ?_⟩
  refine⟨_,rfl,h,_,rfl,b5.lq,_,rfl,h,_,rfl,b5.l0,_,rfl,h,ce,ak,lo,pu,st,pl,x,.ref c,(.fin d),rfl,b5,bX,g.gg,fun z hz=>(g.d3 z hz).1,fun av s2=>?_⟩
  have bA:=b5.same s2
  have cI:=s2 _ _ ai
  cases dz:x.refusal (.fin d) with
  | some ww =>
   have aY:x.a5 (.fin d)=(x,.word ww):=by unfold aq.a5;rw[dz]
   rw[aY]at q
   refine⟨_,rfl,rfl,_,rfl,pW (qG dz) ?_⟩
   exact⟨_,rfl,q lo pl av bA ((bx.et s2).l) fun b aa=>.inl aa⟩
  | none =>
  have aY:x.a5 (.fin d)=x.gp (.fin d):=by unfold aq.a5;rw[dz]
  rw[aY]at q
  refine⟨_,rfl,rfl,_,rfl,pX rfl ?_⟩
  refine⟨_,rfl,c,_,_,_,rfl,rfl,aO.of cI,rfl,rfl,_,rfl,bC (by decide +kernel) ?_⟩
  refine⟨_,rfl,c,_,_,_,rfl,rfl,aO.of cI,rfl,rfl,_,rfl,en rfl (eB ?_)⟩
  have aD:x.isOpen d=true:=iv (.inr (.inl rfl)) dz
  have m:=g.d3 _ (kv aD)
  have kW:(x.c7 d).length≤nn:=m.2.2.1
  refine⟨_,rfl,_,rfl,h,ce,ak,lo,pu,st,pl,x,.ref c,false,d,rfl,bA,Rep.keep s2.fy _ _ (bZ.f3 _) bX,aD,m.2.2.2,g.fits (by omega) (by omega),fun lo' aS cn dC=>?_⟩
  refine q lo' _ aS cn ((bx.et s2).l.trans dC) fun b aa=>.inl ?_
  rw[pJ]at aa ⊢
  rcases aa with e | e | e | e | e | ⟨z,hz,e⟩
  ·exact .inl e
  ·exact .inr (.inl e)
  ·exact .inr (.inr (.inl e))
  ·exact .inr (.inr (.inr (.inl e)))
  ·exact .inr (.inr (.inr (.inr (.inl e))))
  ·exact .inr (.inr (.inr (.inr (.inr ⟨z,(mem_filter.mp hz).1,e⟩))))
 | drop d =>
  obtain⟨c,c3,di,rfl,ai,bE,b4⟩:=gj bX
  cases bE.str_inv
  cases b4.int_inv
  refine⟨_,rfl,c,_,_,_,rfl,rfl,aO.of ai,rfl,rfl,_,rfl,bC (by decide +kernel) ?_⟩
  refine⟨_,rfl,h,_,rfl,b5.lq,_,rfl,h,_,rfl,b5.l0,_,rfl,h,ce,ak,lo,pu,st,pl,x,.ref c,(.drop d),rfl,b5,bX,g.gg,fun z hz=>(g.d3 z hz).1,fun av s2=>?_⟩
  have bA:=b5.same s2
  have cI:=s2 _ _ ai
  cases dz:x.refusal (.drop d) with
  | some ww =>
   have aY:x.a5 (.drop d)=(x,.word ww):=by unfold aq.a5;rw[dz]
   rw[aY]at q
   refine⟨_,rfl,rfl,_,rfl,pW (qG dz) ?_⟩
   exact⟨_,rfl,q lo pl av bA ((bx.et s2).l) fun b aa=>.inl aa⟩
  | none =>
  have aY:x.a5 (.drop d)=x.gp (.drop d):=by unfold aq.a5;rw[dz]
  rw[aY]at q
  refine⟨_,rfl,rfl,_,rfl,pX rfl ?_⟩
  refine⟨_,rfl,c,_,_,_,rfl,rfl,aO.of cI,rfl,rfl,_,rfl,bC (by decide +kernel) ?_⟩
  refine⟨_,rfl,c,_,_,_,rfl,rfl,aO.of cI,rfl,rfl,_,rfl,bC (by decide +kernel) ?_⟩
  refine⟨_,rfl,c,_,_,_,rfl,rfl,aO.of cI,rfl,rfl,_,rfl,en rfl ?_⟩
  have aD:x.isOpen d=true:=iv (.inr (.inr rfl)) dz
  have m:=g.d3 _ (kv aD)
  have kW:(x.c7 d).length≤nn:=m.2.2.1
  refine⟨_,rfl,_,rfl,h,ce,ak,lo,pu,st,pl,x,.ref c,true,d,rfl,bA,Rep.keep s2.fy _ _ (bZ.f3 _) bX,aD,m.2.2.2,g.fits (by omega) (by omega),fun lo' aS cn dC=>?_⟩
  refine q lo' _ aS cn ((bx.et s2).l.trans dC) fun b aa=>.inl ?_
  rw[pJ]at aa ⊢
  rcases aa with e | e | e | e | e | ⟨z,hz,e⟩
  ·exact .inl e
  ·exact .inr (.inl e)
  ·exact .inr (.inr (.inl e))
  ·exact .inr (.inr (.inr (.inl e)))
  ·exact .inr (.inr (.inr (.inr (.inl e))))
  ·exact .inr (.inr (.inr (.inr (.inr ⟨z,(mem_filter.mp hz).1,e⟩))))
 | look p =>
  obtain⟨c,c3,di,rfl,ai,bE,b4⟩:=gj bX
  cases bE.str_inv
  cases b4.int_inv
  refine⟨_,rfl,c,_,_,_,rfl,rfl,aO.of ai,rfl,rfl,_,rfl,bC (by decide +kernel) ?_⟩
  refine⟨_,rfl,h,_,rfl,b5.lq,_,rfl,h,_,rfl,b5.l0,_,rfl,h,ce,ak,lo,pu,st,pl,x,.ref c,(.look p),rfl,b5,bX,g.gg,fun z hz=>(g.d3 z hz).1,fun av s2=>?_⟩
  have bA:=b5.same s2
  have cI:=s2 _ _ ai
  cases dz:x.refusal (.look p) with
  | some ww =>
   have aY:x.a5 (.look p)=(x,.word ww):=by unfold aq.a5;rw[dz]
   rw[aY]at q
   refine⟨_,rfl,rfl,_,rfl,pW (qG dz) ?_⟩
   exact⟨_,rfl,q lo pl av bA ((bx.et s2).l) fun b aa=>.inl aa⟩
  | none =>
  have aY:x.a5 (.look p)=x.gp (.look p):=by unfold aq.a5;rw[dz]
  rw[aY]at q
  refine⟨_,rfl,rfl,_,rfl,pX rfl ?_⟩
  refine⟨_,rfl,c,_,_,_,rfl,rfl,aO.of cI,rfl,rfl,_,rfl,bC (by decide +kernel) ?_⟩
  refine⟨_,rfl,c,_,_,_,rfl,rfl,aO.of cI,rfl,rfl,_,rfl,bC (by decide +kernel) ?_⟩
  refine⟨_,rfl,c,_,_,_,rfl,rfl,aO.of cI,rfl,rfl,_,rfl,bC (by decide +kernel) ?_⟩
  obtain⟨o6,fi⟩:=nD (.inr (.inl rfl)) dz
  obtain⟨bL,rfl⟩:∃bL:Nat,p=(bL:Int):=⟨p.toNat,by omega⟩
  have j_:bL<x.ay.length:=by omega
  refine⟨_,rfl,c,_,_,_,rfl,rfl,aO.of cI,rfl,rfl,_,rfl,en rfl ?_⟩
  obtain⟨o,gg,e9⟩:=bA.rr j_
  have d8:x.gp (.look (bL:Int))=(x,.num (x.ay.getD (bL:Int).toNat 0)):=rfl
  rw[Int.toNat_natCast,getD_eq_getElem?_getD,gg,Option.getD_some]at d8
  rw[d8]at q
  exact⟨_,rfl,h,_,rfl,bA.l0,_,rfl,c,_,_,_,rfl,rfl,aO.of cI,rfl,ak,_,_,_,rfl,rfl,aM.of bA.hd,e9,q lo pl av bA ((bx.et s2).l) fun b aa=>.inl aa⟩
 | carry p =>
  obtain⟨c,c3,di,rfl,ai,bE,b4⟩:=gj bX
  cases bE.str_inv
  cases b4.int_inv
  refine⟨_,rfl,c,_,_,_,rfl,rfl,aO.of ai,rfl,rfl,_,rfl,bC (by decide +kernel) ?_⟩
  refine⟨_,rfl,h,_,rfl,b5.lq,_,rfl,h,_,rfl,b5.l0,_,rfl,h,ce,ak,lo,pu,st,pl,x,.ref c,(.carry p),rfl,b5,bX,g.gg,fun z hz=>(g.d3 z hz).1,fun av s2=>?_⟩
  have bA:=b5.same s2
  have cI:=s2 _ _ ai
  cases dz:x.refusal (.carry p) with
  | some ww =>
   have aY:x.a5 (.carry p)=(x,.word ww):=by unfold aq.a5;rw[dz]
   rw[aY]at q
   refine⟨_,rfl,rfl,_,rfl,pW (qG dz) ?_⟩
   exact⟨_,rfl,q lo pl av bA ((bx.et s2).l) fun b aa=>.inl aa⟩
  | none =>
  have aY:x.a5 (.carry p)=x.gp (.carry p):=by unfold aq.a5;rw[dz]
  rw[aY]at q
  refine⟨_,rfl,rfl,_,rfl,pX rfl ?_⟩
  refine⟨_,rfl,c,_,_,_,rfl,rfl,aO.of cI,rfl,rfl,_,rfl,bC (by decide +kernel) ?_⟩
  refine⟨_,rfl,c,_,_,_,rfl,rfl,aO.of cI,rfl,rfl,_,rfl,bC (by decide +kernel) ?_⟩
  refine⟨_,rfl,c,_,_,_,rfl,rfl,aO.of cI,rfl,rfl,_,rfl,bC (by decide +kernel) ?_⟩
  obtain⟨o6,fi⟩:=nD (.inr (.inr rfl)) dz
  obtain⟨bL,rfl⟩:∃bL:Nat,p=(bL:Int):=⟨p.toNat,by omega⟩
  have j_:bL<x.ay.length:=by omega
  refine⟨_,rfl,c,_,_,_,rfl,rfl,aO.of cI,rfl,rfl,_,rfl,bC (by decide +kernel) ?_⟩
  refine⟨_,rfl,c,_,_,_,rfl,rfl,aO.of cI,rfl,rfl,_,rfl,en rfl ?_⟩
  have d8:x.gp (.carry (bL:Int))=(x.d0 (bL:Int).toNat,.word "done"):=rfl
  rw[Int.toNat_natCast]at d8
  rw[d8]at q
  refine⟨_,rfl,_,rfl,c,_,_,_,rfl,rfl,aO.of cI,rfl,h,ce,ak,lo,pu,st,pl,x,bL,rfl,bA,j_,g.fits (by omega) (by omega),fun lo' aS cn dC=>?_⟩
  exact q lo' pl aS cn ((bx.et s2).l.trans dC) fun b aa=>.inl aa
 | cut =>
  obtain⟨c,c3,rfl,ai,bE⟩:=qM bX
  cases bE.str_inv
  refine⟨_,rfl,c,_,_,_,rfl,rfl,aO.of ai,rfl,rfl,_,rfl,bC (by decide +kernel) ?_⟩
  refine⟨_,rfl,h,_,rfl,b5.lq,_,rfl,h,_,rfl,b5.l0,_,rfl,h,ce,ak,lo,pu,st,pl,x,.ref c,(.cut),rfl,b5,bX,g.gg,fun z hz=>(g.d3 z hz).1,fun av s2=>?_⟩
  have bA:=b5.same s2
  have cI:=s2 _ _ ai
  cases dz:x.refusal (.cut) with
  | some ww =>
   have aY:x.a5 (.cut)=(x,.word ww):=by unfold aq.a5;rw[dz]
   rw[aY]at q
   refine⟨_,rfl,rfl,_,rfl,pW (qG dz) ?_⟩
   exact⟨_,rfl,q lo pl av bA ((bx.et s2).l) fun b aa=>.inl aa⟩
  | none =>
  have aY:x.a5 (.cut)=x.gp (.cut):=by unfold aq.a5;rw[dz]
  rw[aY]at q
  refine⟨_,rfl,rfl,_,rfl,pX rfl ?_⟩
  refine⟨_,rfl,c,_,_,_,rfl,rfl,aO.of cI,rfl,rfl,_,rfl,bC (by decide +kernel) ?_⟩
  refine⟨_,rfl,c,_,_,_,rfl,rfl,aO.of cI,rfl,rfl,_,rfl,bC (by decide +kernel) ?_⟩
  refine⟨_,rfl,c,_,_,_,rfl,rfl,aO.of cI,rfl,rfl,_,rfl,bC (by decide +kernel) ?_⟩
  refine⟨_,rfl,c,_,_,_,rfl,rfl,aO.of cI,rfl,rfl,_,rfl,bC (by decide +kernel) ?_⟩
  refine⟨_,rfl,c,_,_,_,rfl,rfl,aO.of cI,rfl,rfl,_,rfl,bC (by decide +kernel) ?_⟩
  have d8:x.gp .cut=(x.dW,.word "done"):=rfl
  rw[d8]at q
  refine⟨_,rfl,h,ce,ak,lo,pu,st,pl,x,rfl,bA,g.fits (by omega) (by omega),fun lo' aS cn dC=>?_⟩
  exact q lo' pl aS cn ((bx.et s2).l.trans dC) fun b aa=>.inl aa
def aq.new (ps:List Int) (room:Int):aq:=⟨ps,ps,[],[],room,0,[]⟩
def KQ:dn:=fun vs H Q _=>∃(p:Addr) (ps:List Int) (room:Int),vs=[.ref p,.int room]∧H p=some (.lst (ps.map V.int)) ∧
 ∀h ce ak lo pu st af,bx H af→br af h ce ak lo pu st [] (aq.new ps room)→(∀b∈own h ce ak pu st [],H b=none)→Q (.ref h) af
def LD:dn:=fun vs H Q _=>∃i:Int,vs=[.int i]∧∀(r:Int) (af:ao),0≤r→bx H af→Q (.int r) af
def KP:dn:=fun vs H Q _=>∃(i c:Int),vs=[.int i,.int c]∧1≤c∧c≤100∧∀(p:Addr) (ps:List Int) (af:ao),bx H af→H p=none→af p=some (.lst (ps.map V.int))→ps.length=c.toNat→Q (.ref p) af
theorem K2:dP ["_law_pages","_law_room","_law_house"] Am (cR Dz):=d2
theorem Vw (ce ak lo pu st:Addr) (room:Int):putK (putK (putK (mT [] [(Sum.inr "cellar",V.ref ce),(Sum.inr "desk",V.ref ak),(Sum.inr "log",V.ref lo),(Sum.inr "puts",V.ref pu)]) (Sum.inr "room") (.int room)) (Sum.inr "begun") (.int 0)) (Sum.inr "strokes") (.ref st)=aQ ce ak lo pu st room 0:=by kernel_rfl
theorem Vj (F:bU K "_law_house_of" "_law_house_of" Dz f fd) (B:ff mg):bp P w K mg base bW 1 f fd Am KQ:=by
 refine F.ok K2 (fun vs H Q E h=>?_) (fun cz A outer s H vs Q E aE h=>?_)
 ·obtain⟨p,ps,room,rfl,_⟩:=h
  rfl
 obtain⟨p,ps,room,rfl,aF,q⟩:=h
 have bq:=ht aE
 refine⟨_,(bg (cJ (i:=2) K2.a3 rfl (Or.inl rfl) (V5 (zC bJ (jd ow rfl B.lst ji (au (ah 0) aN)) (zC bJ (jd ow rfl B.lst ji (au (ah 0) aN)) (zC bJ (fx aN) (zC bJ v5 V2)))) rfl rfl (fun z=>nomatch z) (by decide))) (bg (mO bq (ah 2) bJ (ah 1) rfl) (bg (mO bq (ah 2) bJ aZ rfl) (bg (mO bq (ah 2) bJ (fx aN) rfl) (bl (dH (ah 2))))))),?_⟩
 intro h c5
 have s0:=bV c5 (.bR [])
 have e0:(upd H h (.bR [])) h=some (.bR []):=aV
 generalize upd H h (.bR [])=dG at s0 e0 ⊢
 refine⟨_,rfl,p,_,rfl,.inl (aM.of (s0 _ _ aF)),fun ce F3=>?_⟩
 have s1:=bV F3 (.lst (ps.map V.int))
 have aG:(upd dG ce (.lst (ps.map V.int))) ce=some (.lst (ps.map V.int)):=aV
 have f1:=s0.free F3
 generalize upd dG ce (.lst (ps.map V.int))=H1 at s1 aG ⊢
 have jz:=s0.trans s1
 refine⟨_,rfl,p,_,rfl,.inl (aM.of (jz _ _ aF)),fun ak sY=>?_⟩
 have s2:=bV sY (.lst (ps.map V.int))
 have aL:(upd H1 ak (.lst (ps.map V.int))) ak=some (.lst (ps.map V.int)):=aV
 have f2:=jz.free sY
 generalize upd H1 ak (.lst (ps.map V.int))=av at s2 aL ⊢
 have fu:=jz.trans s2
 refine⟨c8,fun lo nV=>?_⟩
 have s3:=bV nV (.lst [])
 have bH:(upd av lo (.lst [])) lo=some (.lst []):=aV
 generalize upd av lo (.lst [])=aS at s3 bH ⊢
 have eZ:=fu.trans s3
 intro pu kN
 have s4:=bV kN (.bR [])
 have bS:(upd aS pu (.bR [])) pu=some (.bR []):=aV
 have f4:=eZ.free kN
 generalize upd aS pu (.bR [])=cB at s4 bS ⊢
 have ho:=eZ.trans s4
 have cH:=(s2.trans (s3.trans s4)) _ _ aG
 have dh:=(s3.trans s4) _ _ aL
 have e_:=s4 _ _ bH
 have yR:=(s1.trans (s2.trans (s3.trans s4))) _ _ e0
 have dN:ce≠h:=(ct e0 F3).symm
 have dI:ak≠h:=(ct (s1 _ _ e0) sY).symm
 have eV:lo≠h:=(ct ((s1.trans s2) _ _ e0) nV).symm
 have fN:pu≠h:=(ct ((s1.trans (s2.trans s3)) _ _ e0) kN).symm
 have gr:ce≠ak:=ct aG sY
 have gE:ce≠lo:=ct (s2 _ _ aG) nV
 have gQ:ce≠pu:=ct ((s2.trans s3) _ _ aG) kN
 have i5:ak≠lo:=ct aL nV
 have lK:ak≠pu:=ct (s3 _ _ aL) kN
 have na:lo≠pu:=ct bH kN
 refine⟨yR,[(Sum.inr "cellar",V.ref ce),(Sum.inr "desk",V.ref ak),(Sum.inr "log",V.ref lo),(Sum.inr "puts",V.ref pu)],rfl,le_of_ble_eq_true rfl,?_⟩
 have afk:(mT [] [(Sum.inr "cellar",V.ref ce),(Sum.inr "desk",V.ref ak),(Sum.inr "log",V.ref lo),(Sum.inr "puts",V.ref pu)]).length≤4:=by
  have:=BW [(Sum.inr "cellar",V.ref ce),(Sum.inr "desk",V.ref ak),(Sum.inr "log",V.ref lo),(Sum.inr "puts",V.ref pu)] []
  exact this
 have L2:(putK (mT [] [(Sum.inr "cellar",V.ref ce),(Sum.inr "desk",V.ref ak),(Sum.inr "log",V.ref lo),(Sum.inr "puts",V.ref pu)]) (Sum.inr "room") (.int room)).length≤5:=by
  have:=qH (mT [] [(Sum.inr "cellar",V.ref ce),(Sum.inr "desk",V.ref ak),(Sum.inr "log",V.ref lo),(Sum.inr "puts",V.ref pu)]) (Sum.inr "room") (.int room)
  omega
 have afj:(putK (putK (mT [] [(Sum.inr "cellar",V.ref ce),(Sum.inr "desk",V.ref ak),(Sum.inr "log",V.ref lo),(Sum.inr "puts",V.ref pu)]) (Sum.inr "room") (.int room)) (Sum.inr "begun") (.int 0)).length≤6:=by
  have:=qH (putK (mT [] [(Sum.inr "cellar",V.ref ce),(Sum.inr "desk",V.ref ak),(Sum.inr "log",V.ref lo),(Sum.inr "puts",V.ref pu)]) (Sum.inr "room") (.int room)) (Sum.inr "begun") (.int 0)
  omega
 refine⟨_,rfl,_,rfl,h,_,rfl,.inl ⟨_,Sum.inr "room",aV,rfl,jB (by omega),rfl⟩,?_⟩
 rw[r0]
 refine⟨_,rfl,h,_,rfl,.inl ⟨_,Sum.inr "begun",aV,rfl,jB (by omega),rfl⟩,?_⟩
 rw[r0]
 refine⟨c8,fun st i3=>?_⟩
 have Ay:(upd cB h (.bR (putK (putK (mT [] [(Sum.inr "cellar",V.ref ce),(Sum.inr "desk",V.ref ak),(Sum.inr "log",V.ref lo),(Sum.inr "puts",V.ref pu)]) (Sum.inr "room") (.int room)) (Sum.inr "begun") (.int 0)))) st=none:=i3
 have m0:st≠h:=fun e=>by rw[e,aV]at Ay;cases Ay
 have wY:cB st=none:=by rw[aB m0]at Ay;exact Ay
 have hk:=ho.free wY
 refine⟨_,rfl,h,_,rfl,.inl ⟨_,Sum.inr "strokes",by rw[aB m0.symm];exact aV,rfl,jB (by omega),rfl⟩,?_⟩
 rw[Vw]
 have cp:ce≠st:=ct cH wY
 have cy:ak≠st:=ct dh wY
 have fo:lo≠st:=ct e_ wY
 have gs:pu≠st:=ct bS wY
 refine⟨_,rfl,q h ce ak lo pu st _ ?_ ?_ ?_⟩
 ·intro b o aa
  have nb:b≠h:=fun e=>by rw[e,c5]at aa;cases aa
  have ns:b≠st:=fun e=>by rw[e,hk]at aa;cases aa
  rw[aB nb,aB ns,aB nb]
  exact ho _ _ aa
 ·refine⟨aV,by rw[aB dN,aB cp,aB dN];exact cH,by rw[aB dI,aB cy,aB dI];exact dh,⟨[],by rw[aB eV,aB fo,aB eV];exact e_,.nil⟩,by rw[aB fN,aB gs,aB fN];exact bS,rfl,fun i z w a=>by simp at a,nodup_nil,⟨[],by rw[aB m0,aV],.nil⟩,?_,?_,rfl⟩
  ·unfold own
   simp[dN.symm,dI.symm,fN.symm,m0.symm,gr,gQ,cp,lK,cy,gs]
  ·unfold own
   simp[eV,gE.symm,i5.symm,na,fo]
 ·intro b aa
  rw[pJ]at aa
  rcases aa with e | e | e | e | e | ⟨z,hz,_⟩
  ·rw[e];exact c5
  ·rw[e];exact f1
  ·rw[e];exact f2
  ·rw[e];exact f4
  ·rw[e];exact hk
  ·cases hz
theorem VU:dP wU wU (cR Dt):=d2
theorem Vi (F:bU K "_law_pages_of" "_law_pages_of" Dt f fd) (B:ff mg):bp P w K mg base bW 1 f fd wU KP:=by
 refine F.ok VU (fun vs H Q E h=>?_) (fun cz A outer s H vs Q E aE h=>?_)
 ·obtain⟨i,c,rfl,_⟩:=h
  rfl
 obtain⟨i,c,rfl,aj,az,q⟩:=h
 refine⟨_,(bl (dH (zM [0] ["_law_k","_law_cell"] (ic.one (fv:="_law_cell") (j:=0) rfl (by decide +kernel) (by decide +kernel) rfl (by decide +kernel) rfl rfl (by decide +kernel) rfl rfl rfl) rfl (pF rfl B.i2 (au (ah 1) aN)) (fun C s1 H1 bG=>(bK (Ko (K:=K) rfl) (fx (au (c0 iZ (c0 gI (ah 1) (c0 sd aZ (ah 0))) aZ) (au (c0 sb (c0 iZ (ah 1) (c0 zS aZ aZ)) (ah 0)) aN))) (c0 iZ (ah 0) aZ) (fun _ _=>rfl)))))),?_⟩
 refine⟨_,rfl,c,rfl,by omega,by omega,fun acc de=>Tq (fun v=>∃z:Int,v=.int z) de (by omega) (fun k aS nv aQ sW=>?_) fun ys af gR kL s1 aG=>?_⟩
 ·refine⟨_,rfl,_,rfl,_,_,rfl,rfl,.inl ⟨by decide,by decide⟩,_,_,rfl,rfl,_,_,rfl,rfl,(by decide:(0:Int)<7),_,rfl,_,_,rfl,rfl,⟨by decide,by decide,by decide⟩,_,_,rfl,rfl,(show (0:Int)<10 ^ (30:Int).toNat by decide),_,rfl,_,_,rfl,rfl,c8,fun t bF=>?_⟩
  refine⟨_,rfl,_,_,rfl,rfl,(by decide:(0:Int)<2),?_⟩
  obtain⟨z,a1,eY⟩:=ll (ns:=[(i+3 * (0+(k:Int))) % 7,i % 10 ^ (30:Int).toNat - (0+(k:Int))]) (k:=(0+(k:Int)) % 2) (by omega) (by show _<(2:Int);omega)
  exact⟨t,_,_,_,rfl,rfl,aM.of aV,eY,sW _ _ ⟨z,rfl⟩ (bV bF _)⟩
 ·obtain⟨ps,rfl⟩:=ints_of kL
  rw[length_map]at gR
  exact q acc ps af s1 de aG gR
theorem WH:dP oM oM (cR D0):=d2
theorem V7 (F:bU K "_law_room_of" "_law_room_of" D0 f fd) (B:ff mg):bp P w K mg base bW 1 f fd oM LD:=by
 refine F.ok WH (fun vs H Q E h=>?_) (fun cz A outer s H vs Q E aE h=>?_)
 ·obtain⟨i,rfl,_⟩:=h
  rfl
 obtain⟨i,rfl,q⟩:=h
 refine⟨_,(bl (dH (bK fa (fx (au (c0 zS aZ aZ) (au aZ (au aZ (au aZ (au aZ (au (c0 gI aZ (c0 iZ (c0 ug (ah 0) aZ) aZ)) (au (c0 iZ (ah 0) (c0 zS aZ aZ)) aN)))))))) (c0 iZ (c0 ug (ah 0) aZ) aZ) (fun _ _=>rfl)))),?_⟩
 refine⟨_,_,rfl,rfl,⟨by decide,by decide,by decide⟩,_,rfl,_,_,rfl,rfl,⟨by decide,by decide⟩,_,_,rfl,rfl,(by decide:(0:Int)<60),_,_,rfl,rfl,_,rfl,_,_,rfl,rfl,⟨by decide,by decide,by decide⟩,_,_,rfl,rfl,(show (0:Int)<10 ^ (30:Int).toNat by decide),c8,fun t bF=>?_⟩
 refine⟨_,rfl,_,_,rfl,rfl,⟨by decide,by decide⟩,_,_,rfl,rfl,(by decide:(0:Int)<7),?_⟩
 obtain⟨z,a1,eY⟩:=ll (ns:=[10 ^ (12:Int).toNat,4,6,9,14,15+i / 25 % 60,i % 10 ^ (30:Int).toNat]) (k:=i / 5 % 7) (by omega) (by show _<(7:Int);omega)
 have nd:0≤z:=by
  have Bs:=mem_of_getElem? a1
  have fi:(0:Int)≤10 ^ (12:Int).toNat:=by decide
  have eK:(0:Int)≤i % 10 ^ (30:Int).toNat:=Int.emod_nonneg _ (by decide)
  simp only[mem_cons,not_mem_nil,or_false]at Bs
  rcases Bs with z | z | z | z | z | z | z
  ·rw[z];exact fi
  ·omega
  ·omega
  ·omega
  ·omega
  ·omega
  ·rw[z];exact eK
 exact⟨t,_,_,_,rfl,rfl,aM.of aV,eY,q z _ nd (bV bF _)⟩
structure iX (K:PySem.W.Frag) (mg:Str→Option Value) (C:Addr):Prop where
 cl:lH K C
 uh:jC K C "cellar"
 oD:jC K C "desk"
 Mk:jC K C "room"
 zF:jC K C "strokes"
 Dc:jC K C "begins"
 qT:jC K C "puts"
 C_:jC K C "takers"
 wu:jC K C "bound"
 AX:mg "House"=some (.ref C)
abbrev rq:List Value:=[.type "ValueError",.type "Exception",.type "BaseException",.type "object"]
structure tf (K:PySem.W.Frag) (mg:Str→Option Value) (cW cM c6 cV:Addr):Prop where
 g0:mg "NoDealing"=some (.ref cW)
 kk:mg "NoPage"=some (.ref cM)
 rE:mg "Taken"=some (.ref c6)
 mw:mg "NoRoom"=some (.ref cV)
 ach:excIn K cW rq "ValueError.__new__"=true
 acg:excIn K cM rq "ValueError.__new__"=true
 ace:excIn K c6 rq "ValueError.__new__"=true
 acf:excIn K cV rq "ValueError.__new__"=true
theorem WW {P:Program}{w:World}{X:bI}:Passes (eb P w) X SI:=fun _ _ _ _ _ _ _ h=>by
 obtain⟨_,_,_,_,_,_,_,_,_,q⟩:=h
 exact q.elim
def Aa (C:Addr):dn:=fun vs H Q _=>∃(c bP cA:Addr) (x:V) (ps ls:List V) (dg:dY),vs=[.ref c,x]∧wD C H c bP cA ps ls∧pZ H dg x∧dg.ok ps.length∧ls.length≤199999 ∧
 ∀(lB:Addr) (af:ao),wD C af c bP lB (dY.bP ps dg) (dY.cA ls dg)→(lB=cA∨H lB=none)→(∀b o,H b=some o→b≠c→b≠bP→(b≠cA∨lB≠cA)→af b=some o)→Q .cS af
def uI (bf aH:Addr):dn:=fun vs H Q _=>∃(a:eh) (lo:Addr) (pl:List (Int × Addr)) (x:aq) (aT:List (Key × V)) (v:V) (s:a4),vs=[.ref a.h,v]∧cT bf aH H a lo pl x aT∧Rep H s.D v∧s.okIn x∧x.fits 1 ∧
 ∀lo' af,cT bf aH af a lo' pl (x.dc s) aT→eN a lo pl lo' pl H af→Q .cS af
def z_ (bf aH:Addr):dn:=fun vs H Q _=>∃(a:eh) (lo:Addr) (pl:List (Int × Addr)) (x:aq) (aT:List (Key × V)) (d:Int) (p:Nat) (n:Int),vs=[.ref a.h,.int d,.int (p:Nat),.int n]∧cT bf aH H a lo pl x aT∧p<x.ay.length∧x.fits 1 ∧
 ∀lo' af,cT bf aH af a lo' pl (x.putIn d p n) aT→eN a lo pl lo' pl H af→Q .cS af
def Dl (bf aH:Addr):dn:=fun vs H Q _=>∃(a:eh) (lo:Addr) (pl:List (Int × Addr)) (x:aq) (aT:List (Key × V)) (m:Int),vs=[.ref a.h,.int m]∧cT bf aH H a lo pl x aT∧Q (.b0 (x.hN m)) H
def wj (bf aH cM:Addr):dn:=fun vs H Q E=>∃(a:eh) (lo:Addr) (pl:List (Int × Addr)) (x:aq) (aT:List (Key × V)) (p:Int),vs=[.ref a.h,.int p]∧cT bf aH H a lo pl x aT∧p.natAbs.log2<1920∧(if p<0∨(x.ay.length:Int)≤p then E (.ref cM) none H else Q .cS H)
def wk (bf aH cW:Addr):dn:=fun vs H Q E=>∃(a:eh) (lo:Addr) (pl:List (Int × Addr)) (x:aq) (aT:List (Key × V)) (d:Int),vs=[.ref a.h,.int d]∧cT bf aH H a lo pl x aT∧d.natAbs.log2<1920∧(if x.isOpen d=false then E (.ref cW) none H else Q .cS H)
def Dp (bf aH c6:Addr):dn:=fun vs H Q E=>∃(a:eh) (lo:Addr) (pl:List (Int × Addr)) (x:aq) (aT:List (Key × V)) (d:Int) (p:Nat),vs=[.ref a.h,.int d,.int (p:Nat)]∧cT bf aH H a lo pl x aT∧x.begun≤1000∧p≤1000∧(if x.dT p=none∨x.dT p=some d then Q .cS H else E (.ref c6) none H)
theorem YE:dP sC sC (cR DF):=d2
theorem Vp {C:Addr}(F:bU K "__init__" "Cellar.__init__" DF f fd) (B:ff mg) (T:pG K mg C):bp P w K mg base bW 1 f fd sC (zK C):=by
 refine F.ok YE (fun vs H Q E h=>?_) (fun cz A outer s H vs Q E aE h=>?_)
 ·obtain⟨c,dx,a,b,ps,ls,rfl,_⟩:=h
  rfl
 obtain⟨c,dx,a,b,ps,ls,rfl,ai,bo,aa,k⟩:=h
 refine⟨_,(bg (nF (ah 0) (jd ow rfl B.lst ji (au (ah 1) aN)) rfl) (bl (nF (ah 0) (jd ow rfl B.lst ji (au (ah 2) aN)) rfl))),?_⟩
 refine⟨_,rfl,a,ps,rfl,.inl (aM.of bo),fun bP lC=>?_⟩
 have sO:c≠bP:=ct ai lC
 have adJ:c≠a:=dt ai bo (by intro z;cases z)
 have Z8:c≠b:=dt ai aa (by intro z;cases z)
 have Z9:b≠bP:=ct aa lC
 refine⟨_,rfl,c,C,dx,[],rfl,(by rw[aB sO];exact ai),T.cl,T.yw,(by show 0<1000;decide),?_⟩
 refine⟨_,rfl,b,ls,rfl,.inl (aM.of (by rw[aB Z8.symm,aB Z9];exact aa)),fun cA uZ=>?_⟩
 have AP:cA≠c:=fun z=>by rw[z,aV]at uZ;cases uZ
 have E5:cA≠bP:=fun z=>by rw[z,aB sO.symm,aV]at uZ;cases uZ
 have Nl:H cA=none:=by rw[aB AP,aB E5]at uZ;exact uZ
 refine⟨_,rfl,c,C,dx,_,rfl,(by rw[aB AP.symm];exact aV),T.cl,T.tv,(by show 1<1000;decide),?_⟩
 refine k bP cA _ lC Nl ⟨⟨dx,aV⟩,by rw[aB sO.symm,aB E5.symm,aB sO.symm,aV],by rw[aB AP,aV],E5.symm⟩ fun d o e hd=>?_
 rw[aB hd,aB (ct e Nl),aB hd,aB (ct e lC)]
 exact e
theorem YC:dP jl jl (cR EU):=d2
theorem XY {C:Addr}(F:bU K "do_stroke" "Cellar.do_stroke" EU f fd) (T:pG K mg C):bp P w K mg base bW 1 f fd jl (Aa C):=by
 refine F.ok YC (fun vs H Q E h=>?_) (fun cz A outer s H vs Q E aE h=>?_)
 ·obtain⟨c,bP,cA,x,ps,ls,dg,rfl,_⟩:=h
  rfl
 obtain⟨c,bP,cA,x,ps,ls,dg,rfl,⟨⟨dx,aj⟩,aF,aC,AO⟩,gX,bM,nc,k⟩:=h
 have sO:c≠bP:=dt aj aF (by intro z;cases z)
 have Z6:c≠cA:=dt aj aC (by intro z;cases z)
 refine⟨_,(bl (c_ (cX el (bK cC (ah 1) aZ (fun _ _=>rfl)) bJ (cP _)) (bl (dD (ia plainAttrs_list PySem.F.slot_list_append PySem.F.type_list_append h_ (fb (ah 0) rfl) (au (bK cC (ah 1) aZ (fun _ _=>rfl)) aN)))) (bl (c_ (cX el (bK cC (ah 1) aZ (fun _ _=>rfl)) bJ (cP _)) (bl (r9 (bK cC (ah 1) aZ (fun _ _=>rfl)) (sa (fb (ah 0) rfl) (bK cC (ah 1) aZ (fun _ _=>rfl)) set_list))) (bl (c_ (cX el (bK cC (ah 1) aZ (fun _ _=>rfl)) bJ (cP _)) (bl (nF (ah 0) (rZ r2 (fb (ah 0) rfl) (qO (bK cC (ah 1) aZ (fun _ _=>rfl))) ue) rfl)) dZ)))))),?_⟩
 cases dg with
 | line v =>
  obtain⟨t,rfl,bF⟩:=gX
  refine⟨_,rfl,t,_,_,_,rfl,rfl,aO.of bF,rfl,rfl,_,rfl,en rfl ?_⟩
  refine⟨_,rfl,c,C,dx,_,_,rfl,aj,T.cl,T.tv,vV _ _,.inl ⟨rfl,_,aM.of aC⟩,_,rfl,t,_,_,_,rfl,rfl,aO.of bF,rfl,cA,_,v,rfl,rfl,aC,jB (by omega),?_⟩
  refine k cA _ ⟨⟨dx,by rw[aB Z6];exact aj⟩,by rw[aB AO];exact aF,aV,AO⟩ (.inl rfl) fun b o e _ _ eV=>?_
  rw[aB (eV.elim id fun z=>absurd rfl z)]
  exact e
 | dm j n =>
  obtain⟨t,rfl,bF⟩:=gX
  refine⟨_,rfl,t,_,_,_,rfl,rfl,aO.of bF,rfl,rfl,_,rfl,bC Mg ?_⟩
  refine⟨_,rfl,t,_,_,_,rfl,rfl,aO.of bF,rfl,rfl,_,rfl,en rfl ?_⟩
  refine⟨_,rfl,t,_,_,_,rfl,rfl,aO.of bF,rfl,_,rfl,c,C,dx,_,_,rfl,aj,T.cl,T.yw,zf _ _,_,rfl,t,_,_,_,rfl,rfl,aO.of bF,rfl,bP,_,_,j,rfl,rfl,aF,r4 bM,?_⟩
  refine k cA _ ⟨⟨dx,by rw[aB sO];exact aj⟩,aV,by rw[aB AO.symm];exact aC,AO⟩ (.inl rfl) fun b o e _ dI _=>?_
  rw[aB dI]
  exact e
 | cut m =>
  obtain⟨t,rfl,bF⟩:=gX
  refine⟨_,rfl,t,_,_,_,rfl,rfl,aO.of bF,rfl,rfl,_,rfl,bC MF ?_⟩
  refine⟨_,rfl,t,_,_,_,rfl,rfl,aO.of bF,rfl,rfl,_,rfl,bC Yj ?_⟩
  refine⟨_,rfl,t,_,_,_,rfl,rfl,aO.of bF,rfl,rfl,_,rfl,en rfl ?_⟩
  refine⟨_,rfl,c,C,dx,_,_,rfl,aj,T.cl,T.tv,vV _ _,_,rfl,t,_,_,_,rfl,rfl,aO.of bF,rfl,m,rfl,cA,_,rfl,aM.of aC,fun lB uP=>?_⟩
  have Nf:c≠lB:=ct aj uP
  have M_:bP≠lB:=ct aF uP
  refine⟨_,rfl,c,C,dx,_,rfl,(by rw[aB Nf];exact aj),T.cl,T.tv,(by rw[CQ];show 2<1000;decide),?_⟩
  refine k lB _ ⟨⟨dx,Eq.trans aV (congrArg (fun l=>some (fH.ins C dx l)) (UI _ _ _))⟩,by rw[aB sO.symm,aB M_];exact aF,by rw[aB Nf.symm,aV];rfl,M_⟩ (.inr uP) fun b o e dN _ _=>?_
  rw[aB dN,aB (ct e uP)]
  exact e
theorem Yz:dP jl jl (cR Dv):=d2
theorem XU {bf aH:Addr}{fW:Addr}{gG:FuncData}(F:bU K "make_stroke" "House.make_stroke" Dv f fd) (T:iX K mg aH) (lW:pG K mg bf) (hI:bp P w K mg base bW 1 fW gG jl (Aa bf)) (hH:Binds K gG jl []) (g0:Meth K bf "do_stroke" fW):bp P w K mg base bW 2 f fd jl (uI bf aH):=by
 refine F.ok Yz (fun vs H Q E h=>?_) (fun cz A outer s H vs Q E aE h=>?_)
 ·obtain⟨a,lo,pl,x,aT,v,s,rfl,_⟩:=h
  rfl
 obtain⟨a,lo,pl,x,aT,v,dj,rfl,A,aX,bM,iL,q⟩:=h
 obtain⟨dx,cc⟩:=A.b1
 obtain⟨dy,b7⟩:=A.co
 obtain⟨xs,aG,aL⟩:=A.aC
 obtain⟨zs,bH,bS⟩:=A.dg
 obtain⟨y,gX,fS⟩:=T7 aX
 have E8:a.ce≠lo:=A.dM.ne.2.2.2.2.2.2.2.2.2.2.2.1.symm
 have ON:=aL.1
 have aah:zs.length=x.c9.length:=by rw[a9.length bS,length_map]
 obtain⟨u1,ri,ad7⟩:=iL
 have p_:(pU y dj).ok (x.cg.map V.int).length:=by
  rw[length_map,A.dM.cd]
  cases dj with
  | line ln=>trivial
  | dm p n=>exact bM
  | cut k=>trivial
 refine⟨_,(bg (dD (g_ (fb (ah 0) rfl) lW.cl g0 hI (cj aE) hH .nil cU (au (ah 1) aN))) (bl (dD (ia plainAttrs_list PySem.F.slot_list_append PySem.F.type_list_append h_ (fb (ah 0) rfl) (au (ah 1) aN))))),?_⟩
 refine⟨_,rfl,a.h,aH,dx,_,_,rfl,cc,T.cl,T.uh,vR .., a.c,dy,_,rfl,b7,Kz _ _ (by decide +kernel) (by decide +kernel),_,rfl,a.c,a.ce,lo,v,_,xs,pU y dj,rfl,⟨⟨dy,b7⟩,A.ai,aG,E8⟩,gX,p_,by omega,fun lo' H1 pA nV bw=>?_⟩
 have cH:a.h≠a.c:=A.ep.1.symm
 have E2:H1 a.h=_:=bw _ _ cc cH A.aR.1.symm (.inl A.aR.2.2.2.2.1.symm)
 have s9:H1 a.st=_:=bw _ _ bH A.ep.2.2.2.2.1.symm A.dM.ne.2.2.2.2.2.2.1.symm (.inl A.dM.ne.2.2.2.2.2.2.2.2.2.2.2.2.2.2.1.symm)
 refine⟨_,rfl,a.h,aH,dx,_,_,rfl,E2,T.cl,T.zF,Cc .., .inl ⟨rfl,_,aM.of s9⟩,_,rfl,a.st,zs,v,rfl,rfl,s9,jB (by omega),?_⟩
 refine q lo' _ (A.VR bM aX fS aG aL bH bS pA nV bw) (eN.upd ⟨fun b o aa e=>?_,fun b aa=>?_⟩ (zW ..))
 ·exact bw b o e (fun z=>aa (by rw[z];exact z6 ..)) (fun z=>aa (by rw[z];exact zZ ..)) (.inl fun z=>aa (by rw[z];exact wB ..))
 ·rcases mem_cons.mp aa with z | z
  ·rcases nV with y | y
   ·rw[z,y];exact .inl (wB ..)
   ·rw[z];exact .inr y
  ·exact .inl (mem_cons_of_mem _ z)
theorem Yy:dP kK kK (cR C0):=d2
theorem XS {bf aH:Addr}{g6:Addr}{h3:FuncData}(F:bU K "write_put" "House.write_put" C0 f fd) (T:iX K mg aH) (k9:bp P w K mg base bW 2 g6 h3 jl (uI bf aH)) (k4:Binds K h3 jl []) (kV:Meth K aH "make_stroke" g6):bp P w K mg base bW 3 f fd kK (z_ bf aH):=by
 refine F.ok Yy (fun vs H Q E h=>?_) (fun cz A outer s H vs Q E aE h=>?_)
 ·obtain⟨a,lo,pl,x,aT,d,p,n,rfl,_⟩:=h
  rfl
 obtain⟨a,lo,pl,x,aT,d,p,n,rfl,A,aF,iL,q⟩:=h
 obtain⟨dx,cc⟩:=A.b1
 obtain⟨z,du,dK⟩:=A.dM.rr aF
 have gd:x.ay.getD p 0=z:=by rw[getD_eq_getElem?_getD,du];rfl
 refine⟨_,(bg (dD (g_ (ah 0) T.cl kV k9 (cj aE) k4 .nil cU (au (gH (au bJ (au (gH (au bJ (au (ah 1) (au (ah 2) (au (bK fa (fb (ah 0) rfl) (ah 2) (fun _ _=>rfl)) (au (ah 3) aN)))))) aN))) aN))) (bl (r9 (ah 3) (sa (fb (ah 0) rfl) (ah 2) set_list)))),?_⟩
 refine⟨_,rfl,a.h,dx,_,rfl,cc,(by kernel_rfl),_,rfl,_,rfl,_,rfl,a.h,aH,dx,_,_,rfl,cc,T.cl,T.oD,pK .., _,rfl,a.ak,_,_,_,rfl,rfl,aM.of A.hd,dK,_,rfl,c8,fun t1 aj=>⟨c8,fun d_ az=>?_⟩⟩
 have s1:=bV aj (.tup [.str "put",.int d,.int ((p:Nat):Int),.int z,.int n])
 have s2:=bV az (.tup [.str "line",.ref t1])
 have bA:=A.same (s1.trans s2)
 have aX:Rep (upd (upd H t1 (.tup [.str "put",.int d,.int ((p:Nat):Int),.int z,.int n])) d_ (.tup [.str "line",.ref t1])) (a4.line (.put d p z n)).D (.ref d_) :=
  Rep.hs aV (.cons .ofStr (.cons (Rep.hs (s2 _ _ aV) (.cons .ofStr (.cons .ofInt (.cons .ofInt (.cons .ofInt (.cons .ofInt .nil)))))) .nil))
 refine⟨a,lo,pl,x,aT,_,.line (.put d p z n),rfl,bA,aX,aF,iL,fun lo' aS cn fo=>?_⟩
 obtain⟨lF,dC⟩:=cn.b1
 have aaG:p<(x.ay.map V.int).length:=by rw[length_map];exact aF
 have PZ:=cn.hd
 rw[rS]at PZ
 refine⟨_,rfl,_,rfl,a.h,aH,lF,_,_,rfl,dC,T.cl,T.oD,pK .., _,rfl,a.ak,_,_,p,rfl,rfl,PZ,r4 aaG,?_⟩
 have d8:x.putIn d p n={ x.dc (.line (.put d p z n)) with ay:=x.ay.set p n }:=by
  unfold aq.putIn
  rw[gd]
 have dX:=cn.uJ (c:=x.ay.set p n) (by rw[rS,length_set])
 rw[pC]
 rw[←d8]at dX
 exact q lo' _ dX (((s1.trans s2).moves.trans fo).upd (zY ..))
theorem YA:dP m1 m1 (cR D3):=d2
theorem XX {bf aH:Addr}(F:bU K "has_room" "House.has_room" D3 f fd) (B:ff mg) (T:iX K mg aH) (lW:pG K mg bf):bp P w K mg base bW 1 f fd m1 (Dl bf aH):=by
 refine F.ok YA (fun vs H Q E h=>?_) (fun cz A outer s H vs Q E aE h=>?_)
 ·obtain⟨a,lo,pl,x,aT,m,rfl,_⟩:=h
  rfl
 obtain⟨a,lo,pl,x,aT,m,rfl,A,q⟩:=h
 obtain⟨dx,cc⟩:=A.b1
 obtain⟨dy,b7⟩:=A.co
 obtain⟨xs,aG,aL⟩:=A.aC
 refine⟨_,(bl (dH (uf Mi (c0 gI (c0 gI (es gU rfl B.len PySem.boot_len (au (fb (fb (ah 0) rfl) rfl) aN)) (fb (ah 0) rfl)) (ah 1)) (fb (ah 0) rfl) (cP _)))),?_⟩
 refine⟨_,rfl,a.h,aH,dx,_,_,rfl,cc,T.cl,T.uh,vR .., a.c,bf,dy,_,_,rfl,b7,lW.cl,lW.tv,vV _ _,lo,_,rfl,.inl (aM.of aG),_,rfl,a.h,aH,dx,_,_,rfl,cc,T.cl,T.wu,zH .., _,_,rfl,rfl,_,rfl,_,_,rfl,rfl,_,rfl,a.h,aH,dx,_,_,rfl,cc,T.cl,T.Mk,Wq .., _,_,rfl,rfl,?_⟩
 have e:x.hN m=decide (((xs.length:Nat):Int)+x.bound+m≤x.room):=by
  unfold aq.hN
  rw[aL.1]
 rw[e]at q
 exact q
theorem YH:dP ie ie (cR D9):=d2
theorem X2 {bf aH cW cM c6 cV:Addr}(F:bU K "ask_page" "House.ask_page" D9 f fd) (B:ff mg) (T:iX K mg aH) (E:tf K mg cW cM c6 cV):bp P w K mg base (eb P w) 1 f fd ie (wj bf aH cM):=by
 refine F.nP YH (fun vs H Q h7 h=>?_) (fun cz A outer s H vs Q h7 aE h=>?_)
 ·obtain⟨a,lo,pl,x,aT,p,rfl,_⟩:=h
  rfl
 obtain⟨a,lo,pl,x,aT,p,rfl,A,kM,q⟩:=h
 obtain⟨dx,cc⟩:=A.b1
 refine⟨_,(bl (c_ (mS (cX z5 (ah 1) aZ (cP _)) (cX Mj (ah 1) (es gU rfl B.len PySem.boot_len (au (fb (ah 0) rfl) aN)) (cP _))) (bl (zB E.acg E.kk excBase_ValueError rfl (zu (mP 2000 bJ (mP 2000 (wt (ah 1)) zR))))) dZ)),?_⟩
 refine⟨_,rfl,_,_,rfl,rfl,_,rfl,gn (fun cH=>?_) (fun cH=>?_)⟩
 ·have dh:p<0:=of_decide_eq_true cH
  refine eB ?_
  rw[if_pos (.inl dh)]at q
  exact⟨_,rfl,(le_of_ble_eq_true rfl),_,rfl,_,rfl,kM,_,rfl,(le_trans (t6 kM) (by decide)),fun _=>q⟩
 ·refine⟨_,rfl,_,rfl,a.h,aH,dx,_,_,rfl,cc,T.cl,T.oD,pK .., a.ak,_,rfl,.inl (aM.of A.hd),_,_,rfl,rfl,_,rfl,gn (fun e_=>?_) (fun e_=>?_)⟩
  ·have hn:((x.ay.map V.int).length:Int)≤p:=of_decide_eq_true e_
   rw[length_map]at hn
   rw[if_pos (.inr hn)]at q
   exact⟨_,rfl,(le_of_ble_eq_true rfl),_,rfl,_,rfl,kM,_,rfl,(le_trans (t6 kM) (by decide)),fun _=>q⟩
  ·have dh:¬p<0:=fun z=>cH (decide_eq_true z)
   have hn:¬(x.ay.length:Int)≤p:=fun z=>e_ (decide_eq_true (by rw[length_map];exact z))
   rw[if_neg (fun z=>z.elim dh hn)]at q
   exact q
theorem YI:dP iB iB (cR Ea):=d2
theorem X4 {bf aH cW cM c6 cV:Addr}(F:bU K "ask_dealing" "House.ask_dealing" Ea f fd) (T:iX K mg aH) (E:tf K mg cW cM c6 cV):bp P w K mg base (eb P w) 1 f fd iB (wk bf aH cW):=by
 refine F.nP YI (fun vs H Q h7 h=>?_) (fun cz A outer s H vs Q h7 aE h=>?_)
 ·obtain⟨a,lo,pl,x,aT,p,rfl,_⟩:=h
  rfl
 obtain⟨a,lo,pl,x,aT,d,rfl,A,kM,q⟩:=h
 obtain⟨dx,cc⟩:=A.b1
 have bq:=ht aE
 have Ef:(dF (d6 pl) (Sum.inl d)).isSome=x.isOpen d:=A.dM.isOpen d
 refine⟨_,(bl (c_ (uw (Cs bq (ah 1) (fb (ah 0) rfl))) (bl (zB E.ach E.g0 excBase_ValueError rfl (zu (mP 2000 bJ (mP 2000 (wt (ah 1)) (mP 2000 bJ zR)))))) dZ)),?_⟩
 refine⟨_,rfl,_,rfl,a.h,aH,dx,_,_,rfl,cc,T.cl,T.qT,r5 .., a.pu,_,rfl,fl.k (k:=Sum.inl d) A.aF,_,rfl,?_⟩
 rw[Ef]
 cases aD:x.isOpen d with
 | false =>
  rw[aD,if_pos rfl]at q
  refine eB ?_
  exact⟨_,rfl,(le_of_ble_eq_true rfl),_,rfl,_,rfl,kM,_,rfl,(le_trans (t6 kM) (by decide)),_,rfl,(le_of_ble_eq_true rfl),fun _=>q⟩
 | true =>
  rw[aD,if_neg (fun z=>nomatch z)]at q
  exact dQ q
theorem J3 {x:aq}{aT:List (Key × V)}{p:Nat}(t:wL x aT):(∀v,dF aT (Sum.inl ((p:Nat):Int))=some v→∃d:Int,v=.int d∧0≤d∧d<x.begun∧(x.isOpen d=true→x.dT p=some d)∧(x.isOpen d=false→x.dT p=none))∧(dF aT (Sum.inl ((p:Nat):Int))=none→x.dT p=none):=by
 have key:∀d,x.dT p=some d→dF aT (Sum.inl ((p:Nat):Int))=some (.int d)∧x.isOpen d=true:=fun d e=>by
  unfold aq.dT at e
  cases q:x.aK.find? (fun z=>z.2.any fun y=>y.1 == p) with
  | none=>rw[q]at e;cases e
  | some z =>
   rw[q]at e
   have cF:z.1=d:=Option.some.inj e
   have hz:=mem_of_find?_eq_some q
   have aF:=find?_some q
   obtain⟨y,b6,bk⟩:=any_eq_true.mp aF
   have aL:=t.a z hz y b6
   rw[beq_iff_eq.mp bk,cF]at aL
   exact⟨aL,any_eq_true.mpr ⟨z,hz,by rw[cF];exact beq_self_eq_true d⟩⟩
 refine⟨fun v e=>?_,fun e=>?_⟩
 ·obtain⟨eH,d,aG,aL,bH,bS,ek⟩:=t.b _ v e
  have cu:eH=p:=by have:=Sum.inl.inj aG;omega
  subst cu
  refine⟨d,aL,bH,bS,fun aD=>?_,fun aD=>?_⟩
  ·obtain⟨z,hz,du,y,b6,c3⟩:=ek aD
   cases q:x.dT eH with
   | none =>
    unfold aq.dT at q
    have ni:x.aK.find? (fun z=>z.2.any fun y=>y.1 == eH)=none:=by
     cases w:x.aK.find? (fun z=>z.2.any fun y=>y.1 == eH) with
     | none=>rfl
     | some u=>rw[w]at q;cases q
    have:=find?_eq_none.mp ni z hz
    exact absurd (any_eq_true.mpr ⟨y,b6,by rw[c3];exact beq_self_eq_true eH⟩) this
   | some d' =>
    obtain⟨k1,_⟩:=key d' q
    rw[e,aL]at k1
    have:V.int d=V.int d':=Option.some.inj k1
    injection this with this
    rw[this]
  ·cases q:x.dT eH with
   | none=>rfl
   | some d' =>
    obtain⟨k1,k2⟩:=key d' q
    rw[e,aL]at k1
    have:V.int d=V.int d':=Option.some.inj k1
    injection this with this
    rw[this,k2]at aD
    cases aD
 ·cases q:x.dT p with
  | none=>rfl
  | some d =>
   rw[(key d q).1]at e
   cases e
theorem vP {n:Nat}(h:n≤1000):(n:Int).natAbs.log2<1920:=by
 refine Jm ?_
 rw[Int.natAbs_natCast]
 exact lt_of_le_of_lt h (lt_of_lt_of_le (by decide:1000<2 ^ 10) (Nat.pow_le_pow_right (by decide) (by decide)))
theorem MS:dP ["self","dealing","page","taker"] Al (cR D_):=d2
theorem X3 {bf aH cW cM c6 cV:Addr}(F:bU K "ask_free" "House.ask_free" D_ f fd) (T:iX K mg aH) (E:tf K mg cW cM c6 cV):bp P w K mg base (eb P w) 1 f fd Al (Dp bf aH c6):=by
 refine F.nP MS (fun vs H Q h7 h=>?_) (fun cz A outer s H vs Q h7 aE h=>?_)
 ·obtain⟨a,lo,pl,x,aT,d,p,rfl,_⟩:=h
  rfl
 obtain⟨a,lo,pl,x,aT,d,p,rfl,A,aa,aF,q⟩:=h
 obtain⟨dx,cc⟩:=A.b1
 have bq:=ht aE
 obtain⟨t1,d_⟩:=J3 (p:=p) A.jt
 refine⟨_,(bg (cJ (i:=3) MS.a3 rfl (Or.inl rfl) (U9 bq (fb (ah 0) rfl) (ah 2) (ah 1) ⟨rfl,rfl,rfl,rfl⟩)) (bl (c_ (oA (cX kD (ah 3) (ah 1) (cP _)) (uw (DQ bq (ah 3) (fb (ah 0) rfl)))) (bl (zB E.ace E.rE excBase_ValueError rfl (zu (mP 2000 bJ (mP 2000 (wt (ah 2)) (mP 2000 bJ (mP 2000 (wt (ah 3)) zR))))))) dZ))),?_⟩
 refine⟨_,rfl,a.h,aH,dx,_,_,rfl,cc,T.cl,T.C_,JI .., a.bB,rfl,.inl ⟨_,.inl A.kt⟩,_,rfl,_,rfl,_,fl.k (k:=Sum.inl ((p:Nat):Int)) A.kt,?_⟩
 cases e:dF aT (Sum.inl ((p:Nat):Int)) with
 | none =>
  rw[d_ e,if_pos (.inl rfl)]at q
  refine⟨_,rfl,_,rfl,rfl,_,rfl,nG rfl (dQ ?_)⟩
  exact q
 | some v =>
  obtain⟨d',rfl,h0,aj,az,ck⟩:=t1 v e
  refine⟨_,rfl,_,rfl,rfl,_,rfl,?_⟩
  by_cases d8:d'=d
  ·subst d8
   refine nG rfl (dQ ?_)
   cases aD:x.isOpen d' with
   | true=>rw[az aD,if_pos (.inr rfl)]at q;exact q
   | false=>rw[ck aD,if_pos (.inl rfl)]at q;exact q
  ·refine pW (fun z=>d8 (by injection z)) ?_
   have Ef:(dF (d6 pl) (Sum.inl d')).isSome=x.isOpen d':=A.dM.isOpen d'
   refine⟨_,rfl,_,rfl,a.h,aH,dx,_,_,rfl,cc,T.cl,T.qT,r5 .., a.pu,_,rfl,fl.k (k:=Sum.inl d') A.aF,_,rfl,?_⟩
   rw[Ef]
   cases aD:x.isOpen d' with
   | false =>
    rw[ck aD,if_pos (.inl rfl)]at q
    exact dQ q
   | true =>
    rw[az aD,if_neg (fun z=>z.elim (fun z=>nomatch z) fun z=>d8 (Option.some.inj z))]at q
    refine eB ?_
    have dj:d'.natAbs.log2<1920:=by
     have aG:d'=((d'.toNat:Nat):Int):=by omega
     rw[aG]
     exact vP (by omega)
    exact⟨_,rfl,(le_of_ble_eq_true rfl),_,rfl,_,rfl,vP aF,_,rfl,(le_trans (t6 (vP aF)) (by decide)),_,rfl,(le_of_ble_eq_true rfl),_,rfl,_,rfl,dj,_,rfl,(le_trans (t6 dj) (by decide)),fun _=>q⟩
def lu (log:List bD) (j p:Nat):Prop:=∃d o n,log[j]?=some (.put d p o n)
def p0 (ps ds:List Int) (log:List bD) (st:List Int) (k:Nat):Prop :=
 ∃d p o n,log[k]?=some (.put d p o n)∧(d∈st∨((∀j,k<j→¬lu log j p)∧ps[p]?≠ds[p]?))
def vf (ps ds:List Int) (log:List bD) (st:List Int) (k:Nat):Prop:=k≤log.length∧(∀j,j<k→¬p0 ps ds log st j)∧(k<log.length→p0 ps ds log st k)
theorem vf.uniq {ps ds:List Int}{log:List bD}{st:List Int}{k g5:Nat}(h:vf ps ds log st k) (h':vf ps ds log st g5):k=g5:=by
 obtain⟨a1,a2,jU⟩:=h
 obtain⟨eY,gh,k6⟩:=h'
 rcases Nat.lt_trichotomy k g5 with z | z | z
 ·exact absurd (jU (by omega)) (gh k z)
 ·exact z
 ·exact absurd (k6 (by omega)) (a2 g5 z)
theorem LS {log:List bD}{i p:Nat}{d:Int}(h:log[i]?=some (.fin d)):¬lu log i p:=fun ⟨_,_,_,e⟩=>by rw[h]at e;cases e
theorem Le {ps ds:List Int}{log:List bD}{st:List Int}{i:Nat}{d:Int}(h:log[i]?=some (.fin d)):¬p0 ps ds log st i:=fun ⟨_,_,_,_,e,_⟩=>by rw[h]at e;cases e
theorem K9 {log:List bD}{j p:Nat}(h:lu log j p):j<log.length:=by
 obtain⟨_,_,_,e⟩:=h
 exact (List.getElem?_eq_some_iff.mp e).1
def LF:dn:=fun vs H Q _=>∃(p d l s:Addr) (ps ds st:List Int) (xs:List V) (log:List bD),vs=[.ref p,.ref d,.ref l,.ref s]∧H p=some (.lst (ps.map V.int))∧H d=some (.lst (ds.map V.int))∧H l=some (.lst xs)∧H s=some (.lst (st.map V.int)) ∧
 hu H log xs∧(∀ln∈log,ln.ok ps.length)∧ps.length=ds.length∧log.length≤100000∧st.length≤1000∧∀(k:Nat) (af:ao),bx H af→vf ps ds log st k→Q (.int k) af
def LastOk (log:List bD) (kvs:List (Key × V)):Prop:=∀p k,lu log k p→∃j:Nat,dF kvs (Sum.inl (p:Int))=some (.int j)∧lu log j p∧∀hX,j<hX→¬lu log hX p
def LG:dn:=fun vs H Q _=>∃(l:Addr) (xs:List V) (log:List bD),vs=[.ref l]∧H l=some (.lst xs)∧hu H log xs∧log.length≤100000∧∀(r:Addr) (kvs:List (Key × V)) (af:ao),bx H af→af r=some (.bR kvs)→LastOk log kvs→Q (.ref r) af
theorem zP:dP ["log","places","place","line"] ["log"] (cR Dy):=d2
def pP (log:List bD) (i:Nat) (kvs:List (Key × V)):Prop:=∀p k,k<i→lu log k p→∃j:Nat,j<i∧dF kvs (Sum.inl (p:Int))=some (.int j)∧lu log j p∧∀hX,j<hX→hX<i→¬lu log hX p
theorem pP.fin {log:List bD}{i:Nat}{kvs:List (Key × V)}{d:Int}(h:pP log i kvs) (e:log[i]?=some (.fin d)):pP log (i+1) kvs:=fun p k aQ aF=>by
 have aaW:k≠i:=fun z=>by subst z;exact LS e aF
 obtain⟨j,aj,az,ck,dv⟩:=h p k (by omega) aF
 refine⟨j,by omega,az,ck,fun hX a b=>?_⟩
 by_cases z:hX=i
 ·rw[z];exact LS e
 ·exact dv hX a (by omega)
theorem pP.put {log:List bD}{i p:Nat}{kvs:List (Key × V)}{d o n:Int}(h:pP log i kvs) (e:log[i]?=some (.put d p o n)):pP log (i+1) (putK kvs (Sum.inl (p:Int)) (.int (i:Nat))):=fun eH k aQ aF=>by
 by_cases cu:eH=p
 ·subst cu
  refine⟨i,by omega,by rw[vW,if_pos rfl],⟨d,o,n,e⟩,fun hX a b=>by omega⟩
 ·have aaW:k≠i:=fun z=>by
   subst z
   obtain⟨_,_,_,aL⟩:=aF
   rw[e]at aL
   cases aL
   exact cu rfl
  obtain⟨j,aj,az,ck,dv⟩:=h eH k (by omega) aF
  have rC:¬((Sum.inl (eH:Int):Key)=Sum.inl (p:Int)):=fun z=>cu (by have:=Sum.inl.inj z;omega)
  refine⟨j,by omega,by rw[vW,if_neg rC];exact az,ck,fun hX a b=>?_⟩
  by_cases z:hX=i
  ·rw[z]
   rintro⟨_,_,_,aL⟩
   rw[e]at aL
   cases aL
   exact cu rfl
  ·exact dv hX a (by omega)
theorem pP.done {log:List bD}{kvs:List (Key × V)}(h:pP log log.length kvs):LastOk log kvs:=fun p k aF=>by
 obtain⟨j,_,az,ck,dv⟩:=h p k (K9 aF) aF
 exact⟨j,az,ck,fun hX a b=>dv hX a (K9 b) b⟩
theorem V9 (F:bU K "last_put_places" "last_put_places" Dy f fd) (B:ff mg):bp P w K mg base bW 1 f fd ["log"] LG:=by
 refine F.ok zP (fun vs H Q E h=>?_) (fun cz A outer s H vs Q E aE h=>?_)
 ·obtain⟨l,xs,log,rfl,_⟩:=h
  rfl
 obtain⟨l,xs,log,rfl,aC,eX,nc,q⟩:=h
 have bq:=ht aE
 have g4:=eX.1
 refine⟨_,(bg (cJ (i:=1) zP.a3 rfl (Or.inl rfl) v5) (bg (hM PassesOwn.never rfl (C7 rfl B.va (au (ah 0) aN)) (r_ rfl (kA (fQ (i:=2) zP.a3 rfl (Or.inl rfl)) (kA (fQ (i:=3) zP.a3 rfl (Or.inl rfl)) r3))) (bl (c_ (cX el (bK cC (ah 3) aZ (fun _ _=>rfl)) bJ (cP _)) (bl (mO bq (ah 1) (bK cC (ah 3) aZ (fun _ _=>rfl)) (ah 2) rfl)) dZ))) (bl (dH (ah 1))))),?_⟩
 intro r m6
 refine⟨_,rfl,l,rfl,⟨xs,aM.of (bV m6 _ _ _ aC)⟩,Kr (K:=K) (a:=l) (xs:=xs) (fun i σ av=>∃(b7 dC:Option V) (kvs:List (Key × V)),σ=[some (.ref l),some (.ref r),b7,dC]∧bx H av∧av r=some (.bR kvs)∧kvs.length≤i∧pP log i kvs)
  ⟨none,none,[],rfl,bV m6 _,aV,le_refl _,fun p k aQ _=>absurd aQ (not_lt_zero _)⟩ (fun i σ av _ ⟨_,_,_,_,s2,_⟩=>aM.of (s2 _ _ aC)) ?_ ?_⟩
 ·rintro i x σ av pr aP ⟨b7,dC,kvs,rfl,s2,ew,RM,qq⟩ A9
  have iQ:i<xs.length:=(List.getElem?_eq_some_iff.mp aP).1
  obtain⟨ln,fS,gX⟩:=eX.get aP
  have s3:=s2.trans (bV A9 (.tup [.int (i:Nat),x]))
  have jj:=gX.mono s3.fy
  have Gb:(upd av pr (.tup [.int (i:Nat),x])) r=some (.bR kvs):=by rw[aB (ct ew A9)];exact ew
  have Q3:(upd av pr (.tup [.int (i:Nat),x])) pr=some (.tup [.int (i:Nat),x]):=aV
  generalize upd av pr (.tup [.int (i:Nat),x])=aS at s3 jj Gb Q3 ⊢
  refine⟨pr,_,rfl,aO.of Q3,rfl,_,_,rfl,_,_,rfl,rfl,?_⟩
  cases ln with
  | fin d =>
   obtain⟨c,rfl,ai⟩:=jj
   refine⟨_,rfl,c,_,_,_,rfl,rfl,aO.of ai,rfl,rfl,_,rfl,bC uB ?_⟩
   exact⟨_,_,kvs,rfl,s3,Gb,by omega,qq.fin fS⟩
  | put d p o n =>
   obtain⟨c,rfl,ai⟩:=jj
   refine⟨_,rfl,c,_,_,_,rfl,rfl,aO.of ai,rfl,rfl,_,rfl,en rfl ?_⟩
   refine⟨_,rfl,_,rfl,_,rfl,c,_,_,_,rfl,rfl,aO.of ai,rfl,r,_,rfl,oG.k (k:=Sum.inl (p:Int)) Gb (jB (by omega)),?_⟩
   have:=qH kvs (Sum.inl (p:Int):Key) (V.int (i:Nat))
   exact⟨_,_,_,rfl,s3.hr m6,aV,by omega,qq.put fS⟩
 ·rintro σ av ⟨b7,dC,kvs,rfl,s2,ew,RM,qq⟩
  rw[←g4]at qq
  exact⟨_,rfl,q r kvs av s2 ew qq.done⟩
theorem r7:dP ["pages","desk","log","dealings","unended","last_places","place","line","page","uncarried"] Ak (cR Du):=d2
theorem Wb {g:Addr}{jw:FuncData}(F:bU K "needed_from" "needed_from" Du f fd) (B:ff mg) (HX:bp P w K mg base bW 1 g jw ["log"] LG) (HJ:Binds K jw ["log"] []) (acw:keepIn K (.ref g)=true) (Hi:mg "last_put_places"=some (.ref g)) :
  bp P w K mg base bW 2 f fd Ak LF:=by
 refine F.ok r7 (fun vs H Q E h=>?_) (fun cz A outer s H vs Q E aE h=>?_)
 ·obtain⟨p,d,l,s,ps,ds,st,xs,log,rfl,_⟩:=h
  rfl
 obtain⟨p,d,l,s0,ps,ds,st,xs,log,rfl,aF,hd,aC,aJ,eX,bM,ad3,nc,zs,q⟩:=h
 have g4:=eX.1
 have bq:=ht aE
 refine⟨_,(bg (cJ (i:=4) r7.a3 rfl (Or.inl rfl) (jd (Je aE.hd) rfl B.Rc MG (au (zM [] ["dealing"] (ic.plain (by decide +kernel) rfl rfl) rfl (jf (ah 3)) (fun C s1 H1 bG=>(gH (au (ah 0) (au lp aN))))) aN))) (bg (cJ (i:=5) r7.a3 rfl (Or.inl rfl) (dE HX (cj aE) rfl Hi acw HJ .nil cU (au (ah 2) aN))) (bg (hM PassesOwn.never rfl (C7 rfl B.va (au (ah 2) aN)) (r_ rfl (kA (fQ (i:=6) r7.a3 rfl (Or.inl rfl)) (kA (fQ (i:=7) r7.a3 rfl (Or.inl rfl)) r3))) (bl (c_ (cX el (bK cC (ah 7) aZ (fun _ _=>rfl)) bJ (cP _)) (bg (cJ (i:=8) r7.a3 rfl (Or.inl rfl) (bK cC (ah 7) aZ (fun _ _=>rfl))) (bg (cJ (i:=9) r7.a3 rfl (Or.inl rfl) (DP (uf el (e1 bq (ah 5) (ah 8) (fun _ _=>rfl)) (ah 6) (cP _)) (DO (uf kD (bK fa (ah 0) (ah 8) (fun _ _=>rfl)) (bK fa (ah 1) (ah 8) (fun _ _=>rfl)) (cP _))))) (bl (c_ (mS (uw (DQ bq (bK cC (ah 7) aZ (fun _ _=>rfl)) (ah 4))) (jZ (ah 9))) (bl (dH (ah 6))) dZ)))) dZ))) (bl (dH (es gU rfl B.len PySem.boot_len (au (ah 2) aN))))))),?_⟩
 refine⟨_,rfl,s0,rfl,⟨_,aM.of aJ⟩,fun acc de=>TQ (K:=K) (w:=.b0 true) aJ de (by omega) (fun z aS k aQ=>⟨_,rfl,c8,aQ⟩) fun ys H1 s1 mX kL=>?_⟩
 refine⟨acc,ys,st.map fun n=>((Sum.inl n:Key),V.b0 true),rfl,mX,fun j x bh=>?_,by rw[length_map];exact kL.1,by rw[←kL.1];omega,fun u hF=>?_⟩
 ·obtain⟨z,aj,az⟩:=kL.get bh
  exact⟨_,by rw[getElem?_map,aj];rfl,az⟩
 have nW:∀z:Int,(dF (putAll [] (st.map fun n=>((Sum.inl n:Key),V.b0 true))) (Sum.inl z:Key)).isSome=decide (z∈st):=fun z=>by
  rw[putAll_has,Cx]
  simp
 have s2:=s1.trans (bV hF (.bR (putAll [] (st.map fun n=>((Sum.inl n:Key),V.b0 true)))))
 have iF:(upd H1 u (.bR (putAll [] (st.map fun n=>((Sum.inl n:Key),V.b0 true))))) u=some (.bR (putAll [] (st.map fun n=>((Sum.inl n:Key),V.b0 true)))):=aV
 generalize (putAll [] (st.map fun n=>((Sum.inl n:Key),V.b0 true)))=us at nW s2 iF ⊢
 generalize upd H1 u (.bR us)=av at s2 iF ⊢
 clear s1 mX kL de hF
 refine⟨_,rfl,l,xs,log,rfl,s2 _ _ aC,eX.mono fun a x h=>h.mono s2.fy,nc,fun r kvs aS s3 ew X_=>?_⟩
 have eZ:=s2.trans s3
 have Q0:=s3 _ _ iF
 refine⟨_,rfl,l,rfl,⟨xs,aM.of (eZ _ _ aC)⟩,Kr (K:=K) (a:=l) (xs:=xs) (fun i σ cB=>∃e3 ed eg hj:Option V,σ=[some (.ref p),some (.ref d),some (.ref l),some (.ref s0),some (.ref u),some (.ref r),e3,ed,eg,hj]∧bx aS cB∧∀j,j<i→¬p0 ps ds log st j)
  ⟨none,none,none,none,rfl,bx.refl _,fun j cD=>absurd cD (not_lt_zero _)⟩ (fun i σ cB _ ⟨_,_,_,_,_,s4,_⟩=>aM.of (s4 _ _ (eZ _ _ aC))) ?_ ?_⟩
 ·rintro i x σ cB pr aP ⟨e3,ed,eg,hj,rfl,s4,aR⟩ A9
  have iQ:i<xs.length:=(List.getElem?_eq_some_iff.mp aP).1
  obtain⟨ln,fS,gX⟩:=eX.get aP
  have aQ:=bM ln (mem_of_getElem? fS)
  have s5:=s4.trans (bV A9 (.tup [.int (i:Nat),x]))
  have Q2:(upd cB pr (.tup [.int (i:Nat),x])) pr=some (.tup [.int (i:Nat),x]):=aV
  generalize upd cB pr (.tup [.int (i:Nat),x])=dr at s5 Q2 ⊢
  have kq:=eZ.trans s5
  have jj:=gX.mono kq.fy
  have next:¬p0 ps ds log st i→∀j,j<i+1→¬p0 ps ds log st j:=fun h j cD=>by
   by_cases e:j=i
   ·rw[e];exact h
   ·exact aR j (by omega)
  refine⟨pr,_,rfl,aO.of Q2,rfl,_,_,rfl,_,_,rfl,rfl,?_⟩
  cases ln with
  | fin dd =>
   obtain⟨c,rfl,ai⟩:=jj
   refine⟨_,rfl,c,_,_,_,rfl,rfl,aO.of ai,rfl,rfl,_,rfl,bC uB ?_⟩
   exact⟨_,_,_,_,rfl,s5,next (Le fS)⟩
  | put dd pp BA nn =>
   obtain⟨c,rfl,ai⟩:=jj
   have aaE:pp<ps.length:=aQ
   obtain⟨du,a1,eY⟩:=ll (ns:=ps) (k:=((pp:Nat):Int)) (by omega) (by omega)
   obtain⟨dK,a2,gh⟩:=ll (ns:=ds) (k:=((pp:Nat):Int)) (by omega) (by omega)
   rw[Int.toNat_natCast]at a1 a2
   obtain⟨j,j1,j2,R7⟩:=X_ pp i ⟨dd,BA,nn,fS⟩
   have w2:fl dr r (.int (pp:Nat)) (some (.int (j:Nat))):=by
    have h0:=fl.k (k:=Sum.inl ((pp:Nat):Int)) (s5 _ _ ew)
    rw[j1]at h0
    exact h0
   have Li:j=i↔∀hX,i<hX→¬lu log hX pp:=by
    constructor
    ·intro e;rw[←e];exact R7
    ·intro h
     rcases Nat.lt_trichotomy j i with z | z | z
     ·exact absurd ⟨dd,BA,nn,fS⟩ (R7 i z)
     ·exact z
     ·exact absurd j2 (h j z)
   refine⟨_,rfl,c,_,_,_,rfl,rfl,aO.of ai,rfl,rfl,_,rfl,en rfl ?_⟩
   refine⟨_,rfl,c,_,_,_,rfl,rfl,aO.of ai,rfl,?_⟩
   have join:∀b:Bool,(b=true↔((∀hX,i<hX→¬lu log hX pp)∧ps[pp]?≠ds[pp]?)) →
     (b=true∨dd∈st↔p0 ps ds log st i):=fun b aa=>by
    constructor
    ·rintro (z | z)
     ·exact⟨dd,pp,BA,nn,fS,.inr (aa.mp z)⟩
     ·exact⟨dd,pp,BA,nn,fS,.inl z⟩
    ·rintro⟨e9,eK,b7,dI,aL,aaK⟩
     rw[fS]at aL
     cases aL
     rcases aaK with z | z
     ·exact .inr z
     ·exact .inl (aa.mpr z)
   have ZQ:ps[pp]?≠ds[pp]?↔du≠dK:=by
    rw[a1,a2]
    exact⟨fun h e=>h (by rw[e]),fun h e=>h (Option.some.inj e)⟩
   refine⟨_,rfl,_,rfl,r,_,rfl,w2,_,rfl,rfl,_,rfl,?_⟩
   refine gn (fun cH=>?_) (fun cH=>?_)
   ·have abp:j=i:=by
     have e:V.int (j:Nat)=V.int (i:Nat):=of_decide_eq_true cH
     injection e with e
     omega
    refine⟨_,rfl,_,rfl,p,_,_,_,rfl,rfl,aM.of (kq _ _ aF),eY,_,rfl,_,rfl,d,_,_,_,rfl,rfl,aM.of (kq _ _ hd),gh,rfl,?_⟩
    have aa:=join (!decide (V.int du=V.int dK)) (by
     rw[ZQ]
     constructor
     ·intro h
      refine⟨Li.mp abp,fun e=>?_⟩
      rw[e]at h
      simp at h
     ·rintro⟨_,h⟩
      have:¬V.int du=V.int dK:=fun e=>h (by injection e)
      simp[this])
    generalize (!decide (V.int du=V.int dK))=b at aa ⊢
    refine⟨_,rfl,c,_,_,_,rfl,rfl,aO.of ai,rfl,_,rfl,u,_,rfl,fl.k (k:=Sum.inl dd) (s5 _ _ Q0),_,rfl,?_⟩
    rw[nW dd]
    refine gn (fun dh=>?_) (fun dh=>?_)
    ·refine eB ?_
     exact⟨_,rfl,q i dr kq ⟨by omega,aR,fun _=>aa.mp (.inr (of_decide_eq_true dh))⟩⟩
    ·have xq:¬dd∈st:=fun h=>dh (decide_eq_true h)
     refine⟨_,rfl,_,rfl,gn (fun e_=>?_) (fun e_=>?_)⟩
     ·exact⟨_,rfl,q i dr kq ⟨by omega,aR,fun _=>aa.mp (.inl e_)⟩⟩
     ·refine⟨_,_,_,_,rfl,s5,next fun h=>?_⟩
      rcases aa.mpr h with z | z
      ·exact e_ z
      ·exact xq z
   ·have Z2:¬j=i:=fun e=>cH (by rw[e];exact decide_eq_true rfl)
    have aa:=join false ⟨(fun z=>nomatch z),fun z=>absurd (Li.mpr z.1) Z2⟩
    generalize false=b at aa ⊢
    refine⟨_,rfl,c,_,_,_,rfl,rfl,aO.of ai,rfl,_,rfl,u,_,rfl,fl.k (k:=Sum.inl dd) (s5 _ _ Q0),_,rfl,?_⟩
    rw[nW dd]
    refine gn (fun dh=>?_) (fun dh=>?_)
    ·refine eB ?_
     exact⟨_,rfl,q i dr kq ⟨by omega,aR,fun _=>aa.mp (.inr (of_decide_eq_true dh))⟩⟩
    ·have xq:¬dd∈st:=fun h=>dh (decide_eq_true h)
     refine⟨_,rfl,_,rfl,gn (fun e_=>?_) (fun e_=>?_)⟩
     ·exact⟨_,rfl,q i dr kq ⟨by omega,aR,fun _=>aa.mp (.inl e_)⟩⟩
     ·refine⟨_,_,_,_,rfl,s5,next fun h=>?_⟩
      rcases aa.mpr h with z | z
      ·exact e_ z
      ·exact xq z
 ·rintro σ cB ⟨e3,ed,eg,hj,rfl,s4,aR⟩
  refine⟨_,rfl,l,xs,rfl,.inl (aM.of (s4 _ _ (eZ _ _ aC))),?_⟩
  rw[←g4]at aR ⊢
  exact q log.length cB (eZ.trans s4) ⟨le_refl _,aR,fun h=>absurd h (lt_irrefl _)⟩
theorem zv {ps ds:List Int}{log:List bD}{st:List Int}{ln:bD}{k:Nat}:p0 ps ds (ln::log) st (k+1)↔p0 ps ds log st k:=by
 have pc:∀j p,lu (ln::log) (j+1) p↔lu log j p:=fun j p=>Iff.rfl
 constructor
 ·rintro⟨d,p,o,n,e,h⟩
  refine⟨d,p,o,n,e,h.imp id fun h=>⟨fun j cD=>?_,h.2⟩⟩
  exact fun z=>h.1 (j+1) (by omega) ((pc j p).mpr z)
 ·rintro⟨d,p,o,n,e,h⟩
  refine⟨d,p,o,n,e,h.imp id fun h=>⟨fun j cD=>?_,h.2⟩⟩
  cases j with
  | zero=>omega
  | succ j=>exact fun z=>h.1 j (by omega) ((pc j p).mp z)
theorem C9 (ps ds st:List Int) (op:Int→Bool) (aD:∀d,op d=true↔d∈st):∀log:List bD,vf ps ds log st (ez ps ds op log)
 | []=>⟨le_refl _,fun j cD=>absurd cD (not_lt_zero _),fun h=>absurd h (lt_irrefl _)⟩
 | .fin d::r=>by
  obtain⟨aj,az,ck⟩:=C9 ps ds st op aD r
  refine⟨Nat.succ_le_succ aj,fun j cD=>?_,fun h=>?_⟩
  ·cases j with
   | zero=>exact Le (d:=d) rfl
   | succ j=>exact fun z=>az j (Nat.lt_of_succ_lt_succ cD) (zv.mp z)
  ·exact zv.mpr (ck (Nat.lt_of_succ_lt_succ h))
 | .put d p o n::r=>by
  have later:r.any (i0 p)=false↔∀j,0<j→¬lu (.put d p o n::r) j p:=by
   constructor
   ·intro h j cD z
    cases j with
    | zero=>omega
    | succ j =>
     obtain⟨e9,b7,dI,e⟩:=z
     have cF:r[j]?=some (.put e9 p b7 dI):=e
     have:r.any (i0 p)=true:=any_eq_true.mpr ⟨_,mem_of_getElem? cF,decide_eq_true rfl⟩
     rw[h]at this
     cases this
   ·intro h
    cases q:r.any (i0 p) with
    | false=>rfl
    | true =>
     obtain⟨ln,hm,aF⟩:=any_eq_true.mp q
     obtain⟨j,cD⟩:=List.mem_iff_getElem?.mp hm
     cases ln with
     | fin e9=>cases aF
     | put e9 eK b7 dI =>
      have e:eK=p:=of_decide_eq_true aF
      subst e
      exact absurd ⟨e9,b7,dI,cD⟩ (h (j+1) (Nat.succ_pos j))
  show vf ps ds _ st (if op d=true∨(r.any (i0 p)=false∧ps[p]?≠ds[p]?) then 0 else ez ps ds op r+1)
  by_cases c:op d=true∨(r.any (i0 p)=false∧ps[p]?≠ds[p]?)
  ·rw[if_pos c]
   refine⟨zero_le _,fun j cD=>absurd cD (not_lt_zero _),fun _=>⟨d,p,o,n,rfl,c.imp (aD d).mp fun z=>⟨later.mp z.1,z.2⟩⟩⟩
  ·rw[if_neg c]
   obtain⟨aj,az,ck⟩:=C9 ps ds st op aD r
   refine⟨Nat.succ_le_succ aj,fun j cD=>?_,fun h=>zv.mpr (ck (Nat.lt_of_succ_lt_succ h))⟩
   cases j with
   | zero =>
    rintro⟨e9,eK,b7,dI,e,h⟩
    cases e
    exact c (h.imp (aD d).mpr fun z=>⟨later.mpr z.1,z.2⟩)
   | succ j=>exact fun z=>az j (Nat.lt_of_succ_lt_succ cD) (zv.mp z)
def z3 (bf aH:Addr):dn:=fun vs H Q _=>∃(a:eh) (lo:Addr) (pl:List (Int × Addr)) (x:aq) (aT:List (Key × V)),vs=[.ref a.h]∧cT bf aH H a lo pl x aT∧x.fits 1∧pl.length≤1000 ∧
 ∀lo' af,cT bf aH af a lo' pl x.dW aT→eN a lo pl lo' pl H af→Q .cS af
def zJ (bf aH cM:Addr):dn:=fun vs H Q E=>∃(a:eh) (lo:Addr) (pl:List (Int × Addr)) (x:aq) (aT:List (Key × V)) (p:Int),vs=[.ref a.h,.int p]∧cT bf aH H a lo pl x aT∧p.natAbs.log2<1920∧x.fits 1 ∧
 (if p<0∨(x.ay.length:Int)≤p then E (.ref cM) none H else ∀lo' af,cT bf aH af a lo' pl (x.d0 p.toNat) aT→eN a lo pl lo' pl H af→Q .cS af)
def CT (bf aH:Addr):dn:=fun vs H Q _=>∃(a:eh) (lo:Addr) (pl:List (Int × Addr)) (x:aq) (aT:List (Key × V)),vs=[.ref a.h]∧cT bf aH H a lo pl x aT∧x.ay.length≤1000∧x.fits (x.ay.length+1)∧pl.length≤1000 ∧
 ∀lo' af,cT bf aH af a lo' pl x.gk aT→eN a lo pl lo' pl H af→Q .cS af
def zO (bf aH cV:Addr):dn:=fun vs H Q E=>∃(a:eh) (lo:Addr) (pl:List (Int × Addr)) (x:aq) (aT:List (Key × V)) (m:Nat),vs=[.ref a.h,.int (m:Nat)]∧cT bf aH H a lo pl x aT∧m≤10∧x.ay.length≤1000∧x.fits (x.ay.length+1)∧pl.length≤1000 ∧
 ∀lo' af,cT bf aH af a lo' pl (x.full (m:Nat)).1 aT→eN a lo pl lo' pl H af→if (x.full (m:Nat)).2=true then E (.ref cV) none af else Q .cS af
theorem Mc:dP ["self","many"] lA (cR Ew):=d2
theorem W5 {bf aH:Addr}{g6:Addr}{h3:FuncData}{jR:Addr}{lT:FuncData}(F:bU K "cut" "House.cut" Ew f fd) (B:ff mg) (T:iX K mg aH) (lW:pG K mg bf) (k9:bp P w K mg base bW 2 g6 h3 jl (uI bf aH)) (k4:Binds K h3 jl []) (kV:Meth K aH "make_stroke" g6)
  (qB:bp P w K mg base bW 2 jR lT Ak LF) (qw:Binds K lT Ak []) (yD:keepIn K (.ref jR)=true) (mN:mg "needed_from"=some (.ref jR)):bp P w K mg base bW 3 f fd lA (z3 bf aH):=by
 refine F.ok Mc (fun vs H Q E h=>?_) (fun cz A outer s H vs Q E aE h=>?_)
 ·obtain⟨a,lo,pl,x,aT,rfl,_⟩:=h
  rfl
 obtain⟨a,lo,pl,x,aT,rfl,A,iL,ig,q⟩:=h
 obtain⟨dx,cc⟩:=A.b1
 obtain⟨dy,b7⟩:=A.co
 obtain⟨xs,aG,aL⟩:=A.aC
 refine⟨_,(bg (cJ (i:=1) Mc.a3 rfl (Or.inl rfl) (dE qB (cj aE) rfl mN yD qw .nil cU (au (fb (fb (ah 0) rfl) rfl) (au (fb (ah 0) rfl) (au (fb (fb (ah 0) rfl) rfl) (au (jd (Cj aE.hd) rfl B.lst ji (au (fb (ah 0) rfl) aN)) aN)))))) (bl (c_ (cX uC (ah 1) aZ (cP _)) (bl (dD (g_ (ah 0) T.cl kV k9 (cj aE) k4 .nil cU (au (gH (au bJ (au (ah 1) aN))) aN)))) dZ))),?_⟩
 refine⟨_,rfl,a.h,aH,dx,_,_,rfl,cc,T.cl,T.uh,vR .., a.c,bf,dy,_,_,rfl,b7,lW.cl,lW.yw,zf _ _,_,rfl,a.h,aH,dx,_,_,rfl,cc,T.cl,T.oD,pK .., _,rfl,a.h,aH,dx,_,_,rfl,cc,T.cl,T.uh,vR .., a.c,bf,dy,_,_,rfl,b7,lW.cl,lW.tv,vV _ _,_,rfl,a.h,aH,dx,_,_,rfl,cc,T.cl,T.qT,r5 .., a.pu,_,rfl,A.aF,fun l aC=>?_⟩
 have gx:(d6 pl).map (fun z=>eu z.1)=(pl.map (·.1)).map V.int:=C6 pl
 have s1:=bV aC (.lst ((d6 pl).map fun z=>eu z.1))
 have da:(upd H l (.lst ((d6 pl).map fun z=>eu z.1))) l=some (.lst ((pl.map (·.1)).map V.int)):=by rw[aV,gx]
 generalize upd H l (.lst ((d6 pl).map fun z=>eu z.1))=H1 at s1 da ⊢
 have b5:=A.same s1
 have nT:∀d,x.isOpen d=true↔d∈pl.map (·.1):=fun d=>by
  rw[A.dM.e6]
  unfold aq.isOpen
  rw[any_eq_true,mem_map]
  constructor
  ·rintro⟨z,hz,e⟩;exact⟨z,hz,beq_iff_eq.mp e⟩
  ·rintro⟨z,hz,e⟩;exact⟨z,hz,by rw[e];exact beq_self_eq_true d⟩
 refine⟨a.ce,a.ak,lo,l,x.cg,x.ay,pl.map (·.1),xs,x.log,rfl,b5.ai,b5.hd,s1 _ _ aG,da,aL.mono fun b y h=>h.mono s1.fy,fun ln h=>by rw[A.dM.cd];exact iL.2.2 ln h,A.dM.cd,by have:=iL.2.1;omega,by rw[length_map];exact ig,fun k av s2 aQ=>?_⟩
 have abo:k=ez x.cg x.ay x.isOpen x.log:=aQ.uniq (C9 _ _ _ _ nT _)
 subst abo
 have bA:=b5.same s2
 obtain⟨jm,hb⟩:=bA.b1
 refine⟨_,rfl,_,_,rfl,rfl,_,rfl,gn (fun cH=>?_) (fun cH=>?_)⟩
 ·have dh:(0:Int)<((ez x.cg x.ay x.isOpen x.log:Nat):Int):=of_decide_eq_true cH
  refine⟨_,rfl,a.h,jm,_,rfl,hb,(by kernel_rfl),_,rfl,c8,fun t bF=>?_⟩
  have s3:=bV bF (.tup [.str "cut",.int ((ez x.cg x.ay x.isOpen x.log:Nat):Int)])
  refine⟨a,lo,pl,x,aT,_,.cut (ez x.cg x.ay x.isOpen x.log),rfl,bA.same s3,K8 aV,trivial,iL,fun lo' cB dX gs=>?_⟩
  have hA:x.dW=x.dc (.cut (ez x.cg x.ay x.isOpen x.log)):=by
   unfold aq.dW
   rw[if_pos (by omega)]
  rw[←hA]at dX
  exact q lo' cB dX ((s1.trans (s2.trans s3)).moves.trans gs)
 ·have dh:¬(0:Int)<((ez x.cg x.ay x.isOpen x.log:Nat):Int):=fun z=>cH (decide_eq_true z)
  have hA:x.dW=x:=by
   unfold aq.dW
   rw[if_neg (by omega)]
  rw[hA]at q
  exact q lo av bA (s1.trans s2).moves
theorem VW:dP ie ie (cR DE):=d2
theorem Vq {bf aH cM:Addr}{g6:Addr}{h3:FuncData}{h2:Addr}{iT:FuncData}(F:bU K "carry" "House.carry" DE f fd) (T:iX K mg aH) (lW:pG K mg bf) (k9:bp P w K mg base bW 2 g6 h3 jl (uI bf aH)) (k4:Binds K h3 jl []) (kV:Meth K aH "make_stroke" g6)
  (mE:bp P w K mg base (eb P w) 1 h2 iT ie (wj bf aH cM)) (mC:Binds K iT ie []) (kk:Meth K aH "ask_page" h2):bp P w K mg base (eb P w) 3 f fd ie (zJ bf aH cM):=by
 refine F.nP VW (fun vs H Q E h=>?_) (fun cz A outer s H vs Q E aE h=>?_)
 ·obtain⟨a,lo,pl,x,aT,p,rfl,_⟩:=h
  rfl
 obtain⟨a,lo,pl,x,aT,p,rfl,A,kM,iL,q⟩:=h
 obtain⟨dx,cc⟩:=A.b1
 obtain⟨dy,b7⟩:=A.co
 refine⟨_,(bg (dD (g_ (ah 0) T.cl kk mE (cj aE) mC .nil (j3 fun _ _ z=>z) (au (ah 1) aN))) (bl (c_ (cX kD (bK fa (fb (fb (ah 0) rfl) rfl) (ah 1) (fun _ _=>rfl)) (bK fa (fb (ah 0) rfl) (ah 1) (fun _ _=>rfl)) (cP _)) (bl (dD (g_ (ah 0) T.cl kV k9 (cj aE) k4 .nil cU (au (gH (au bJ (au (ah 1) (au (bK fa (fb (ah 0) rfl) (ah 1) (fun _ _=>rfl)) aN)))) aN)))) dZ))),?_⟩
 refine⟨_,rfl,a.h,dx,_,rfl,cc,(by kernel_rfl),_,rfl,a,lo,pl,x,aT,p,rfl,A,kM,?_⟩
 by_cases c:p<0∨(x.ay.length:Int)≤p
 ·rw[if_pos c]at q ⊢
  exact q
 rw[if_neg c]at q ⊢
 have aF:p.toNat<x.ay.length:=by omega
 have cu:p=((p.toNat:Nat):Int):=by omega
 obtain⟨du,c3,fh⟩:=A.dM.atC aF
 obtain⟨dK,di,eG⟩:=A.dM.rr aF
 rw[←cu]at fh eG
 have gd:x.ay.getD p.toNat 0=dK:=by rw[getD_eq_getElem?_getD,di];rfl
 refine⟨_,rfl,a.h,aH,dx,_,_,rfl,cc,T.cl,T.uh,vR .., a.c,bf,dy,_,_,rfl,b7,lW.cl,lW.yw,zf _ _,_,rfl,a.ce,_,_,_,rfl,rfl,aM.of A.ai,fh,_,rfl,a.h,aH,dx,_,_,rfl,cc,T.cl,T.oD,pK .., _,rfl,a.ak,_,_,_,rfl,rfl,aM.of A.hd,eG,rfl,_,rfl,?_⟩
 by_cases e:du=dK
 ·subst e
  refine nG rfl ?_
  have hA:x.d0 p.toNat=x:=by
   unfold aq.d0
   rw[if_pos (c3.trans di.symm)]
  rw[hA]at q
  exact q lo H A (eN.refl ..)
 ·refine pW (fun z=>e (by injection z)) ?_
  refine⟨_,rfl,a.h,dx,_,rfl,cc,(by kernel_rfl),_,rfl,_,rfl,a.h,aH,dx,_,_,rfl,cc,T.cl,T.oD,pK .., _,rfl,a.ak,_,_,_,rfl,rfl,aM.of A.hd,eG,c8,fun t bF=>?_⟩
  have s1:=bV bF (.tup [.str "page",.int p,.int dK])
  have aX:Rep (upd H t (.tup [.str "page",.int p,.int dK])) (a4.dm p.toNat dK).D (.ref t):=Kc (by rw[aV,←cu])
  refine⟨a,lo,pl,x,aT,_,.dm p.toNat dK,rfl,A.same s1,aX,aF,iL,fun lo' av bA cy=>?_⟩
  have hA:x.d0 p.toNat=x.dc (.dm p.toNat dK):=by
   unfold aq.d0
   rw[if_neg (by rw[c3,di];exact fun z=>e (Option.some.inj z)),gd]
  rw[←hA]at bA
  exact q lo' av bA (s1.moves.trans cy)
theorem MR:dP ie lA (cR Dw):=d2
theorem XW {bf aH cM:Addr}{jS:Addr}{lU:FuncData}{jP:Addr}{lR:FuncData}(F:bU K "make_room" "House.make_room" Dw f fd) (B:ff mg) (T:iX K mg aH) (qC:bp P w K mg base (eb P w) 3 jS lU ie (zJ bf aH cM)) (qx:Binds K lU ie []) (ql:Meth K aH "carry" jS)
  (pv:bp P w K mg base bW 3 jP lR lA (z3 bf aH)) (pd:Binds K lR lA []) (o8:Meth K aH "cut" jP):bp P w K mg base bW 4 f fd lA (CT bf aH):=by
 refine F.ok MR (fun vs H Q E h=>?_) (fun cz A outer s H vs Q E aE h=>?_)
 ·obtain⟨a,lo,pl,x,aT,rfl,_⟩:=h
  rfl
 obtain⟨a,lo,pl,x,aT,rfl,A,hd,iL,ig,q⟩:=h
 obtain⟨dx,cc⟩:=A.b1
 have ld:(x.ay.map V.int).length=x.ay.length:=length_map _
 refine⟨_,(bg (hM PassesOwn.never rfl (pF rfl B.i2 (au (es gU rfl B.len PySem.boot_len (au (fb (ah 0) rfl) aN)) aN)) (fQ (i:=1) MR.a3 rfl (Or.inl rfl)) (bl (dD (g_ (ah 0) T.cl ql qC (cj aE) qx .nil WW (au (ah 1) aN))))) (bl (dD (zE (ah 0) T.cl o8 pv (cj aE) pd .nil cU)))),?_⟩
 refine⟨_,rfl,a.h,aH,dx,_,_,rfl,cc,T.cl,T.oD,pK .., a.ak,_,rfl,.inl (aM.of A.hd),_,rfl,by omega,by omega,rY (fun i σ av=>∃(lo1:Addr) (o:Option V),σ=[some (.ref a.h),o]∧cT bf aH av a lo1 pl (x.e2 i) aT∧eN a lo pl lo1 pl H av)
  ⟨lo,none,rfl,A,eN.refl ..⟩ ?_ ?_⟩
 ·rintro i σ av aP ⟨lo1,o,rfl,bA,cy⟩
  have iQ:i<x.ay.length:=by omega
  have e0:(0:Int)+(i:Int)=((i:Nat):Int):=by omega
  rw[e0]
  obtain⟨jm,hb⟩:=bA.b1
  have ri:(x.e2 i).fits 1:=(iL.mono (by omega:i+1≤x.ay.length+1)).e2 (by omega)
  have d8:(x.e2 i).ay.length=x.ay.length:=by rw[rR]
  refine⟨_,rfl,a.h,jm,_,rfl,hb,(by kernel_rfl),_,rfl,a,lo1,pl,x.e2 i,aT,_,rfl,bA,vP (by omega),ri,?_⟩
  rw[if_neg (by rw[d8];omega)]
  intro eO aS cn fo
  rw[Int.toNat_natCast,←ks]at cn
  exact⟨eO,_,rfl,cn,cy.trans fo⟩
 ·rintro σ av ⟨lo1,o,rfl,bA,cy⟩
  have vz:((x.ay.map V.int).length:Int).toNat=x.ay.length:=by omega
  have RJ:cT bf aH av a lo1 pl (x.e2 x.ay.length) aT:=by
   simpa[ld] using bA
  obtain⟨jm,hb⟩:=RJ.b1
  refine⟨_,rfl,a.h,jm,_,rfl,hb,(by kernel_rfl),a,lo1,pl,x.e2 x.ay.length,aT,rfl,RJ,iL.e2 (le_refl _),ig,fun eO aS cn fo=>?_⟩
  rw[←ku]at cn
  exact q eO aS cn (cy.trans fo)
theorem YG:dP m1 m1 (cR D8):=d2
theorem X1 {bf aH cW cM c6 cV:Addr}{vu:Addr}{yO:FuncData}{vt:Addr}{yN:FuncData}(F:bU K "ask_room" "House.ask_room" D8 f fd) (T:iX K mg aH) (E:tf K mg cW cM c6 cV) (BP:bp P w K mg base bW 1 vu yO m1 (Dl bf aH)) (BH:Binds K yO m1 []) (BB:Meth K aH "has_room" vu)
  (GM:bp P w K mg base bW 4 vt yN lA (CT bf aH)) (HH:Binds K yN lA []) (Hh:Meth K aH "make_room" vt):bp P w K mg base (eb P w) 5 f fd m1 (zO bf aH cV):=by
 refine F.nP YG (fun vs H Q h7 h=>?_) (fun cz A outer s H vs Q h7 aE h=>?_)
 ·obtain⟨a,lo,pl,x,aT,m,rfl,_⟩:=h
  rfl
 obtain⟨a,lo,pl,x,aT,m,rfl,A,hm,hd,iL,ig,q⟩:=h
 obtain⟨dx,cc⟩:=A.b1
 refine⟨_,(bl (c_ (pO (jZ (g_ (ah 0) T.cl BB BP (cj aE) BH .nil cU (au (ah 1) aN)))) (bg (dD (zE (ah 0) T.cl Hh GM (cj aE) HH .nil cU)) (bl (c_ (pO (jZ (g_ (ah 0) T.cl BB BP (cj aE) BH .nil cU (au (ah 1) aN)))) (bl (zB E.acf E.mw excBase_ValueError rfl (zu (mP 2000 bJ (mP 2000 (wt (ah 1)) (mP 2000 bJ zR)))))) dZ))) dZ)),?_⟩
 refine⟨_,rfl,a.h,dx,_,rfl,cc,(by kernel_rfl),_,rfl,a,lo,pl,x,aT,_,rfl,A,_,rfl,?_⟩
 cases aG:x.hN ((m:Nat):Int) with
 | true =>
  refine dQ ?_
  have lP:x.full ((m:Nat):Int)=(x,false):=by
   unfold aq.full
   rw[if_pos aG]
  have aW:=q lo H (by rw[lP];exact A) (eN.refl ..)
  rw[lP,if_neg (fun z=>nomatch z)]at aW
  exact aW
 | false =>
  refine eB ?_
  refine⟨_,rfl,a.h,dx,_,rfl,cc,(by kernel_rfl),a,lo,pl,x,aT,rfl,A,hd,iL,ig,fun lo1 H1 b5 cp=>?_⟩
  have lP:x.full ((m:Nat):Int)=(x.gk, !x.gk.hN ((m:Nat):Int)):=by
   unfold aq.full
   rw[if_neg (by rw[aG];exact fun z=>nomatch z)]
  have aW:=q lo1 H1 (by rw[lP];exact b5) cp
  rw[lP]at aW
  obtain⟨Gi,hc⟩:=b5.b1
  refine⟨_,rfl,a.h,Gi,_,rfl,hc,(by kernel_rfl),_,rfl,a,lo1,pl,_,aT,_,rfl,b5,_,rfl,?_⟩
  cases aL:x.gk.hN ((m:Nat):Int) with
  | true =>
   rw[aL]at aW
   exact dQ aW
  | false =>
   rw[aL]at aW
   refine eB ?_
   have dj:=vP (n:=m) (by omega)
   exact⟨_,rfl,(le_of_ble_eq_true rfl),_,rfl,_,rfl,dj,_,rfl,(le_trans (t6 dj) (by decide)),_,rfl,(le_of_ble_eq_true rfl),fun _=>aW⟩
theorem t4 {x:aq}{e:bZ}{w:Str}(h:x.refusal e=some w):x.a5 e=(x,.word w):=by
 unfold aq.a5
 rw[h]
theorem rV {x:aq}{e:bZ}(h:x.refusal e=none):x.a5 e=x.gp e:=by
 unfold aq.a5
 rw[h]
def mV (cW cM c6 cV:Addr) (pa:V) (Q:cG) (E:hB) (H:ao):cY→Prop
 | .num i=>Q (.int i) H
 | .word w=>if w="done" then Q pa H else if w="no dealing" then E (.ref cW) none H else if w="no page" then E (.ref cM) none H else if w="taken" then E (.ref c6) none H else E (.ref cV) none H
section
variable {cW cM c6 cV:Addr}{pa:V}{Q:cG}{E:hB}{H:ao}
theorem ud:mV cW cM c6 cV pa Q E H (.word "done")↔Q pa H:=by unfold mV;dsimp only;rw[if_pos rfl]
theorem zc:mV cW cM c6 cV pa Q E H (.word "no dealing")↔E (.ref cW) none H:=by unfold mV;dsimp only;rw[if_neg (by decide +kernel),if_pos rfl]
theorem uc:mV cW cM c6 cV pa Q E H (.word "no page")↔E (.ref cM) none H:=by unfold mV;dsimp only;rw[if_neg (by decide +kernel),if_neg (by decide +kernel),if_pos rfl]
theorem JA:mV cW cM c6 cV pa Q E H (.word "taken")↔E (.ref c6) none H:=by unfold mV;dsimp only;rw[if_neg (by decide +kernel),if_neg (by decide +kernel),if_neg (by decide +kernel),if_pos rfl]
theorem v7:mV cW cM c6 cV pa Q E H (.word "no room")↔E (.ref cV) none H:=by unfold mV;dsimp only;rw[if_neg (by decide +kernel),if_neg (by decide +kernel),if_neg (by decide +kernel),if_neg (by decide +kernel)]
end
def After (bf aH cW cM c6 cV:Addr) (pa:V) (a:eh) (lo:Addr) (pl:List (Int × Addr)) (x:aq) (aT:List (Key × V)) (H:ao) (Q:cG) (E:hB) (e:bZ):Prop :=
 ∀lo' hx hP af,cT bf aH af a lo' hx (x.a5 e).1 hP→hP.length≤aT.length+1→eN a lo pl lo' hx H af→mV cW cM c6 cV pa Q E af (x.a5 e).2
structure Ready (bf aH:Addr) (H:ao) (a:eh) (lo:Addr) (pl:List (Int × Addr)) (x:aq) (aT:List (Key × V)) (n:Nat):Prop where
 vn:cT bf aH H a lo pl x aT
 jw:x.good n
 dN:n≤110
 kg:aT.length≤100000
 HF:x.begun≤900
def dj (i:Int):Prop:=i.natAbs.log2<1920
def CW (bf aH cW cM c6 cV:Addr):dn:=fun vs H Q E=>∃(a:eh) (lo:Addr) (pl:List (Int × Addr)) (x:aq) (aT:List (Key × V)) (n:Nat),vs=[.ref a.h]∧Ready bf aH H a lo pl x aT n∧After bf aH cW cM c6 cV .cS a lo pl x aT H Q E .begin
def DX (bf aH cW cM c6 cV:Addr):dn:=fun vs H Q E=>∃(a:eh) (lo:Addr) (pl:List (Int × Addr)) (x:aq) (aT:List (Key × V)) (n:Nat) (d p k:Int),vs=[.ref a.h,.int d,.int p,.int k]∧Ready bf aH H a lo pl x aT n∧dj d∧dj p∧After bf aH cW cM c6 cV .cS a lo pl x aT H Q E (.put d p k)
def z2 (bf aH cW cM c6 cV:Addr):dn:=fun vs H Q E=>∃(a:eh) (lo:Addr) (pl:List (Int × Addr)) (x:aq) (aT:List (Key × V)) (n:Nat) (d:Int),vs=[.ref a.h,.int d]∧cT bf aH H a lo pl x aT∧x.fits 1∧dj d∧(if x.isOpen d=false then E (.ref cW) none H else ∀lo' af,cT bf aH af a lo' (pl.filter fun z=>z.1 != d) (x.fK d) aT→eN a lo pl lo' (pl.filter fun z=>z.1 != d) H af→Q .cS af)
def Dm (bf aH cW cM c6 cV:Addr):dn:=fun vs H Q E=>∃(a:eh) (lo:Addr) (pl:List (Int × Addr)) (x:aq) (aT:List (Key × V)) (n:Nat) (d:Int),vs=[.ref a.h,.int d]∧Ready bf aH H a lo pl x aT n∧dj d∧After bf aH cW cM c6 cV .cS a lo pl x aT H Q E (.drop d)
def Dk (bf aH cW cM c6 cV:Addr):dn:=fun vs H Q E=>∃(a:eh) (lo:Addr) (pl:List (Int × Addr)) (x:aq) (aT:List (Key × V)) (n:Nat) (p:Int),vs=[.ref a.h,.int p]∧Ready bf aH H a lo pl x aT n∧dj p∧After bf aH cW cM c6 cV .cS a lo pl x aT H Q E (.look p)
section
variable {bf aH:Addr}{H:ao}{a:eh}{lo:Addr}{pl:List (Int × Addr)}{x:aq}{aT:List (Key × V)}{n:Nat}
theorem Ready.fits (R:Ready bf aH H a lo pl x aT n) {k:Nat}(aQ:k≤50000):x.fits k:=R.jw.fits (by have:=R.dN;omega) aQ
theorem Ready.AJ (R:Ready bf aH H a lo pl x aT n):pl.length≤1000:=by
 have aj:=R.vn.dM.mW
 have az:=R.jw.pl
 have ck:=R.dN
 omega
theorem Ready.jT (R:Ready bf aH H a lo pl x aT n):x.ay.length≤1000:=by
 have:=R.jw.e9
 omega
end
theorem K4:dP iB lA (cR DH):=d2
theorem Vs {bf aH cW cM c6 cV:Addr}{jQ:Addr}{lS:FuncData}(F:bU K "begin" "House.begin" DH f fd) (T:iX K mg aH) (px:bp P w K mg base (eb P w) 5 jQ lS m1 (zO bf aH cV)) (pe:Binds K lS m1 []) (mw:Meth K aH "ask_room" jQ):bp P w K mg base (eb P w) 6 f fd lA (CW bf aH cW cM c6 cV):=by
 refine F.nP K4 (fun vs H Q h7 h=>?_) (fun cz A outer s H vs Q h7 aE h=>?_)
 ·obtain⟨a,lo,pl,x,aT,n,rfl,_⟩:=h
  rfl
 obtain⟨a,lo,pl,x,aT,n,rfl,R,q⟩:=h
 have A:=R.vn
 obtain⟨dx,cc⟩:=A.b1
 have bq:=ht aE
 refine⟨_,(bg (cJ (i:=1) K4.a3 rfl (Or.inl rfl) (fb (ah 0) rfl)) (bg (zr (ah 0) aZ DS) (bg (dD (g_ (ah 0) T.cl mw px (cj aE) pe .nil (j3 fun _ _ z=>z) (au aZ aN))) (bg (mO bq (fb (ah 0) rfl) (ah 1) (fx aN) rfl) (bg (zr (ah 0) aZ DS) (bl (dH (ah 1)))))))),?_⟩
 refine⟨_,rfl,a.h,aH,dx,_,_,rfl,cc,T.cl,T.Dc,JJ .., ?_⟩
 refine⟨_,rfl,a.h,aH,dx,_,_,rfl,cc,T.cl,T.Dc,JJ .., _,_,rfl,rfl,dx,_,cc,(by show 8<1000;decide),?_⟩
 rw[S9]
 have b5:=A.began (dx:=dx) (b:=(x.begun:Int)+1) rfl
 have cp:eN a lo pl lo pl H (upd H a.h (.ins aH dx (hf a.c a.ak a.st a.pu a.bB x.room ((x.begun:Int)+1) x.bound))):=(eN.refl ..).upd (sk ..)
 generalize upd H a.h (.ins aH dx (hf a.c a.ak a.st a.pu a.bB x.room ((x.begun:Int)+1) x.bound))=H1 at b5 cp ⊢
 obtain⟨Gi,hc⟩:=b5.b1
 have iL:x.began.fits (x.began.ay.length+1):=R.fits (k:=x.ay.length+1) (by have:=R.jT;omega)
 refine⟨_,rfl,a.h,Gi,_,rfl,hc,(by kernel_rfl),a,lo,pl,x.began,aT,1,rfl,b5,by decide,R.jT,iL,R.AJ,fun eO av bA cy=>?_⟩
 have aY:x.a5 .begin=(if (x.began.full 1).2=true then ((x.began.full 1).1,cY.word "no room") else ((x.began.full 1).1.opened,.num x.begun)):=rfl
 by_cases nX:(x.began.full ((1:Nat):Int)).2=true
 ·rw[if_pos nX]
  have sG:(x.began.full 1).2=true:=nX
  rw[if_pos sG]at aY
  have aW:=q eO pl aT av (by rw[aY];exact bA) (le_succ _) (cp.trans cy)
  rw[aY]at aW
  exact v7.mp aW
 rw[if_neg nX]
 have sG:¬(x.began.full 1).2=true:=nX
 rw[if_neg sG]at aY
 have Be:(x.began.full ((1:Nat):Int)).1.begun=x.begun+1:=mH
 have u_:(x.began.full ((1:Nat):Int)).1.aK=x.aK:=je
 refine⟨c8,fun nl aR=>?_⟩
 have s3:=bV aR (.lst [])
 have cn:=bA.same s3
 obtain⟨lF,gq⟩:=cn.b1
 have nc:=R.AJ
 refine⟨_,rfl,a.h,aH,lF,_,_,rfl,gq,T.cl,T.qT,r5 .., _,rfl,a.pu,_,rfl,oG.k (k:=Sum.inl ((x.begun:Nat):Int)) cn.aF (jB (by unfold d6;rw[length_map];omega)),?_⟩
 have iM:(upd (upd av nl (.lst [])) a.pu (.bR (putK (d6 pl) (Sum.inl ((x.begun:Nat):Int)) (.ref nl)))) a.h=(upd av nl (.lst [])) a.h:=aB bA.aR.2.2.1.symm
 rw[gq]at iM
 refine⟨_,rfl,a.h,aH,lF,_,_,rfl,iM,T.cl,T.wu,zH .., _,_,rfl,rfl,lF,_,iM,(by show 8<1000;decide),_,rfl,?_⟩
 rw[B5]
 have nT:(x.began.full ((1:Nat):Int)).1.isOpen ((x.begun:Nat):Int)=false:=by
  unfold aq.isOpen
  rw[u_]
  cases e:x.aK.any (fun z=>z.1 == ((x.begun:Nat):Int)) with
  | false=>rfl
  | true =>
   obtain⟨z,hz,he⟩:=any_eq_true.mp e
   have aj:=(R.jw.d3 z hz).2.1
   have az:=beq_iff_eq.mp he
   omega
 have dX:=bA.opened (n:=nl) (dx:=lF) (d:=((x.begun:Nat):Int)) (b:=(x.began.full ((1:Nat):Int)).1.bound+1) aR nT rfl (by rw[Be];omega) fun k e he z=>by
  obtain⟨p,d',aG,aL,bH,bS,ek⟩:=A.jt.b k _ he
  injection aL with aL
  omega
 have gs:eN a eO pl eO (pl++[(((x.begun:Nat):Int),nl)]) av (upd (upd (upd av nl (.lst [])) a.pu (.bR (putK (d6 pl) (Sum.inl ((x.begun:Nat):Int)) (.ref nl)))) a.h (.ins aH lF (hf a.c a.ak a.st a.pu a.bB (x.began.full ((1:Nat):Int)).1.room (x.began.full ((1:Nat):Int)).1.begun ((x.began.full ((1:Nat):Int)).1.bound+1)))):=by
  refine eN.upd (eN.upd ⟨fun b o aa e=>s3 b o e,fun b aa=>?_⟩ (wA ..)) (sk ..)
  rcases mem_cons.mp aa with z | aa
  ·rw[z];exact .inl (wB ..)
  ·rcases mem_cons.mp aa with z | aa
   ·rw[z];exact .inl (z6 ..)
   ·rcases mem_cons.mp aa with z | aa
    ·rw[z];exact .inl (zV ..)
    ·rcases pJ.mp aa with z | z | z | z | z | ⟨z,hz,e⟩
     ·rw[z];exact .inl (sk ..)
     ·rw[z];exact .inl (zZ ..)
     ·rw[z];exact .inl (zY ..)
     ·rw[z];exact .inl (wA ..)
     ·rw[z];exact .inl (zW ..)
     ·rcases mem_append.mp hz with y | y
      ·rw[←e];exact .inl (zX y ..)
      ·rw[mem_singleton.mp y]at e
       rw[←e];exact .inr aR
 have aW:=q eO _ aT _ (by rw[aY];exact dX) (le_succ _) ((cp.trans cy).trans gs)
 rw[aY]at aW
 exact aW
theorem WI:dP ie ie (cR D1):=d2
theorem V8 {bf aH cW cM c6 cV:Addr}{h2:Addr}{iT:FuncData}(F:bU K "look" "House.look" D1 f fd) (T:iX K mg aH) (mE:bp P w K mg base (eb P w) 1 h2 iT ie (wj bf aH cM)) (mC:Binds K iT ie []) (kk:Meth K aH "ask_page" h2):bp P w K mg base (eb P w) 2 f fd ie (Dk bf aH cW cM c6 cV):=by
 refine F.nP WI (fun vs H Q h7 h=>?_) (fun cz A outer s H vs Q h7 aE h=>?_)
 ·obtain⟨a,lo,pl,x,aT,n,p,rfl,_⟩:=h
  rfl
 obtain⟨a,lo,pl,x,aT,n,p,rfl,R,kM,q⟩:=h
 have A:=R.vn
 obtain⟨dx,cc⟩:=A.b1
 refine⟨_,(bg (dD (g_ (ah 0) T.cl kk mE (cj aE) mC .nil (j3 fun _ _ z=>z) (au (ah 1) aN))) (bl (dH (bK fa (fb (ah 0) rfl) (ah 1) (fun _ _=>rfl))))),?_⟩
 refine⟨_,rfl,a.h,dx,_,rfl,cc,(by kernel_rfl),_,rfl,a,lo,pl,x,aT,p,rfl,A,kM,?_⟩
 by_cases c:p<0∨(x.ay.length:Int)≤p
 ·rw[if_pos c]
  have aY:x.a5 (.look p)=(x,.word "no page"):=by
   exact t4 (if_pos c)
  have aW:=q lo pl aT H (by rw[aY];exact A) (le_succ _) (eN.refl ..)
  rw[aY]at aW
  exact uc.mp aW
 ·rw[if_neg c]
  have aF:p.toNat<x.ay.length:=by omega
  have cu:p=((p.toNat:Nat):Int):=by omega
  obtain⟨dK,di,eG⟩:=A.dM.rr aF
  rw[←cu]at eG
  have aY:x.a5 (.look p)=(x,.num (x.ay.getD p.toNat 0)):=by
   exact rV (e:=.look p) (if_neg c)
  have gd:x.ay.getD p.toNat 0=dK:=by rw[getD_eq_getElem?_getD,di];rfl
  have aW:=q lo pl aT H (by rw[aY];exact A) (le_succ _) (eN.refl ..)
  rw[aY,gd]at aW
  exact⟨_,rfl,a.h,aH,dx,_,_,rfl,cc,T.cl,T.oD,pK .., _,rfl,a.ak,_,_,_,rfl,rfl,aM.of A.hd,eG,aW⟩
theorem XK:dP iB iB (cR Et):=d2
theorem W3 {bf aH cW cM c6 cV:Addr}{fW:Addr}{gG:FuncData}{g6:Addr}{h3:FuncData}(F:bU K "end" "House.end" Et f fd) (B:ff mg) (T:iX K mg aH) (hI:bp P w K mg base (eb P w) 1 fW gG iB (wk bf aH cW)) (hH:Binds K gG iB []) (g0:Meth K aH "ask_dealing" fW)
  (k9:bp P w K mg base bW 2 g6 h3 jl (uI bf aH)) (k4:Binds K h3 jl []) (kV:Meth K aH "make_stroke" g6):bp P w K mg base (eb P w) 3 f fd iB (z2 bf aH cW cM c6 cV):=by
 refine F.nP XK (fun vs H Q h7 h=>?_) (fun cz A outer s H vs Q h7 aE h=>?_)
 ·obtain⟨a,lo,pl,x,aT,n,d,rfl,_⟩:=h
  rfl
 obtain⟨a,lo,pl,x,aT,n,d,rfl,A,iL,kM,q⟩:=h
 obtain⟨dx,cc⟩:=A.b1
 refine⟨_,(bg (dD (g_ (ah 0) T.cl g0 hI (cj aE) hH .nil (j3 fun _ _ z=>z) (au (ah 1) aN))) (bg (dD (g_ (ah 0) T.cl kV k9 (cj aE) k4 .nil cU (au (gH (au bJ (au (gH (au bJ (au (ah 1) aN))) aN))) aN))) (bl (zr (ah 0) (c0 gI (es gU rfl B.len PySem.boot_len (au (CI (fb (ah 0) rfl) (ah 1) ⟨rfl,rfl,rfl,rfl⟩) aN)) aZ) Xg)))),?_⟩
 refine⟨_,rfl,a.h,dx,_,rfl,cc,(by kernel_rfl),_,rfl,a,lo,pl,x,aT,d,rfl,A,kM,?_⟩
 cases aD:x.isOpen d with
 | false =>
  rw[aD,if_pos rfl]at q
  rw[if_pos rfl]
  exact q
 | true =>
  rw[aD,if_neg (fun z=>nomatch z)]at q
  rw[if_neg (fun z=>nomatch z)]
  refine⟨_,rfl,a.h,dx,_,rfl,cc,(by kernel_rfl),_,rfl,c8,fun t1 aj=>⟨c8,fun d_ az=>?_⟩⟩
  have s1:=bV aj (.tup [.str "end",.int d])
  have s2:=bV az (.tup [.str "line",.ref t1])
  have bA:=A.same (s1.trans s2)
  have aX:Rep (upd (upd H t1 (.tup [.str "end",.int d])) d_ (.tup [.str "line",.ref t1])) (a4.line (.fin d)).D (.ref d_) :=
   Rep.hs aV (.cons .ofStr (.cons (Rep.hs (s2 _ _ aV) (.cons .ofStr (.cons .ofInt .nil))) .nil))
  refine⟨a,lo,pl,x,aT,_,.line (.fin d),rfl,bA,aX,trivial,iL,fun p8 aS cn fo=>?_⟩
  obtain⟨lF,dC⟩:=cn.b1
  have rd:(x.dc (.line (.fin d))).isOpen d=true:=aD
  obtain⟨i,al,ys,i8,nA,rG,yF,R8⟩:=cn.dM.qP rd
  have hm:=mem_of_getElem? i8
  have sQ:aS al=some (.lst ys):=by rw[f5 (cn.aR.2.2.2.2.2 _ hm) (cn.ep.2.2.2.2.2 _ hm)]at rG;exact rG
  have gR:ys.length=((x.dc (.line (.fin d))).c7 d).length:=by rw[a9.length yF,length_map]
  have A5:dF (d6 pl) (Sum.inl d)=some (.ref al):=by
   have:=lZ (l:=pl) (by rw[cn.dM.e6];exact cn.dM.bL) i8
   rw[qN]
   rw[this]
   rfl
  have aab:al≠a.pu:=dt sQ cn.aF (fun z=>nomatch z)
  have hW:(upd aS a.pu (.bR (j4 (d6 pl) (Sum.inl d)))) a.h=aS a.h:=aB cn.aR.2.2.1.symm
  rw[dC]at hW
  refine⟨_,rfl,a.h,aH,lF,_,_,rfl,dC,T.cl,T.wu,zH .., _,rfl,a.h,aH,lF,_,_,rfl,dC,T.cl,T.qT,r5 .., a.pu,rfl,.inl ⟨_,.inl cn.aF⟩,_,rfl,_,Sum.inl d,_,cn.aF,rfl,A5,al,ys,rfl,.inl (aM.of (by rw[aB aab];exact sQ)),_,_,rfl,rfl,_,_,rfl,rfl,lF,_,hW,(by show 8<1000;decide),?_⟩
  rw[B5]
  have dX:=cn.ended (dx:=lF) (d:=d) (b:=(x.dc (.line (.fin d))).bound - (((ys.length:Nat):Int)+1)) (by rw[t_ cn.dM.bL rd,gR])
  refine q p8 _ dX (((s1.trans s2).moves.trans fo).trans (eN.upd (eN.upd ⟨fun b o _ e=>e,fun b aa=>?_⟩ (wA ..)) (sk ..)))
  rcases mem_cons.mp aa with z | aa
  ·rw[z];exact .inl (wB ..)
  ·rcases mem_cons.mp aa with z | aa
   ·rw[z];exact .inl (z6 ..)
   ·rcases mem_cons.mp aa with z | aa
    ·rw[z];exact .inl (zV ..)
    ·rcases pJ.mp aa with z | z | z | z | z | ⟨z,hz,e⟩
     ·rw[z];exact .inl (sk ..)
     ·rw[z];exact .inl (zZ ..)
     ·rw[z];exact .inl (zY ..)
     ·rw[z];exact .inl (wA ..)
     ·rw[z];exact .inl (zW ..)
     ·rw[←e];exact .inl (zX (mem_filter.mp hz).1 ..)
theorem XJ:dP kK kK (cR Es):=d2
theorem W0 {bf aH cW cM c6 cV:Addr}{fW:Addr}{gG:FuncData}{h2:Addr}{iT:FuncData}{vv:Addr}{yP:FuncData}{jQ:Addr}{lS:FuncData}{qt:Addr}{rL:FuncData}(F:bU K "put" "House.put" Es f fd) (T:iX K mg aH) (hI:bp P w K mg base (eb P w) 1 fW gG iB (wk bf aH cW)) (hH:Binds K gG iB []) (g0:Meth K aH "ask_dealing" fW)
  (mE:bp P w K mg base (eb P w) 1 h2 iT ie (wj bf aH cM)) (mC:Binds K iT ie []) (kk:Meth K aH "ask_page" h2)
  (BQ:bp P w K mg base (eb P w) 1 vv yP Al (Dp bf aH c6)) (BI:Binds K yP Al []) (BC:Meth K aH "ask_free" vv)
  (px:bp P w K mg base (eb P w) 5 jQ lS m1 (zO bf aH cV)) (pe:Binds K lS m1 []) (mw:Meth K aH "ask_room" jQ)
  (tS:bp P w K mg base bW 3 qt rL kK (z_ bf aH)) (tH:Binds K rL kK []) (tx:Meth K aH "write_put" qt):bp P w K mg base (eb P w) 6 f fd kK (DX bf aH cW cM c6 cV):=by
 refine F.nP XJ (fun vs H Q h7 h=>?_) (fun cz A outer s H vs Q h7 aE h=>?_)
 ·obtain⟨a,lo,pl,x,aT,n,d,p,k,rfl,_⟩:=h
  rfl
 obtain⟨a,lo,pl,x,aT,n,d,p,k,rfl,R,By,sp,q⟩:=h
 have A:=R.vn
 obtain⟨dx,cc⟩:=A.b1
 have bq:=ht aE
 have ew:x.refusal (.put d p k)=(if x.isOpen d=false then some ("no dealing":Str) else if p<0∨(x.ay.length:Int)≤p then some ("no page":Str) else if x.dT p.toNat=none∨x.dT p.toNat=some d then none else some ("taken":Str)):=rfl
 have j5:∀w:Str,x.refusal (.put d p k)=some w→mV cW cM c6 cV .cS Q h7 H (.word w):=fun w h=>by
  have aY:=t4 h
  have aW:=q lo pl aT H (by rw[aY];exact A) (le_succ _) (eN.refl ..)
  rw[aY]at aW
  exact aW
 refine⟨_,(bg (dD (g_ (ah 0) T.cl g0 hI (cj aE) hH .nil (j3 fun _ _ z=>z) (au (ah 1) aN))) (bg (dD (g_ (ah 0) T.cl kk mE (cj aE) mC .nil (j3 fun _ _ z=>z) (au (ah 2) aN))) (bg (dD (g_ (ah 0) T.cl BC BQ (cj aE) BI .nil (j3 fun _ _ z=>z) (au (ah 1) (au (ah 2) aN)))) (bg (dD (g_ (ah 0) T.cl mw px (cj aE) pe .nil (j3 fun _ _ z=>z) (au aZ aN))) (bg (dD (ia plainAttrs_list PySem.F.slot_list_append PySem.F.type_list_append h_ (e1 bq (fb (ah 0) rfl) (ah 1) (fun _ _=>rfl)) (au (gH (au (ah 2) (au (bK fa (fb (ah 0) rfl) (ah 2) (fun _ _=>rfl)) aN))) aN))) (bg (mO bq (fb (ah 0) rfl) (ah 2) (ah 1) rfl) (bg (zr (ah 0) aZ DS) (bl (dD (g_ (ah 0) T.cl tx tS (cj aE) tH .nil cU (au (ah 1) (au (ah 2) (au (ah 3) aN))))))))))))),?_⟩
 refine⟨_,rfl,a.h,dx,_,rfl,cc,(by kernel_rfl),_,rfl,a,lo,pl,x,aT,d,rfl,A,By,?_⟩
 cases aD:x.isOpen d with
 | false =>
  rw[if_pos rfl]
  rw[aD,if_pos rfl]at ew
  exact zc.mp (j5 _ ew)
 | true =>
 rw[if_neg (fun z=>nomatch z)]
 rw[aD,if_neg (fun z=>nomatch z)]at ew
 refine⟨_,rfl,a.h,dx,_,rfl,cc,(by kernel_rfl),_,rfl,a,lo,pl,x,aT,p,rfl,A,sp,?_⟩
 by_cases c:p<0∨(x.ay.length:Int)≤p
 ·rw[if_pos c]
  rw[if_pos c]at ew
  exact uc.mp (j5 _ ew)
 rw[if_neg c]
 rw[if_neg c]at ew
 obtain⟨bL,rfl⟩:∃bL:Nat,p=(bL:Int):=⟨p.toNat,by omega⟩
 rw[Int.toNat_natCast]at ew
 have aF:bL<x.ay.length:=by omega
 refine⟨_,rfl,a.h,dx,_,rfl,cc,(by kernel_rfl),_,rfl,_,rfl,a,lo,pl,x,aT,d,bL,rfl,A,by have:=R.HF;omega,by have:=R.jT;omega,?_⟩
 by_cases fG:x.dT bL=none∨x.dT bL=some d
 case neg =>
  rw[if_neg fG]
  rw[if_neg fG]at ew
  exact JA.mp (j5 _ ew)
 rw[if_pos fG]
 rw[if_pos fG]at ew
 have aY:x.a5 (.put d bL k)=(if (x.full 2).2=true then ((x.full 2).1,cY.word "no room") else (((x.full 2).1.c1 d bL).putIn d bL k,.word "done")):=by
  rw[rV ew]
  show (if (x.full 2).2=true then ((x.full 2).1,cY.word "no room") else (((x.full 2).1.c1 d (bL:Int).toNat).putIn d (bL:Int).toNat k,.word "done"))=_
  rw[Int.toNat_natCast]
 have iL:x.fits (x.ay.length+1):=R.fits (by have:=R.jT;omega)
 refine⟨_,rfl,a.h,dx,_,rfl,cc,(by kernel_rfl),a,lo,pl,x,aT,2,rfl,A,by decide,R.jT,iL,R.AJ,fun eO av bA cy=>?_⟩
 by_cases nX:(x.full ((2:Nat):Int)).2=true
 ·rw[if_pos nX]
  have sG:(x.full 2).2=true:=nX
  rw[if_pos sG]at aY
  have aW:=q eO pl aT av (by rw[aY];exact bA) (le_succ _) cy
  rw[aY]at aW
  exact v7.mp aW
 rw[if_neg nX]
 have sG:¬(x.full 2).2=true:=nX
 rw[if_neg sG]at aY
 have Be:(x.full ((2:Nat):Int)).1.begun=x.begun:=mH
 have u_:(x.full ((2:Nat):Int)).1.aK=x.aK:=je
 have x4:(x.full ((2:Nat):Int)).1.ay=x.ay:=oz
 have PV:(x.full ((2:Nat):Int)).1.fits 1:=aq.fits.full (R.fits (by have:=R.jT;omega))
 have x5:x.a5 (.put d bL k)=(((x.full ((2:Nat):Int)).1.c1 d bL).putIn d bL k,.word "done"):=aY
 generalize (x.full ((2:Nat):Int)).1=y at bA x5 Be u_ x4 PV
 have sU:y.isOpen d=true:=by unfold aq.isOpen;rw[u_];exact aD
 obtain⟨i,al,ys,i8,nA,rG,yF,R8⟩:=bA.dM.qP sU
 have hm:=mem_of_getElem? i8
 have sQ:av al=some (.lst ys):=by rw[f5 (bA.aR.2.2.2.2.2 _ hm) (bA.ep.2.2.2.2.2 _ hm)]at rG;exact rG
 have gR:ys.length=(y.c7 d).length:=by rw[a9.length yF,length_map]
 have FF:dF (d6 pl) (Sum.inl d)=some (.ref al):=by
  have:=lZ (l:=pl) (by rw[bA.dM.e6];exact bA.dM.bL) i8
  rw[qN]
  rw[this]
  rfl
 have m7:=R.jw.d3 (d,x.c7 d) (kv aD)
 have abk:y.c7 d=x.c7 d:=by unfold aq.c7;rw[u_]
 obtain⟨jm,hb⟩:=bA.b1
 have xK:bL<y.ay.length:=by rw[x4];exact aF
 obtain⟨z,du,dK⟩:=bA.dM.rr xK
 have gd:y.ay.getD bL 0=z:=by rw[getD_eq_getElem?_getD,du];rfl
 have Ba:=R.dN
 have w2:fl av a.pu (.int d) (some (.ref al)):=by
  have h0:=fl.k (k:=Sum.inl d) bA.aF
  rw[FF]at h0
  exact h0
 refine⟨_,rfl,a.h,aH,jm,_,_,rfl,hb,T.cl,T.qT,r5 .., _,rfl,a.pu,_,rfl,w2,.inl ⟨rfl,_,aM.of sQ⟩,_,rfl,_,rfl,a.h,aH,jm,_,_,rfl,hb,T.cl,T.oD,pK .., _,rfl,a.ak,_,_,_,rfl,rfl,aM.of bA.hd,dK,c8,fun t bF=>?_⟩
 have s3:=bV bF (.tup [.int ((bL:Nat):Int),.int z])
 have cn:=bA.same s3
 have A5:Rep (upd av t (.tup [.int ((bL:Nat):Int),.int z])) (pairD (bL,y.ay.getD bL 0)) (.ref t):=by
  rw[gd]
  exact Rep.hs aV (.cons .ofInt (.cons .ofInt .nil))
 have FA:=s3 _ _ sQ
 have gq:=s3 _ _ hb
 have PF:=s3 _ _ bA.kt
 have fo:eN a lo pl eO pl H (upd av t (.tup [.int ((bL:Nat):Int),.int z])):=cy.trans s3.moves
 generalize upd av t (.tup [.int ((bL:Nat):Int),.int z])=aS at s3 cn A5 FA gq PF fo ⊢
 refine⟨al,ys,.ref t,rfl,rfl,FA,jB (by have:=m7.2.2.1;rw[←abk,←gR]at this;omega),?_⟩
 have aad:a.h≠al:=(cn.aR.2.2.2.2.2 _ hm).symm
 have aac:a.bB≠al:=cn.oK.2.2.2.2.2.2 _ hm
 have iM:(upd aS al (.lst (ys++[.ref t]))) a.h=aS a.h:=aB aad
 rw[gq]at iM
 have PE:(upd aS al (.lst (ys++[.ref t]))) a.bB=aS a.bB:=aB aac
 rw[PF]at PE
 have ad0:=R.kg
 refine⟨_,rfl,_,rfl,a.h,aH,jm,_,_,rfl,iM,T.cl,T.C_,JI .., _,rfl,a.bB,_,rfl,oG.k (k:=Sum.inl ((bL:Nat):Int)) PE (jB (by omega)),?_⟩
 have hQ:(upd (upd aS al (.lst (ys++[.ref t]))) a.bB (.bR (putK aT (Sum.inl ((bL:Nat):Int)) (.int d)))) a.h=(upd aS al (.lst (ys++[.ref t]))) a.h:=aB cn.oK.1.symm
 rw[iM]at hQ
 refine⟨_,rfl,a.h,aH,jm,_,_,rfl,hQ,T.cl,T.wu,zH .., _,_,rfl,rfl,jm,_,hQ,(by show 8<1000;decide),?_⟩
 rw[B5]
 have iz:∀z∈y.aK,(∃w∈z.2,w.1=bL)→z.1=d:=fun z hz ⟨w,hw,aav⟩=>by
  have bh:=bA.jt.a z hz w hw
  rw[aav]at bh
  obtain⟨d',aG,_,_,bS,_⟩:=(J3 (p:=bL) bA.jt).1 _ bh
  injection aG with aG
  have aaJ:y.isOpen d'=true:=any_eq_true.mpr ⟨z,hz,by rw[aG];exact beq_self_eq_true d'⟩
  have ja:=bS aaJ
  have abj:x.dT bL=some d':=by unfold aq.dT at ja ⊢;rw[u_]at ja;exact ja
  rw[abj]at fG
  rcases fG with w | w
  ·cases w
  ·rw[aG];exact Option.some.inj w
 have gi:=cn.c1 (dx:=jm) (p:=bL) (b:=y.bound+1) i8 FA A5 (Ck cn.dM.bL sU).symm m7.1 (by rw[Be];exact m7.2.1) iz
 have i6:eN a lo pl eO pl H (upd (upd (upd aS al (.lst (ys++[.ref t]))) a.bB (.bR (putK aT (Sum.inl ((bL:Nat):Int)) (.int d)))) a.h (.ins aH jm (hf a.c a.ak a.st a.pu a.bB y.room y.begun (y.bound+1)))) :=
  ((fo.upd (zX hm ..)).upd (zV ..)).upd (sk ..)
 generalize upd (upd (upd aS al (.lst (ys++[.ref t]))) a.bB (.bR (putK aT (Sum.inl ((bL:Nat):Int)) (.int d)))) a.h (.ins aH jm (hf a.c a.ak a.st a.pu a.bB y.room y.begun (y.bound+1)))=dr at gi i6 ⊢
 obtain⟨abt,e7⟩:=gi.b1
 refine⟨_,rfl,a.h,abt,_,rfl,e7,(by kernel_rfl),_,rfl,_,rfl,_,rfl,a,eO,pl,y.c1 d bL,_,d,bL,k,rfl,gi,xK,PV,fun aak dO tX yy=>?_⟩
 have aW:=q aak pl _ dO (by rw[x5];exact tX) (qH ..) (i6.trans yy)
 rw[x5]at aW
 exact ud.mp aW
theorem Dq:dP ["self","dealing","page","old"] iB (cR D5):=d2
theorem Wc {bf aH cW cM c6 cV:Addr}{fW:Addr}{gG:FuncData}{qt:Addr}{rL:FuncData}{jR:Addr}{lT:FuncData}(F:bU K "drop" "House.drop" D5 f fd) (B:ff mg) (Y_:mg "reversed"=none) (T:iX K mg aH) (hI:bp P w K mg base (eb P w) 1 fW gG iB (wk bf aH cW)) (hH:Binds K gG iB []) (g0:Meth K aH "ask_dealing" fW)
  (tS:bp P w K mg base bW 3 qt rL kK (z_ bf aH)) (tH:Binds K rL kK []) (tx:Meth K aH "write_put" qt)
  (qB:bp P w K mg base (eb P w) 3 jR lT iB (z2 bf aH cW cM c6 cV)) (qw:Binds K lT iB []) (mN:Meth K aH "end" jR):bp P w K mg base (eb P w) 4 f fd iB (Dm bf aH cW cM c6 cV):=by
 refine F.nP Dq (fun vs H Q h7 h=>?_) (fun cz A outer s H vs Q h7 aE h=>?_)
 ·obtain⟨a,lo,pl,x,aT,n,d,rfl,_⟩:=h
  rfl
 obtain⟨a,lo,pl,x,aT,n,d,rfl,R,By,q⟩:=h
 have A:=R.vn
 obtain⟨dx,cc⟩:=A.b1
 have bq:=ht aE
 have ew:x.refusal (.drop d)=(if x.isOpen d=false then some ("no dealing":Str) else none):=rfl
 refine⟨_,(bg (dD (g_ (ah 0) T.cl g0 hI (cj aE) hH .nil (j3 fun _ _ z=>z) (au (ah 1) aN))) (bg (hM PassesOwn.leaving rfl (LO rfl Y_ (e1 bq (fb (ah 0) rfl) (ah 1) (fun _ _=>rfl))) (r_ rfl (kA (fQ (i:=2) Dq.a3 rfl (Or.inl rfl)) (kA (fQ (i:=3) Dq.a3 rfl (Or.inl rfl)) r3))) (bl (dD (g_ (ah 0) T.cl tx tS (cj aE) tH .nil cU (au (ah 1) (au (ah 2) (au (ah 3) aN))))))) (bl (dD (g_ (ah 0) T.cl mN qB (cj aE) qw .nil (j3 fun _ _ z=>z) (au (ah 1) aN)))))),?_⟩
 refine⟨_,rfl,a.h,dx,_,rfl,cc,(by kernel_rfl),_,rfl,a,lo,pl,x,aT,d,rfl,A,By,?_⟩
 cases aD:x.isOpen d with
 | false =>
  rw[if_pos rfl]
  rw[aD,if_pos rfl]at ew
  have aY:=t4 ew
  have aW:=q lo pl aT H (by rw[aY];exact A) (le_succ _) (eN.refl ..)
  rw[aY]at aW
  exact zc.mp aW
 | true =>
 rw[if_neg (fun z=>nomatch z)]
 rw[aD,if_neg (fun z=>nomatch z)]at ew
 have aY:=rV ew
 obtain⟨i,al,ys,i8,nA,rG,yF,R8⟩:=A.dM.qP aD
 have hm:=mem_of_getElem? i8
 have sQ:H al=some (.lst ys):=by rw[f5 (A.aR.2.2.2.2.2 _ hm) (A.ep.2.2.2.2.2 _ hm)]at rG;exact rG
 have gR:ys.length=(x.c7 d).length:=by rw[a9.length yF,length_map]
 have FF:dF (d6 pl) (Sum.inl d)=some (.ref al):=by
  have:=lZ (l:=pl) (by rw[A.dM.e6];exact A.dM.bL) i8
  rw[qN]
  rw[this]
  rfl
 have m7:=R.jw.d3 (d,x.c7 d) (kv aD)
 have Ba:=R.dN
 have lpo:(x.c7 d).length≤110:=le_trans m7.2.2.1 Ba
 have listAt:∀{av:ao} {eO:Addr} {y:aq},cT bf aH av a eO pl y aT→y.aK=x.aK→∃us,av al=some (.lst us)∧a9 av ((x.c7 d).map pairD) us:=fun {av eO y} bA cu=>by
  obtain⟨w,us,fh,eG,jq,tk,_⟩:=bA.dM.at_ i8
  rw[cu,nA]at fh
  cases fh
  rw[f5 (bA.aR.2.2.2.2.2 _ hm) (bA.ep.2.2.2.2.2 _ hm)]at jq
  exact⟨us,jq,a9.keep bA.Ed _ _ (er hD _) tk⟩
 have w2:fl H a.pu (.int d) (some (.ref al)):=by
  have h0:=fl.k (k:=Sum.inl d) A.aF
  rw[FF]at h0
  exact h0
 refine⟨_,rfl,a.h,aH,dx,_,_,rfl,cc,T.cl,T.qT,r5 .., _,rfl,a.pu,_,rfl,w2,al,ys,rfl,aM.of sQ,VG (K:=K) (a:=al) (N:=ys.length) (fun i σ av=>∃(lo1:Addr) (b7 dC:Option V),σ=[some (.ref a.h),some (.int d),b7,dC]∧cT bf aH av a lo1 pl (x.ee d ((x.c7 d).reverse.take i)) aT∧eN a lo pl lo1 pl H av)
  ⟨lo,none,none,rfl,A,eN.refl ..⟩ (fun i σ av _ ⟨lo1,_,_,_,bA,_⟩=>?_) ?_ ?_⟩
 ·obtain⟨us,gM,gC⟩:=listAt bA mG
  exact⟨us,by rw[a9.length gC,length_map,gR],aM.of gM⟩
 ·rintro i v σ av aP FH ⟨lo1,b7,dC,rfl,bA,cy⟩
  obtain⟨us,gM,gC⟩:=listAt bA mG
  obtain⟨z,hz,o4⟩:=qL gC (FH us (aM.of gM))
  obtain⟨c,c3,di,rfl,ai,bE,b4⟩:=gj o4
  cases bE.int_inv
  cases b4.int_inv
  have aas:=mem_of_getElem? hz
  have aar:z.1<(x.ee d ((x.c7 d).reverse.take i)).ay.length:=by rw[vM];exact m7.2.2.2 z aas
  have aaZ:(x.ee d ((x.c7 d).reverse.take i)).fits 1:=aq.fits.ee (R.fits (by rw[length_take,length_reverse];omega)) fun w hw=>m7.2.2.2 w (mem_reverse.mp (mem_of_mem_take hw))
  refine⟨c,_,rfl,aO.of ai,rfl,_,_,rfl,_,_,rfl,rfl,?_⟩
  obtain⟨jm,hb⟩:=bA.b1
  refine⟨_,rfl,a.h,jm,_,rfl,hb,(by kernel_rfl),_,rfl,_,rfl,_,rfl,a,lo1,pl,_,aT,d,z.1,z.2,rfl,bA,aar,aaZ,fun p8 aS cn fo=>?_⟩
  have ja:(x.c7 d).reverse.take (i+1)=(x.c7 d).reverse.take i++[z]:=by
   rw[take_add_one,getElem?_reverse (by omega),←gR,hz]
   rfl
  refine⟨p8,_,_,rfl,?_,cy.trans fo⟩
  rw[ja,Iz]
  exact cn
 ·rintro σ av ⟨lo1,b7,dC,rfl,bA,cy⟩
  rw[gR,←length_reverse,take_length]at bA
  have iF:x.ee d (x.c7 d).reverse=x.dU d:=g9.symm
  rw[iF]at bA
  obtain⟨jm,hb⟩:=bA.b1
  have sU:(x.dU d).isOpen d=true:=by
   unfold aq.isOpen
   rw[g9,mG]
   exact aD
  have nX:(x.dU d).fits 1:=by
   rw[g9]
   exact aq.fits.ee (R.fits (by rw[length_reverse];omega)) fun w hw=>m7.2.2.2 w (mem_reverse.mp hw)
  refine⟨_,rfl,a.h,jm,_,rfl,hb,(by kernel_rfl),_,rfl,a,lo1,pl,x.dU d,aT,n,d,rfl,bA,nX,By,?_⟩
  rw[sU,if_neg (fun z=>nomatch z)]
  intro p8 aS cn fo
  have aW:=q p8 _ aT aS (by rw[aY];exact cn) (le_succ _) (cy.trans fo)
  rw[aY]at aW
  exact ud.mp aW
def CU (bf aH:Addr):dn:=fun vs H Q _=>∃(h dx bP:Addr) (ps:List Int) (room:Int),vs=[.ref h,.ref bP,.int room]∧H h=some (.ins aH dx [])∧H bP=some (.lst (ps.map V.int)) ∧
 ∀(a:eh) (lo:Addr) (af:ao),a.h=h→cT bf aH af a lo [] (b9 ps room) []→(∀b,b∈a.gB lo []→b=h∨H b=none)→(∀b o,H b=some o→b≠h→af b=some o)→Q .cS af
def p4:bZ→Prop
 | .put d p _=>dj d∧dj p
 | .fin d=>dj d
 | .drop d=>dj d
 | .look p=>dj p
 | .carry p=>dj p
 | _=>True
def Cz (bf aH cW cM c6 cV:Addr):dn:=fun vs H Q E=>∃(a:eh) (lo:Addr) (pl:List (Int × Addr)) (x:aq) (aT:List (Key × V)) (n:Nat) (v:V) (e:bZ),vs=[.ref a.h,v]∧Ready bf aH H a lo pl x aT n∧Rep H e.D v∧p4 e∧After bf aH cW cM c6 cV (.str "done") a lo pl x aT H Q E e
def CB (bf aH:Addr):dn:=fun vs H Q _=>∃(a:eh) (lo:Addr) (pl:List (Int × Addr)) (x:aq) (aT:List (Key × V)) (n:Nat) (v:V) (e:bZ),vs=[.ref a.h,v]∧Ready bf aH H a lo pl x aT n∧Rep H e.D v∧p4 e ∧
 ∀lo' hx hP af,cT bf aH af a lo' hx (x.a5 e).1 hP→hP.length≤aT.length+1→eN a lo pl lo' hx H af→Q (x.a5 e).2.v af
theorem Wr (c ak st pu bB:Addr) (room:Int):d9 "bound" (.int 0) (d9 "takers" (.ref bB) (d9 "puts" (.ref pu) (d9 "begins" (.int 0) (d9 "strokes" (.ref st) (d9 "room" (.int room) (d9 "desk" (.ref ak) (d9 "cellar" (.ref c) [])))))))=hf c ak st pu bB room 0 0:=by kernel_rfl
theorem YB:dP wR wR (cR DA):=d2
theorem Vk {bf aH rH:Addr}{rM:FuncData}(F:bU K "__init__" "House.__init__" DA f fd) (B:ff mg) (T:iX K mg aH) (lW:pG K mg bf) (ac4:tQ K bf rH) (tT:bp P w K mg base bW 1 rH rM sC (zK bf)) (yT:Binds K rM sC []) :
  bp P w K mg base bW 3 f fd wR (CU bf aH):=by
 refine F.ok YB (fun vs H Q E h=>?_) (fun cz A outer s H vs Q E aE h=>?_)
 ·obtain⟨h,dx,bP,ps,room,rfl,_⟩:=h
  rfl
 obtain⟨h,dx,bP,ps,room,rfl,c5,aF,q⟩:=h
 refine⟨_,(bg (nF (ah 0) (C8 ac4 tT aE rfl lW.AX yT .nil cU (au (ah 1) (au (fx aN) aN))) rfl) (bg (nF (ah 0) (jd ow rfl B.lst ji (au (ah 1) aN)) rfl) (bg (nF (ah 0) (ah 2) rfl) (bg (nF (ah 0) (fx aN) rfl) (bg (nF (ah 0) aZ rfl) (bg (nF (ah 0) v5 rfl) (bg (nF (ah 0) v5 rfl) (bl (nF (ah 0) aZ rfl))))))))),?_⟩
 refine⟨_,rfl,c8,fun da aa5=>?_⟩
 intro c HD gP Z5 adI
 have s1:=bV aa5 (.lst [])
 have s2:bx (upd H da (.lst [])) (upd (upd (upd H da (.lst [])) HD (.own c)) c (.ins bf HD [])):=fun b o e=>by
  rw[aB (ct e gP),aB (ct e Z5)]
  exact e
 refine⟨c,HD,bP,da,ps.map V.int,[],rfl,aV,s2 _ _ (s1 _ _ aF),s2 _ _ aV,fun ce lo av Z7 E6 pA bw=>⟨rfl,?_⟩⟩
 have fu:bx H av:=fun b o e=>bw b o (s2 b o (s1 b o e)) (ct (s1 b o e) gP)
 have yR:H c=none:=s1.free gP
 have Gk:H ce=none:=(s1.trans s2).free Z7
 have Fw:H lo=none:=(s1.trans s2).free E6
 obtain⟨⟨dy,b7⟩,aG,aL,E8⟩:=pA
 have kO:c≠h:=fun z=>by rw[z,c5]at yR;cases yR
 have EI:ce≠h:=fun z=>by rw[z,c5]at Gk;cases Gk
 have EH:lo≠h:=fun z=>by rw[z,c5]at Fw;cases Fw
 refine⟨_,rfl,h,aH,dx,[],rfl,fu _ _ c5,T.cl,T.uh,(by show 0<1000;decide),?_⟩
 have kH:∀b o,H b=some o→b≠h→(upd av h (.ins aH dx (d9 "cellar" (.ref c) []))) b=some o:=fun b o e n=>by rw[aB n];exact fu b o e
 have oU:∀b,(upd av h (.ins aH dx (d9 "cellar" (.ref c) []))) b=none→H b=none∧b≠h:=fun b e=>by
  have n:b≠h:=fun z=>by rw[z,aV]at e;cases e
  rw[aB n]at e
  exact⟨fu.free e,n⟩
 have ck:(upd av h (.ins aH dx (d9 "cellar" (.ref c) []))) h=some (.ins aH dx (d9 "cellar" (.ref c) [])):=aV
 have N2:(upd av h (.ins aH dx (d9 "cellar" (.ref c) []))) c=some (.ins bf dy (l1 ce lo)):=by rw[aB kO];exact b7
 have ta:(upd av h (.ins aH dx (d9 "cellar" (.ref c) []))) ce=some (.lst (ps.map V.int)):=by rw[aB EI];exact aG
 have s_:(upd av h (.ins aH dx (d9 "cellar" (.ref c) []))) lo=some (.lst []):=by rw[aB EH];exact aL
 generalize upd av h (.ins aH dx (d9 "cellar" (.ref c) []))=aS at kH oU ck N2 ta s_ ⊢
 have aaF:bP≠h:=dt aF c5 (fun z=>nomatch z)
 refine⟨_,rfl,bP,_,rfl,.inl (aM.of (kH _ _ aF aaF)),fun ak sY=>?_⟩
 obtain⟨abw,EA⟩:=oU ak sY
 have EB:∀b o,aS b=some o→b≠ak:=fun b o e=>ct e sY
 refine⟨_,rfl,h,aH,dx,_,rfl,(by rw[aB EA.symm];exact ck),T.cl,T.oD,(le_of_ble_eq_true (by kernel_rfl)),?_⟩
 have xw:∀b o,aS b=some o→b≠h→(upd (upd aS ak (.lst (ps.map V.int))) h (.ins aH dx (d9 "desk" (.ref ak) (d9 "cellar" (.ref c) [])))) b=some o:=fun b o e n=>by rw[aB n,aB (EB b o e)];exact e
 have Bd:∀b,(upd (upd aS ak (.lst (ps.map V.int))) h (.ins aH dx (d9 "desk" (.ref ak) (d9 "cellar" (.ref c) [])))) b=none→aS b=none∧b≠h:=fun b e=>by
  have n:b≠h:=fun z=>by rw[z,aV]at e;cases e
  rw[aB n]at e
  have dI:b≠ak:=fun z=>by rw[z,aV]at e;cases e
  rw[aB dI]at e
  exact⟨e,n⟩
 have dv:(upd (upd aS ak (.lst (ps.map V.int))) h (.ins aH dx (d9 "desk" (.ref ak) (d9 "cellar" (.ref c) [])))) h=some (.ins aH dx (d9 "desk" (.ref ak) (d9 "cellar" (.ref c) []))):=aV
 have oV:(upd (upd aS ak (.lst (ps.map V.int))) h (.ins aH dx (d9 "desk" (.ref ak) (d9 "cellar" (.ref c) [])))) ak=some (.lst (ps.map V.int)):=by rw[aB EA,aV]
 have xo:=xw _ _ N2 kO
 have oX:=xw _ _ ta EI
 have oW:=xw _ _ s_ EH
 have dN:ce≠ak:=EB _ _ ta
 have gr:lo≠ak:=EB _ _ s_
 have p3:∀b o,H b=some o→b≠h→_:=fun b o e n=>xw b o (kH b o e n) n
 generalize upd (upd aS ak (.lst (ps.map V.int))) h (.ins aH dx (d9 "desk" (.ref ak) (d9 "cellar" (.ref c) [])))=cB at xw Bd dv oV xo oX oW p3 ⊢
 refine⟨_,rfl,_,rfl,h,aH,dx,_,rfl,dv,T.cl,T.Mk,(le_of_ble_eq_true (by kernel_rfl)),?_⟩
 refine⟨c8,fun st i3=>?_⟩
 have sy:st≠h:=fun z=>by rw[z,aV]at i3;cases i3
 rw[aB sy]at i3
 obtain⟨Yv,_⟩:=Bd st i3
 have ZJ:=(oU st Yv).1
 refine⟨_,rfl,h,aH,dx,_,rfl,(by rw[aB sy.symm];exact aV),T.cl,T.zF,(le_of_ble_eq_true (by kernel_rfl)),?_⟩
 refine⟨_,rfl,h,aH,dx,_,rfl,aV,T.cl,T.Dc,(le_of_ble_eq_true (by kernel_rfl)),?_⟩
 intro pu kN
 have sz:pu≠h:=fun z=>by rw[z,aV]at kN;cases kN
 rw[aB sz,aB sz]at kN
 have M9:pu≠st:=fun z=>by rw[z,aV]at kN;cases kN
 rw[aB M9,aB sz]at kN
 have ZP:=(oU pu (Bd pu kN).1).1
 refine⟨_,rfl,h,aH,dx,_,rfl,(by rw[aB sz.symm];exact aV),T.cl,T.qT,(le_of_ble_eq_true (by kernel_rfl)),?_⟩
 intro bB j9
 have sv:bB≠h:=fun z=>by rw[z,aV]at j9;cases j9
 rw[aB sv]at j9
 have Ez:bB≠pu:=fun z=>by rw[z,aV]at j9;cases j9
 rw[aB Ez,aB sv,aB sv]at j9
 have M8:bB≠st:=fun z=>by rw[z,aV]at j9;cases j9
 rw[aB M8,aB sv]at j9
 have ZC:=(oU bB (Bd bB j9).1).1
 refine⟨_,rfl,h,aH,dx,_,rfl,(by rw[aB sv.symm];exact aV),T.cl,T.C_,(le_of_ble_eq_true (by kernel_rfl)),?_⟩
 refine⟨_,rfl,h,aH,dx,_,rfl,aV,T.cl,T.wu,(le_of_ble_eq_true (by kernel_rfl)),?_⟩
 rw[Wr]
 have fin:∀b o,cB b=some o→b≠h→b≠st→b≠pu→b≠bB→∀cc b7 dC hW e7 e3 ed eg hj:fH,(upd (upd (upd (upd (upd (upd (upd (upd (upd cB h cc) st b7) h dC) h hW) pu e7) h e3) bB ed) h eg) h hj) b=some o:=fun b o e k1 k2 k3 ny cc b7 dC hW e7 e3 ed eg hj=>by
  rw[aB k1,aB k1,aB ny,aB k1,aB k3,aB k1,aB k1,aB k2,aB k1]
  exact e
 have nn:∀b o,cB b=some o→b≠st∧b≠pu∧b≠bB:=fun b o e=>⟨ct e i3,ct e kN,ct e j9⟩
 refine q ⟨h,c,ce,ak,pu,st,bB⟩ lo _ rfl (cT.init (dx:=dx) (dy:=dy) aV ?_ ?_ ?_ ?_ ?_ ?_ ?_ dN ?_ ?_ E8.symm gr ?_ Ez kO) ?_ ?_
 ·exact fin _ _ xo kO (nn _ _ xo).1 (nn _ _ xo).2.1 (nn _ _ xo).2.2 _ _ _ _ _ _ _ _ _
 ·exact fin _ _ oX EI (nn _ _ oX).1 (nn _ _ oX).2.1 (nn _ _ oX).2.2 _ _ _ _ _ _ _ _ _
 ·exact fin _ _ oW EH (nn _ _ oW).1 (nn _ _ oW).2.1 (nn _ _ oW).2.2 _ _ _ _ _ _ _ _ _
 ·exact fin _ _ oV EA (nn _ _ oV).1 (nn _ _ oV).2.1 (nn _ _ oV).2.2 _ _ _ _ _ _ _ _ _
 ·rw[aB sy,aB sy,aB M8.symm,aB sy,aB M9.symm,aB sy,aB sy,aV]
 ·rw[aB sz,aB sz,aB Ez.symm,aB sz,aV]
 ·rw[aB sv,aB sv,aV]
 ·exact (nn _ _ oX).1
 ·exact (nn _ _ oV).1
 ·exact (nn _ _ oW).1
 ·intro b aa
  have u3:b∈[lo,c,bB,h,ce,ak,pu,st]:=aa
  simp only[mem_cons,not_mem_nil,or_false]at u3
  rcases u3 with z | z | z | z | z | z | z | z
  ·rw[z];exact .inr Fw
  ·rw[z];exact .inr yR
  ·rw[z];exact .inr ZC
  ·rw[z];exact .inl rfl
  ·rw[z];exact .inr Gk
  ·rw[z];exact .inr abw
  ·rw[z];exact .inr ZP
  ·rw[z];exact .inr ZJ
 ·intro b o e n
  have bS:=p3 b o e n
  exact fin b o bS n (nn _ _ bS).1 (nn _ _ bS).2.1 (nn _ _ bS).2.2 _ _ _ _ _ _ _ _ _
theorem U5 (x:aq) (d p k:Int):∃w,(x.a5 (.put d p k)).2=.word w:=by
 rcases Ia x (.put d p k) with ⟨i,h⟩ | h | h | h | h | h
 ·exfalso
  unfold aq.a5 at h
  cases e:x.refusal (.put d p k) with
  | some w=>rw[e]at h;cases h
  | none =>
   rw[e]at h
   have h':(if (x.full 2).2=true then ((x.full 2).1,cY.word "no room") else ((((x.full 2).1.c1 d p.toNat).putIn d p.toNat k),.word "done")).2=.num i:=h
   split at h' <;> cases h'
 all_goals exact⟨_,h⟩
theorem UE (x:aq) (d:Int):∃w,(x.a5 (.drop d)).2=.word w:=by
 unfold aq.a5
 cases x.refusal (.drop d) with
 | some w=>exact⟨w,rfl⟩
 | none=>exact⟨_,rfl⟩
theorem YD:dP lz lz (cR C4):=d2
theorem XZ {bf aH cW cM c6 cV:Addr}{lO:Addr}{om:FuncData}{Sa:Addr}{dL:FuncData}{h2:Addr}{iT:FuncData}{jR:Addr}{lT:FuncData}{fW:Addr}{gG:FuncData}{jS:Addr}{lU:FuncData}{jP:Addr}{lR:FuncData}(F:bU K "do_deed" "do_deed" C4 f fd) (T:iX K mg aH) (qD:bp P w K mg base (eb P w) 6 lO om lA (CW bf aH cW cM c6 cV)) (qy:Binds K om lA []) (qm:Meth K aH "begin" lO)
  (HX:bp P w K mg base (eb P w) 2 Sa dL ie (Dk bf aH cW cM c6 cV)) (HJ:Binds K dL ie []) (Hi:Meth K aH "look" Sa)
  (mE:bp P w K mg base (eb P w) 6 h2 iT kK (DX bf aH cW cM c6 cV)) (mC:Binds K iT kK []) (kk:Meth K aH "put" h2)
  (qB:bp P w K mg base (eb P w) 3 jR lT iB (z2 bf aH cW cM c6 cV)) (qw:Binds K lT iB []) (mN:Meth K aH "end" jR)
  (hI:bp P w K mg base (eb P w) 4 fW gG iB (Dm bf aH cW cM c6 cV)) (hH:Binds K gG iB []) (g0:Meth K aH "drop" fW)
  (qC:bp P w K mg base (eb P w) 3 jS lU ie (zJ bf aH cM)) (qx:Binds K lU ie []) (ql:Meth K aH "carry" jS)
  (pv:bp P w K mg base bW 3 jP lR lA (z3 bf aH)) (pd:Binds K lR lA []) (o8:Meth K aH "cut" jP):bp P w K mg base (eb P w) 7 f fd lz (Cz bf aH cW cM c6 cV):=by
 refine F.nP YD (fun vs H Q h7 h=>?_) (fun cz A outer s H vs Q h7 aE h=>?_)
 ·obtain⟨a,lo,pl,x,aT,n,v,e,rfl,_⟩:=h
  rfl
 obtain⟨a,lo,pl,x,aT,n,v,e,rfl,R,bX,aJ,q⟩:=h
 have A:=R.vn
 obtain⟨dx,cc⟩:=A.b1
 refine⟨_,(bg (c_ (cX el (bK cC (ah 1) aZ (fun _ _=>rfl)) bJ (cP _)) (bl (dH (zE (ah 0) T.cl qm qD (cj aE) qy .nil (j3 fun _ _ z=>z)))) dZ) (bg (c_ (cX el (bK cC (ah 1) aZ (fun _ _=>rfl)) bJ (cP _)) (bl (dH (g_ (ah 0) T.cl Hi HX (cj aE) HJ .nil (j3 fun _ _ z=>z) (au (bK cC (ah 1) aZ (fun _ _=>rfl)) aN)))) dZ) (bg (c_ (cX el (bK cC (ah 1) aZ (fun _ _=>rfl)) bJ (cP _)) (bl (dD (g_ (ah 0) T.cl kk mE (cj aE) mC .nil (j3 fun _ _ z=>z) (au (bK cC (ah 1) aZ (fun _ _=>rfl)) (au (bK cC (ah 1) aZ (fun _ _=>rfl)) (au (bK cC (ah 1) aZ (fun _ _=>rfl)) aN)))))) (bl (c_ (cX el (bK cC (ah 1) aZ (fun _ _=>rfl)) bJ (cP _)) (bl (dD (g_ (ah 0) T.cl mN qB (cj aE) qw .nil (j3 fun _ _ z=>z) (au (bK cC (ah 1) aZ (fun _ _=>rfl)) aN)))) (bl (c_ (cX el (bK cC (ah 1) aZ (fun _ _=>rfl)) bJ (cP _)) (bl (dD (g_ (ah 0) T.cl g0 hI (cj aE) hH .nil (j3 fun _ _ z=>z) (au (bK cC (ah 1) aZ (fun _ _=>rfl)) aN)))) (bl (c_ (cX el (bK cC (ah 1) aZ (fun _ _=>rfl)) bJ (cP _)) (bl (dD (g_ (ah 0) T.cl ql qC (cj aE) qx .nil (j3 fun _ _ z=>z) (au (bK cC (ah 1) aZ (fun _ _=>rfl)) aN)))) (bl (c_ (cX el (bK cC (ah 1) aZ (fun _ _=>rfl)) bJ (cP _)) (bl (dD (zE (ah 0) T.cl o8 pv (cj aE) pd .nil cU))) dZ))))))))) (bl (dH bJ))))),?_⟩
 cases e with
 | begin =>
  obtain⟨c,c3,rfl,ai,bE⟩:=qM bX
  cases bE.str_inv
  refine⟨_,rfl,c,_,_,_,rfl,rfl,aO.of ai,rfl,rfl,_,rfl,en rfl ?_⟩
  refine⟨_,rfl,a.h,dx,_,rfl,cc,(by kernel_rfl),a,lo,pl,x,aT,n,rfl,R,fun lo' hx hP af k_ l m=>?_⟩
  have h:=q lo' hx hP af k_ l m
  have aY:(x.a5 .begin).2=if (x.began.full 1).2=true then cY.word "no room" else .num x.begun:=by
   show (if (x.began.full 1).2=true then ((x.began.full 1).1,cY.word "no room") else ((x.began.full 1).1.opened,.num x.begun)).2=_
   split <;> rfl
  rw[aY]at h ⊢
  split at h
  ·rename_i z
   rw[if_pos z]
   exact v7.mpr (v7.mp h)
  ·rename_i z
   rw[if_neg z]
   exact h
 | look p =>
  obtain⟨c,c3,di,rfl,ai,bE,b4⟩:=gj bX
  cases bE.str_inv
  cases b4.int_inv
  refine⟨_,rfl,c,_,_,_,rfl,rfl,aO.of ai,rfl,rfl,_,rfl,bC (by decide +kernel) ?_⟩
  refine⟨_,rfl,c,_,_,_,rfl,rfl,aO.of ai,rfl,rfl,_,rfl,en rfl ?_⟩
  refine⟨_,rfl,a.h,dx,_,rfl,cc,(by kernel_rfl),_,rfl,c,_,_,_,rfl,rfl,aO.of ai,rfl,a,lo,pl,x,aT,n,p,rfl,R,aJ,fun lo' hx hP af k_ l m=>?_⟩
  have h:=q lo' hx hP af k_ l m
  by_cases tG:p<0∨(x.ay.length:Int)≤p
  ·have aY:=t4 (e:=.look p) (w:="no page") (if_pos tG)
   rw[aY]at h ⊢
   exact uc.mpr (uc.mp h)
  ·have aY:=rV (x:=x) (e:=.look p) (if_neg tG)
   rw[aY]at h ⊢
   exact h
 | put d p k =>
  obtain⟨c,c3,di,n7,yl,rfl,ai,bE,b4,gZ,mj⟩:=zz bX
  cases bE.str_inv
  cases b4.int_inv
  cases gZ.int_inv
  cases mj.int_inv
  refine⟨_,rfl,c,_,_,_,rfl,rfl,aO.of ai,rfl,rfl,_,rfl,bC (by decide +kernel) ?_⟩
  refine⟨_,rfl,c,_,_,_,rfl,rfl,aO.of ai,rfl,rfl,_,rfl,bC (by decide +kernel) ?_⟩
  refine⟨_,rfl,c,_,_,_,rfl,rfl,aO.of ai,rfl,rfl,_,rfl,en rfl ?_⟩
  refine⟨_,rfl,a.h,dx,_,rfl,cc,(by kernel_rfl),_,rfl,c,_,_,_,rfl,rfl,aO.of ai,rfl,_,rfl,c,_,_,_,rfl,rfl,aO.of ai,rfl,_,rfl,c,_,_,_,rfl,rfl,aO.of ai,rfl,a,lo,pl,x,aT,n,d,p,k,rfl,R,aJ.1,aJ.2,fun lo' hx hP af k_ l m=>?_⟩
  have h:=q lo' hx hP af k_ l m
  obtain⟨w,hw⟩:=U5 x d p k
  rw[hw]at h ⊢
  exact h
 | fin d =>
  obtain⟨c,c3,di,rfl,ai,bE,b4⟩:=gj bX
  cases bE.str_inv
  cases b4.int_inv
  refine⟨_,rfl,c,_,_,_,rfl,rfl,aO.of ai,rfl,rfl,_,rfl,bC (by decide +kernel) ?_⟩
  refine⟨_,rfl,c,_,_,_,rfl,rfl,aO.of ai,rfl,rfl,_,rfl,bC (by decide +kernel) ?_⟩
  refine⟨_,rfl,c,_,_,_,rfl,rfl,aO.of ai,rfl,rfl,_,rfl,bC (by decide +kernel) ?_⟩
  refine⟨_,rfl,c,_,_,_,rfl,rfl,aO.of ai,rfl,rfl,_,rfl,en rfl ?_⟩
  refine⟨_,rfl,a.h,dx,_,rfl,cc,(by kernel_rfl),_,rfl,c,_,_,_,rfl,rfl,aO.of ai,rfl,a,lo,pl,x,aT,n,d,rfl,A,R.fits (by decide),aJ,?_⟩
  have ew:x.refusal (.fin d)=(if x.isOpen d=false then some ("no dealing":Str) else none):=rfl
  cases aD:x.isOpen d with
  | false =>
   rw[if_pos rfl]
   rw[aD,if_pos rfl]at ew
   have aY:=t4 ew
   have h:=q lo pl aT H (by rw[aY];exact A) (le_succ _) (eN.refl ..)
   rw[aY]at h
   exact zc.mp h
  | true =>
   rw[if_neg (fun z=>nomatch z)]
   rw[aD,if_neg (fun z=>nomatch z)]at ew
   have aY:=rV ew
   intro lo' af k_ m
   have h:=q lo' _ aT af (by rw[aY];exact k_) (le_succ _) m
   rw[aY]at h
   exact ud.mp h
 | drop d =>
  obtain⟨c,c3,di,rfl,ai,bE,b4⟩:=gj bX
  cases bE.str_inv
  cases b4.int_inv
  refine⟨_,rfl,c,_,_,_,rfl,rfl,aO.of ai,rfl,rfl,_,rfl,bC (by decide +kernel) ?_⟩
  refine⟨_,rfl,c,_,_,_,rfl,rfl,aO.of ai,rfl,rfl,_,rfl,bC (by decide +kernel) ?_⟩
  refine⟨_,rfl,c,_,_,_,rfl,rfl,aO.of ai,rfl,rfl,_,rfl,bC (by decide +kernel) ?_⟩
  refine⟨_,rfl,c,_,_,_,rfl,rfl,aO.of ai,rfl,rfl,_,rfl,bC (by decide +kernel) ?_⟩
  refine⟨_,rfl,c,_,_,_,rfl,rfl,aO.of ai,rfl,rfl,_,rfl,en rfl ?_⟩
  refine⟨_,rfl,a.h,dx,_,rfl,cc,(by kernel_rfl),_,rfl,c,_,_,_,rfl,rfl,aO.of ai,rfl,a,lo,pl,x,aT,n,d,rfl,R,aJ,fun lo' hx hP af k_ l m=>?_⟩
  have h:=q lo' hx hP af k_ l m
  obtain⟨w,hw⟩:=UE x d
  rw[hw]at h ⊢
  exact h
 | carry p =>
  obtain⟨c,c3,di,rfl,ai,bE,b4⟩:=gj bX
  cases bE.str_inv
  cases b4.int_inv
  refine⟨_,rfl,c,_,_,_,rfl,rfl,aO.of ai,rfl,rfl,_,rfl,bC (by decide +kernel) ?_⟩
  refine⟨_,rfl,c,_,_,_,rfl,rfl,aO.of ai,rfl,rfl,_,rfl,bC (by decide +kernel) ?_⟩
  refine⟨_,rfl,c,_,_,_,rfl,rfl,aO.of ai,rfl,rfl,_,rfl,bC (by decide +kernel) ?_⟩
  refine⟨_,rfl,c,_,_,_,rfl,rfl,aO.of ai,rfl,rfl,_,rfl,bC (by decide +kernel) ?_⟩
  refine⟨_,rfl,c,_,_,_,rfl,rfl,aO.of ai,rfl,rfl,_,rfl,bC (by decide +kernel) ?_⟩
  refine⟨_,rfl,c,_,_,_,rfl,rfl,aO.of ai,rfl,rfl,_,rfl,en rfl ?_⟩
  refine⟨_,rfl,a.h,dx,_,rfl,cc,(by kernel_rfl),_,rfl,c,_,_,_,rfl,rfl,aO.of ai,rfl,a,lo,pl,x,aT,p,rfl,A,aJ,R.fits (by decide),?_⟩
  by_cases tG:p<0∨(x.ay.length:Int)≤p
  ·rw[if_pos tG]
   have aY:=t4 (x:=x) (e:=.carry p) (w:="no page") (if_pos tG)
   have h:=q lo pl aT H (by rw[aY];exact A) (le_succ _) (eN.refl ..)
   rw[aY]at h
   exact uc.mp h
  ·rw[if_neg tG]
   have aY:=rV (x:=x) (e:=.carry p) (if_neg tG)
   intro lo' af k_ m
   have h:=q lo' pl aT af (by rw[aY];exact k_) (le_succ _) m
   rw[aY]at h
   exact ud.mp h
 | cut =>
  obtain⟨c,c3,rfl,ai,bE⟩:=qM bX
  cases bE.str_inv
  refine⟨_,rfl,c,_,_,_,rfl,rfl,aO.of ai,rfl,rfl,_,rfl,bC (by decide +kernel) ?_⟩
  refine⟨_,rfl,c,_,_,_,rfl,rfl,aO.of ai,rfl,rfl,_,rfl,bC (by decide +kernel) ?_⟩
  refine⟨_,rfl,c,_,_,_,rfl,rfl,aO.of ai,rfl,rfl,_,rfl,bC (by decide +kernel) ?_⟩
  refine⟨_,rfl,c,_,_,_,rfl,rfl,aO.of ai,rfl,rfl,_,rfl,bC (by decide +kernel) ?_⟩
  refine⟨_,rfl,c,_,_,_,rfl,rfl,aO.of ai,rfl,rfl,_,rfl,bC (by decide +kernel) ?_⟩
  refine⟨_,rfl,c,_,_,_,rfl,rfl,aO.of ai,rfl,rfl,_,rfl,bC (by decide +kernel) ?_⟩
  refine⟨_,rfl,c,_,_,_,rfl,rfl,aO.of ai,rfl,rfl,_,rfl,en rfl ?_⟩
  refine⟨_,rfl,a.h,dx,_,rfl,cc,(by kernel_rfl),a,lo,pl,x,aT,rfl,A,R.fits (by decide),R.AJ,fun lo' af k_ m=>?_⟩
  have aY:=rV (x:=x) (e:=.cut) rfl
  have h:=q lo' pl aT af (by rw[aY];exact k_) (le_succ _) m
  rw[aY]at h
  exact ud.mp h
structure w6 (K:PySem.W.Frag) (mg:Str→Option Value) (cW cM c6 cV:Addr):Prop extends tf K mg cW cM c6 cV where
 mt:∀p∈[cW,cM,c6,cV],∀q∈[cW,cM,c6,cV],exmOne K (.ref p) (.ref q)=some (p == q)
 a3:[cW,cM,c6,cV].Nodup
theorem UD {K:PySem.W.Frag}{mg:Str→Option Value}{cW cM c6 cV:Addr}(X:w6 K mg cW cM c6 cV):∀p∈([(cW,"no dealing"),(cM,"no page"),(c6,"taken"),(cV,"no room")]:List (Addr × Str)),∀q∈([(cW,"no dealing"),(cM,"no page"),(c6,"taken"),(cV,"no room")]:List (Addr × Str)),exmOne K (.ref p.1) (.ref q.1)=some (p.1 == q.1):=fun p aF q bk=>by
 refine X.mt p.1 ?_ q.1 ?_
 ·have:=List.mem_map_of_mem (f:=(·.1)) aF
  exact this
 ·have:=List.mem_map_of_mem (f:=(·.1)) bk
  exact this
theorem VI {K:PySem.W.Frag}{mg:Str→Option Value}{cW cM c6 cV:Addr}(X:w6 K mg cW cM c6 cV) {Q:cG}:∀(c:Value) (H:ao),((c=.ref cW∧Q (.str "no dealing") H)∨(c=.ref cM∧Q (.str "no page") H)∨(c=.ref c6∧Q (.str "taken") H)∨(c=.ref cV∧Q (.str "no room") H)) →
  ∃C r,c=.ref C∧([(cW,"no dealing"),(cM,"no page"),(c6,"taken"),(cV,"no room")]:List (Addr × Str)).lookup C=some r∧Q (.str r) H:=fun c H h=>by
 have a3:=X.a3
 simp only[nodup_cons,mem_cons,not_mem_nil,or_false,not_or,not_false_eq_true,nodup_nil,and_true]at a3
 obtain⟨⟨a1,a2,jU⟩,⟨eY,gh⟩,cH⟩:=a3
 have vC:∀{x y:Addr},¬x=y→(y == x)=false:=fun h=>by simpa using fun z=>h z.symm
 rcases h with ⟨rfl,h⟩ | ⟨rfl,h⟩ | ⟨rfl,h⟩ | ⟨rfl,h⟩
 ·exact⟨cW,_,rfl,by rw[lookup_cons,beq_self_eq_true],h⟩
 ·exact⟨cM,_,rfl,by rw[lookup_cons,vC a1,lookup_cons,beq_self_eq_true],h⟩
 ·exact⟨c6,_,rfl,by rw[lookup_cons,vC a2,lookup_cons,vC eY,lookup_cons,beq_self_eq_true],h⟩
 ·exact⟨cV,_,rfl,by rw[lookup_cons,vC jU,lookup_cons,vC gh,lookup_cons,vC cH,lookup_cons,beq_self_eq_true],h⟩
theorem WK:dP lz lz (cR zL):=d2
theorem Um {bf aH cW cM c6 cV:Addr}{fW:Addr}{gG:FuncData}(F:bU K "answer" "answer" zL f fd) (X:w6 K mg cW cM c6 cV) (hI:bp P w K mg base (eb P w) 7 fW gG lz (Cz bf aH cW cM c6 cV)) (hH:Binds K gG lz []) (nx:keepIn K (.ref fW)=true) (g0:mg "do_deed"=some (.ref fW)):bp P w K mg base bW 8 f fd lz (CB bf aH):=by
 refine F.ok WK (fun vs H Q E h=>?_) (fun cz A outer s H vs Q E aE h=>?_)
 ·obtain⟨a,lo,pl,x,aT,n,v,e,rfl,_⟩:=h
  rfl
 obtain⟨a,lo,pl,x,aT,n,v,e,rfl,R,bX,aJ,q⟩:=h
 refine⟨_,(bl (WT (Q:=Q) (cs:=[(cW,"no dealing"),(cM,"no page"),(c6,"taken"),(cV,"no room")]) (e0:=(f7 bW P w K mg base lz "answer" (cR zL) f cz A outer s H E).env) (outer:=outer) rfl rfl rfl (.cons X.g0 rfl (by decide) (.cons X.kk rfl (by decide) (.cons X.rE rfl (by decide) (.cons X.mw rfl (by decide) .nil)))) (UD X)
   (fun pp=>bl (dH (dE hI (cj aE) rfl g0 nx hH .nil (XR (E:=fun c _ H=>(c=.ref cW∧Q (.str "no dealing") H)∨(c=.ref cM∧Q (.str "no page") H)∨(c=.ref c6∧Q (.str "taken") H)∨(c=.ref cV∧Q (.str "no room") H)) rfl rfl rfl (VI X)) (au (ah 0) (au (ah 1) aN))))))),?_⟩
 refine⟨fun v H h=>h,?_⟩
 refine⟨_,rfl,_,rfl,a,lo,pl,x,aT,n,v,e,rfl,R,bX,aJ,fun lo' hx hP af k_ l m=>?_⟩
 have h:=q lo' hx hP af k_ l m
 rcases Ia x e with ⟨i,hw⟩ | hw | hw | hw | hw | hw
 ·rw[hw]at h ⊢;exact h
 ·rw[hw]at h ⊢;exact ud.mpr h
 ·rw[hw]at h ⊢;exact zc.mpr (.inl ⟨rfl,h⟩)
 ·rw[hw]at h ⊢;exact uc.mpr (.inr (.inl ⟨rfl,h⟩))
 ·rw[hw]at h ⊢;exact JA.mpr (.inr (.inr (.inl ⟨rfl,h⟩)))
 ·rw[hw]at h ⊢;exact v7.mpr (.inr (.inr (.inr ⟨rfl,h⟩)))
def KS:dn:=fun vs H Q _=>∃(cl:Addr) (cs:List Int) (c:Int),vs=[.ref cl,.int c]∧H cl=some (.lst (cs.map V.int))∧cs.length≤63∧1≤c∧c≤40 ∧
 ∀(r:Addr) (us:List V) (aA:List bZ) (af:ao),bx H af→H r=none→af r=some (.lst us)→a9 af (aA.map bZ.D) us→aA.length≤63→(∀e∈aA,p4 e)→Q (.ref r) af
def bd (i:Int):Prop := -(10000000000000000000000000000000000000000:Int)≤i∧i≤10000000000000000000000000000000000000000
theorem bd.dj {i:Int}(h:bd i):dj i:=by
 obtain⟨aj,az⟩:=h
 refine Jm (lt_of_le_of_lt (m:=10 ^ 40) (by have e:(10:Nat) ^ 40=10000000000000000000000000000000000000000:=(by decide);rw[e];omega) ?_)
 exact lt_of_lt_of_le (by decide:10 ^ 40<2 ^ 200) (Nat.pow_le_pow_right (by decide) (by decide))
theorem Q_:(10:Int) ^ (30:Int).toNat=1000000000000000000000000000000:=by decide +kernel
def wF:List Str:=["begin","put","end","drop","look","carry","cut"]
def z8:List Str:=["begin","put","put","put","end","put","carry","put","drop","look","put","cut","end","put","begin","carry"]
theorem JY:∀w∈z8,w∈wF:=by decide +kernel
def um (s:Stmt):List Stmt:=match s with
 | .For _ _ b _ _=>b
 | _=>[]
structure hq (dG H:ao) (c4 cL cZ b2:Addr) (us:List V) (aA:List bZ) (os vs:List Int) (b:Int) (k:Nat):Prop where
 dj:bx dG H
 hw:H c4=some (.lst (z8.map V.str))
 bo:H cL=some (.lst us)
 jN:a9 H (aA.map bZ.D) us
 lN:aA.length=k
 qj:∀e∈aA,p4 e
 aD:H cZ=some (.lst (os.map V.int))
 lo:os.length≤k
 tp:∀o∈os,bd o
 aX:H b2=some (.lst (vs.map V.int))
 lv:vs.length≤k
 n9:∀o∈vs,bd o
 ph:0≤b
 eY:b≤k
 gw:dG cL=none
 kl:dG cZ=none
 fv:dG b2=none
 dN:c4≠cL
 dI:c4≠cZ
 eV:c4≠b2
 fN:cL≠cZ
 gr:cL≠b2
 gE:cZ≠b2
section
variable {dG H af:ao}{c4 cL cZ b2:Addr}{us:List V}{aA:List bZ}{os vs:List Int}{b:Int}{k:Nat}
theorem hq.same (D:hq dG H c4 cL cZ b2 us aA os vs b k) (s:bx H af):hq dG af c4 cL cZ b2 us aA os vs b k :=
 ⟨D.dj.trans s,s _ _ D.hw,s _ _ D.bo,a9.mono s _ _ D.jN,D.lN,D.qj,s _ _ D.aD,D.lo,D.tp,s _ _ D.aX,D.lv,D.n9,D.ph,D.eY,D.gw,D.kl,D.fv,D.dN,D.dI,D.eV,D.fN,D.gr,D.gE⟩
theorem hq.ask (D:hq dG H c4 cL cZ b2 us aA os vs b k) {e:bZ}{v:V}(aX:Rep H e.D v) (aJ:p4 e):hq dG (upd H cL (.lst (us++[v]))) c4 cL cZ b2 (us++[v]) (aA++[e]) os vs b (k+1):=by
 have kt:d1 H (upd H cL (.lst (us++[v]))):=fun c ys q=>by
  rw[aB (dt q D.bo (fun z=>nomatch z))]
  exact q
 have e8:=D.lo
 have gu:=D.lv
 have qn:=D.eY
 refine⟨D.dj.hr D.gw,by rw[aB D.dN];exact D.hw,aV,?_,by rw[length_append,D.lN];rfl,fun cF he=>?_,by rw[aB D.fN.symm];exact D.aD,by omega,D.tp,by rw[aB D.gr.symm];exact D.aX,by omega,D.n9,D.ph,by omega,D.gw,D.kl,D.fv,D.dN,D.dI,D.eV,D.fN,D.gr,D.gE⟩
 ·rw[map_append]
  exact (a9.keep kt _ _ (er bZ.f3 _) D.jN).append (.cons (Rep.keep kt _ _ (bZ.f3 _) aX) .nil)
 ·rcases mem_append.mp he with z | z
  ·exact D.qj cF z
  ·rw[mem_singleton.mp z];exact aJ
theorem hq.Yw (D:hq dG H c4 cL cZ b2 us aA os vs b k) {os':List Int}(aC:os'.length≤k) (aJ:∀o∈os',bd o):hq dG (upd H cZ (.lst (os'.map V.int))) c4 cL cZ b2 us aA os' vs b k:=by
 have kt:d1 H (upd H cZ (.lst (os'.map V.int))):=fun c ys q=>by
  rw[aB (dt q D.aD (fun z=>nomatch z))]
  exact q
 exact⟨D.dj.hr D.kl,by rw[aB D.dI];exact D.hw,by rw[aB D.fN];exact D.bo,a9.keep kt _ _ (er bZ.f3 _) D.jN,D.lN,D.qj,aV,aC,aJ,by rw[aB D.gE.symm];exact D.aX,D.lv,D.n9,D.ph,D.eY,D.gw,D.kl,D.fv,D.dN,D.dI,D.eV,D.fN,D.gr,D.gE⟩
theorem hq.MO (D:hq dG H c4 cL cZ b2 us aA os vs b k) {vs':List Int}(aC:vs'.length≤k) (aJ:∀o∈vs',bd o):hq dG (upd H b2 (.lst (vs'.map V.int))) c4 cL cZ b2 us aA os vs' b k:=by
 have kt:d1 H (upd H b2 (.lst (vs'.map V.int))):=fun c ys q=>by
  rw[aB (dt q D.aX (fun z=>nomatch z))]
  exact q
 exact⟨D.dj.hr D.fv,by rw[aB D.eV];exact D.hw,by rw[aB D.gr];exact D.bo,a9.keep kt _ _ (er bZ.f3 _) D.jN,D.lN,D.qj,by rw[aB D.gE];exact D.aD,D.lo,D.tp,aV,aC,aJ,D.ph,D.eY,D.gw,D.kl,D.fv,D.dN,D.dI,D.eV,D.fN,D.gr,D.gE⟩
theorem hq.YZ (D:hq dG H c4 cL cZ b2 us aA os vs b k) {n:Addr}{os':List Int}(aR:H n=none) (aC:os'.length≤k) (aJ:∀o∈os',bd o):hq dG (upd H n (.lst (os'.map V.int))) c4 cL n b2 us aA os' vs b k:=by
 have s:=bV aR (.lst (os'.map V.int))
 have nw:c4≠n:=ct D.hw aR
 have na:cL≠n:=ct D.bo aR
 have gO:b2≠n:=ct D.aX aR
 exact⟨D.dj.trans s,s _ _ D.hw,s _ _ D.bo,a9.mono s _ _ D.jN,D.lN,D.qj,aV,aC,aJ,s _ _ D.aX,D.lv,D.n9,D.ph,D.eY,D.gw,D.dj.free aR,D.fv,D.dN,nw,D.eV,na,D.gr,gO.symm⟩
theorem hq.begun (D:hq dG H c4 cL cZ b2 us aA os vs b (k+1)) (h:b+1≤((k+1:Nat):Int)):hq dG H c4 cL cZ b2 us aA os vs (b+1) (k+1) :=
 ⟨D.dj,D.hw,D.bo,D.jN,D.lN,D.qj,D.aD,D.lo,D.tp,D.aX,D.lv,D.n9,by have:=D.ph;omega,h,D.gw,D.kl,D.fv,D.dN,D.dI,D.eV,D.fN,D.gr,D.gE⟩
end
def tU (dG:ao) (cl:Addr) (c:Int) (c4 cL b2:Addr) (k:Nat) (σ:St) (H:ao):Prop :=
 ∃(cZ:Addr) (us:List V) (aA:List bZ) (os vs:List Int) (b:Int) (ed eg hj gL hc hb gq iM hQ:Option V),σ=[some (.ref cl),some (.int c),some (.ref c4),some (.ref cL),some (.ref cZ),some (.ref b2),some (.int b),ed,eg,hj,gL,hc,hb,gq,iM,hQ]∧hq dG H c4 cL cZ b2 us aA os vs b k
def LW (s:Stmt):List Stmt:=match s with
 | .If _ b _ _=>b
 | _=>[]
def DT (s:Stmt):List Stmt:=match s with
 | .If _ _ b _=>b
 | _=>[]
theorem hL:dP sA Aj (cR kC):=d2
theorem Vm {fW:Addr}{gG:FuncData}(F:bU K "_law_some_deeds" "_law_some_deeds" kC f fd) (B:ff mg) (hI:bp P w K mg base bW 1 fW gG sF Dn) (hH:Binds K gG sF []) (nx:keepIn K (.ref fW)=true) (g0:mg "_law_draw"=some (.ref fW)) :
  bp P w K mg base bW 2 f fd Aj KS:=by
 refine F.ok hL (fun vs H Q E h=>?_) (fun cz A outer s H vs Q E aE h=>?_)
 ·obtain⟨cl,cs,c,rfl,_⟩:=h
  rfl
 obtain⟨cl,cs,c,rfl,xU,ae4,cH,dh,q⟩:=h
 have bq:=ht aE
 obtain⟨adw,Za,MX⟩:∃t,hR (f7 bW P w K mg base sA "_law_some_deeds" (cR kC) f cz A outer s H E).mZ ((LW ((DT ((um ((iY kC).getD 6 (.Pass ⟨0,0,0,0⟩))).getD 10 (.Pass ⟨0,0,0,0⟩))).getD 0 (.Pass ⟨0,0,0,0⟩))).drop 2) t∧∀(D:Ends) (c4 cL cZ b2:Addr) (us:List V) (aA:List bZ) (os vs:List Int) (b:Int) (k:Nat) (ed hj gL gq:Option V) (r dA p d m:Int) (H1:ao),
   hq H H1 c4 cL cZ b2 us aA os vs b k→k<63→bd p→bd d→(∀bz af,tU H cl c c4 cL b2 (k+1) bz af→D.dk bz af)→t D [some (.ref cl),some (.int c),some (.ref c4),some (.ref cL),some (.ref cZ),some (.ref b2),some (.int b),ed,some (.int r),hj,gL,some (.int dA),some (.int p),gq,some (.int d),some (.int m)] H1:=by
  refine⟨_,(bg (cJ (i:=15) hL.a3 rfl (Or.inl rfl) (bK fa (fx (au (ah 15) (au (ah 15) (au (ah 11) (au (c0 sb aZ (ah 11)) aN))))) (dE hI (cj aE) rfl g0 nx hH .nil cU (au (ah 8) (au aZ (au aZ aN)))) (fun _ _=>rfl))) (bl (dD (ia plainAttrs_list PySem.F.slot_list_append PySem.F.type_list_append h_ (ah 3) (au (gH (au bJ (au (ah 14) (au (ah 12) (au (ah 15) aN))))) aN))))),?_⟩
  intro D c4 cL cZ b2 us aA os vs b k ed hj gL gq r dA p d m H1 dV aQ iH n1 fE
  have oN:us.length=aA.length:=by rw[a9.length dV.jN,length_map]
  have lN:=dV.lN
  refine⟨_,rfl,_,rfl,_,rfl,_,rfl,_,_,rfl,rfl,c8,fun t bF=>?_⟩
  refine⟨_,rfl,_,_,_,rfl,by decide,by decide,fun z nd acd=>?_⟩
  obtain⟨y,c3,di⟩:=ll (ns:=[m,m,dA,0 - dA]) (k:=z) nd acd
  have s1:=bV bF (.lst [.int m,.int m,.int dA,.int (0 - dA)])
  have g8:=dV.same s1
  refine⟨t,_,_,_,rfl,rfl,aM.of aV,di,?_⟩
  refine⟨_,rfl,.inl ⟨rfl,_,aM.of g8.bo⟩,_,rfl,_,rfl,_,rfl,c8,fun d_ p9=>?_⟩
  have iI:=g8.same (bV p9 (.tup [.str "put",.int d,.int p,.int y]))
  refine⟨cL,us,.ref d_,rfl,rfl,iI.bo,mR (by omega),fE _ _ ?_⟩
  exact⟨cZ,_,_,_,_,b,_,_,_,_,_,_,_,_,_,rfl,iI.ask (e:=.put d p y) (v:=.ref d_) (Rep.hs aV (.cons .ofStr (.cons .ofInt (.cons .ofInt (.cons .ofInt .nil))))) ⟨n1.dj,iH.dj⟩⟩
 obtain⟨adv,Yd,z4⟩:∃t,hR (f7 bW P w K mg base sA "_law_some_deeds" (cR kC) f cz A outer s H E).mZ ((LW ((DT ((DT ((um ((iY kC).getD 6 (.Pass ⟨0,0,0,0⟩))).getD 10 (.Pass ⟨0,0,0,0⟩))).getD 0 (.Pass ⟨0,0,0,0⟩))).getD 0 (.Pass ⟨0,0,0,0⟩))).drop 2) t∧∀(D:Ends) (c4 cL cZ b2:Addr) (us:List V) (aA:List bZ) (os vs:List Int) (b:Int) (k:Nat) (ed eg hj gL hc hb gq hQ:Option V) (d:Int) (H1:ao),
   hq H H1 c4 cL cZ b2 us aA os vs b k→k<100→(∀bz af,tU H cl c c4 cL b2 k bz af→D.dk bz af)→t D [some (.ref cl),some (.int c),some (.ref c4),some (.ref cL),some (.ref cZ),some (.ref b2),some (.int b),ed,eg,hj,gL,hc,hb,gq,some (.int d),hQ] H1:=by
  refine⟨_,(bl (U7 (i:=4) [14] ["_law_one","_law_dealing"] hL.a3 rfl rfl (ic.one (fv:="_law_dealing") (j:=14) rfl (by decide +kernel) (by decide +kernel) rfl (by decide +kernel) rfl rfl (by decide +kernel) rfl rfl rfl) rfl (jf (ah 4)) (fun C s1 H1 bG=>(cX kD (ah 0) (ah 1) (cP _))) (fun C s1 H1 bG=>(ah 0)))),?_⟩
  intro D c4 cL cZ b2 us aA os vs b k ed eg hj gL hc hb gq hQ d H1 dV aQ fE
  have lo:=dV.lo
  refine⟨_,rfl,cZ,rfl,⟨_,aM.of dV.aD⟩,fun n aR=>TS (K:=K) (fun z => !decide (V.int z=V.int d)) dV.aD aR (by omega) (fun z aS nv sW=>⟨_,rfl,_,rfl,rfl,_,rfl,sW⟩) (fun z aS nv sW=>⟨_,rfl,sW⟩) ?_⟩
  refine fE _ _ ⟨n,_,_,_,_,b,_,_,_,_,_,_,_,_,_,rfl,dV.YZ aR (le_trans (length_filter_le ..) lo) fun o aD=>dV.tp o (mem_filter.mp aD).1⟩
 obtain⟨ZH,F9,xg⟩:∃t,hR (f7 bW P w K mg base sA "_law_some_deeds" (cR kC) f cz A outer s H E).mZ ((um ((iY kC).getD 6 (.Pass ⟨0,0,0,0⟩))).drop 10) t∧∀(D:Ends) (c4 cL cZ b2:Addr) (us:List V) (aA:List bZ) (os vs:List Int) (b:Int) (k:Nat) (ed gL gq hQ:Option V) (r:Int) (ww:Str) (dA p d:Int) (H1:ao),
   hq H H1 c4 cL cZ b2 us aA os vs b k→k<63→ww∈wF→bd p→bd d→(∀bz af,tU H cl c c4 cL b2 (k+1) bz af→D.dk bz af)→t D [some (.ref cl),some (.int c),some (.ref c4),some (.ref cL),some (.ref cZ),some (.ref b2),some (.int b),ed,some (.int r),some (.str ww),gL,some (.int dA),some (.int p),gq,some (.int d),hQ] H1:=by
  refine⟨_,(bl (c_ (cX el (ah 9) bJ (cP _)) (bg (dD (ia plainAttrs_list PySem.F.slot_list_append PySem.F.type_list_append h_ (ah 3) (au (gH (au bJ aN)) aN))) (bg (dD (ia plainAttrs_list PySem.F.slot_list_append PySem.F.type_list_append h_ (ah 4) (au (ah 6) aN))) (bl (cJ (i:=6) hL.a3 rfl (Or.inl rfl) (c0 gI (ah 6) aZ))))) (bl (c_ (cX el (ah 9) bJ (cP _)) (bg (cJ (i:=15) hL.a3 rfl (Or.inl rfl) (c0 sb (dE hI (cj aE) rfl g0 nx hH .nil cU (au (ah 8) (au aZ (au aZ aN)))) aZ)) (bg (cJ (i:=15) hL.a3 rfl (Or.inl rfl) (bK fa (fx (au (ah 15) (au aZ aN))) (jd JS rfl B.int AB (au (uf uC (ah 15) aZ (cP _)) aN)) (fun _ _=>rfl))) Za)) (bl (c_ (mS (cX el (ah 9) bJ (cP _)) (cX el (ah 9) bJ (cP _))) (bg (dD (ia plainAttrs_list PySem.F.slot_list_append PySem.F.type_list_append h_ (ah 3) (au (gH (au (ah 9) (au (ah 14) aN))) aN))) (bg (c_ (cX JB (ah 14) (ah 4) (by with_unfolding_all rfl)) (bl (dD (ia plainAttrs_list PySem.F.slot_list_append PySem.F.type_list_append h_ (ah 5) (au (ah 14) aN)))) dZ) Yd)) (bl (c_ (cX el (ah 9) bJ (cP _)) (bl (dD (ia plainAttrs_list PySem.F.slot_list_append PySem.F.type_list_append h_ (ah 3) (au (gH (au bJ aN)) aN)))) (bl (dD (ia plainAttrs_list PySem.F.slot_list_append PySem.F.type_list_append h_ (ah 3) (au (gH (au (ah 9) (au (ah 12) aN))) aN)))))))))))),?_⟩
  intro D c4 cL cZ b2 us aA os vs b k ed gL gq hQ r ww dA p d H1 dV aQ hw iH n1 fE
  have oN:us.length=aA.length:=by rw[a9.length dV.jN,length_map]
  have lN:=dV.lN
  have lo:=dV.lo
  have lv:=dV.lv
  have c2:us.length<sizeLine:=mR (by omega)
  have over:∀(D:Ends) (ww:Str) (e:bZ) (t:Addr),H1 t=none→Rep (upd H1 t (.tup [.str ww,.int d])) e.D (.ref t)→p4 e→(∀bz af,tU H cl c c4 cL b2 (k+1) bz af→D.dk bz af) →
    hq H (upd (upd H1 t (.tup [.str ww,.int d])) cL (.lst (us++[.ref t]))) c4 cL cZ b2 (us++[.ref t]) (aA++[e]) os vs b (k+1):=fun D ww e t bF aX aJ _=>(dV.same (bV bF _)).ask aX aJ
  simp only[wF,mem_cons,not_mem_nil,or_false]at hw
  rcases hw with rfl | rfl | rfl | rfl | rfl | rfl | rfl
  ·
   refine⟨_,rfl,rfl,_,rfl,en rfl ?_⟩
   refine⟨_,rfl,.inl ⟨rfl,_,aM.of dV.bo⟩,c8,fun t bF=>?_⟩
   have g8:=dV.same (bV bF (.tup [.str "begin"]))
   refine⟨cL,us,.ref t,rfl,rfl,g8.bo,c2,?_⟩
   have iI:=g8.ask (e:=.begin) (v:=.ref t) (Rep.hs aV (.cons .ofStr .nil)) trivial
   have nC:=iI.Yw (os':=os++[b]) (by rw[length_append,length_singleton];omega) (fun o aD=>by
    rcases mem_append.mp aD with z | z
    ·exact dV.tp o z
    ·rw[mem_singleton.mp z]
     have:=dV.ph
     have:=dV.eY
     exact⟨by omega,by omega⟩)
   refine⟨_,rfl,.inl ⟨rfl,_,aM.of iI.aD⟩,_,rfl,cZ,_,.int b,rfl,rfl,iI.aD,mR (by rw[length_map];omega),?_⟩
   have iS:os.map V.int++[.int b]=(os++[b]).map V.int:=by rw[map_append];rfl
   rw[iS]
   refine⟨_,rfl,_,_,rfl,rfl,fE _ _ ?_⟩
   exact⟨cZ,_,_,_,_,b+1,_,_,_,_,_,_,_,_,_,rfl,nC.begun (by have:=dV.eY;omega)⟩
  ·
   refine⟨_,rfl,rfl,_,rfl,bC (by decide +kernel) ?_⟩
   refine⟨_,rfl,rfl,_,rfl,en rfl ?_⟩
   refine⟨_,rfl,_,_,_,rfl,by decide,by decide,fun du _ _=>⟨_,_,rfl,rfl,?_⟩⟩
   refine⟨_,rfl,c8,fun t1 sS=>?_⟩
   have g8:=dV.same (bV sS (.lst [.int (du - 20),.int 1000000000000]))
   refine⟨_,rfl,_,_,rfl,rfl,.inr ⟨_,rfl,Ly aV ?_ ?_ _⟩⟩
   ·exact MX D c4 cL cZ b2 us aA os vs b k _ _ _ _ r dA p d _ _ g8 aQ iH n1 fE
   ·exact MX D c4 cL cZ b2 us aA os vs b k _ _ _ _ r dA p d _ _ g8 aQ iH n1 fE
  ·
   refine⟨_,rfl,rfl,_,rfl,bC (by decide +kernel) ?_⟩
   refine⟨_,rfl,rfl,_,rfl,bC (by decide +kernel) ?_⟩
   refine⟨_,rfl,rfl,_,rfl,en rfl (eB ?_)⟩
   refine⟨_,rfl,.inl ⟨rfl,_,aM.of dV.bo⟩,_,rfl,_,rfl,c8,fun t bF=>?_⟩
   have iI:=over D "end" (.fin d) t bF (Rep.hs aV (.cons .ofStr (.cons .ofInt .nil))) n1.dj fE
   refine⟨cL,us,.ref t,rfl,rfl,(dV.same (bV bF _)).bo,c2,?_⟩
   refine⟨_,rfl,_,rfl,cZ,_,rfl,.inl (aM.of iI.aD),rfl,JM os,_,rfl,gn (fun _=>?_) (fun _=>?_)⟩
   ·refine⟨_,rfl,.inl ⟨rfl,_,aM.of iI.aX⟩,_,rfl,b2,_,.int d,rfl,rfl,iI.aX,mR (by rw[length_map];omega),?_⟩
    have iS:vs.map V.int++[.int d]=(vs++[d]).map V.int:=by rw[map_append];rfl
    rw[iS]
    have nC:=iI.MO (vs':=vs++[d]) (by rw[length_append,length_singleton];omega) (fun o aD=>by
     rcases mem_append.mp aD with z | z
     ·exact dV.n9 o z
     ·rw[mem_singleton.mp z];exact n1)
    exact z4 D c4 cL cZ b2 _ _ _ _ b (k+1) _ _ _ _ _ _ _ _ d _ nC (by omega) fE
   ·exact z4 D c4 cL cZ b2 _ _ _ _ b (k+1) _ _ _ _ _ _ _ _ d _ iI (by omega) fE
  ·
   refine⟨_,rfl,rfl,_,rfl,bC (by decide +kernel) ?_⟩
   refine⟨_,rfl,rfl,_,rfl,bC (by decide +kernel) ?_⟩
   refine⟨_,rfl,rfl,_,rfl,bC (by decide +kernel) ?_⟩
   refine⟨_,rfl,rfl,_,rfl,en rfl ?_⟩
   refine⟨_,rfl,.inl ⟨rfl,_,aM.of dV.bo⟩,_,rfl,_,rfl,c8,fun t bF=>?_⟩
   have iI:=over D "drop" (.drop d) t bF (Rep.hs aV (.cons .ofStr (.cons .ofInt .nil))) n1.dj fE
   refine⟨cL,us,.ref t,rfl,rfl,(dV.same (bV bF _)).bo,c2,?_⟩
   refine⟨_,rfl,_,rfl,cZ,_,rfl,.inl (aM.of iI.aD),rfl,JM os,_,rfl,gn (fun _=>?_) (fun _=>?_)⟩
   ·refine⟨_,rfl,.inl ⟨rfl,_,aM.of iI.aX⟩,_,rfl,b2,_,.int d,rfl,rfl,iI.aX,mR (by rw[length_map];omega),?_⟩
    have iS:vs.map V.int++[.int d]=(vs++[d]).map V.int:=by rw[map_append];rfl
    rw[iS]
    have nC:=iI.MO (vs':=vs++[d]) (by rw[length_append,length_singleton];omega) (fun o aD=>by
     rcases mem_append.mp aD with z | z
     ·exact dV.n9 o z
     ·rw[mem_singleton.mp z];exact n1)
    exact z4 D c4 cL cZ b2 _ _ _ _ b (k+1) _ _ _ _ _ _ _ _ d _ nC (by omega) fE
   ·exact z4 D c4 cL cZ b2 _ _ _ _ b (k+1) _ _ _ _ _ _ _ _ d _ iI (by omega) fE
  ·
   refine⟨_,rfl,rfl,_,rfl,bC (by decide +kernel) ?_⟩
   refine⟨_,rfl,rfl,_,rfl,bC (by decide +kernel) ?_⟩
   refine⟨_,rfl,rfl,_,rfl,bC (by decide +kernel) ?_⟩
   refine⟨_,rfl,rfl,_,rfl,bC (by decide +kernel) ?_⟩
   refine⟨_,rfl,rfl,_,rfl,bC (by decide +kernel) ?_⟩
   refine⟨_,rfl,.inl ⟨rfl,_,aM.of dV.bo⟩,_,rfl,_,rfl,c8,fun t bF=>?_⟩
   have g8:=dV.same (bV bF (.tup [.str "look",.int p]))
   refine⟨cL,us,.ref t,rfl,rfl,g8.bo,c2,fE _ _ ?_⟩
   exact⟨cZ,_,_,_,_,b,_,_,_,_,_,_,_,_,_,rfl,g8.ask (e:=.look p) (v:=.ref t) (Rep.hs aV (.cons .ofStr (.cons .ofInt .nil))) iH.dj⟩
  ·
   refine⟨_,rfl,rfl,_,rfl,bC (by decide +kernel) ?_⟩
   refine⟨_,rfl,rfl,_,rfl,bC (by decide +kernel) ?_⟩
   refine⟨_,rfl,rfl,_,rfl,bC (by decide +kernel) ?_⟩
   refine⟨_,rfl,rfl,_,rfl,bC (by decide +kernel) ?_⟩
   refine⟨_,rfl,rfl,_,rfl,bC (by decide +kernel) ?_⟩
   refine⟨_,rfl,.inl ⟨rfl,_,aM.of dV.bo⟩,_,rfl,_,rfl,c8,fun t bF=>?_⟩
   have g8:=dV.same (bV bF (.tup [.str "carry",.int p]))
   refine⟨cL,us,.ref t,rfl,rfl,g8.bo,c2,fE _ _ ?_⟩
   exact⟨cZ,_,_,_,_,b,_,_,_,_,_,_,_,_,_,rfl,g8.ask (e:=.carry p) (v:=.ref t) (Rep.hs aV (.cons .ofStr (.cons .ofInt .nil))) iH.dj⟩
  ·
   refine⟨_,rfl,rfl,_,rfl,bC (by decide +kernel) ?_⟩
   refine⟨_,rfl,rfl,_,rfl,bC (by decide +kernel) ?_⟩
   refine⟨_,rfl,rfl,_,rfl,bC (by decide +kernel) ?_⟩
   refine⟨_,rfl,rfl,_,rfl,bC (by decide +kernel) ?_⟩
   refine⟨_,rfl,rfl,_,rfl,en rfl ?_⟩
   refine⟨_,rfl,.inl ⟨rfl,_,aM.of dV.bo⟩,c8,fun t bF=>?_⟩
   have g8:=dV.same (bV bF (.tup [.str "cut"]))
   refine⟨cL,us,.ref t,rfl,rfl,g8.bo,c2,fE _ _ ?_⟩
   exact⟨cZ,_,_,_,_,b,_,_,_,_,_,_,_,_,_,rfl,g8.ask (e:=.cut) (v:=.ref t) (Rep.hs aV (.cons .ofStr .nil)) trivial⟩
 obtain⟨vh,Hx,ob⟩:∃t,hR (f7 bW P w K mg base sA "_law_some_deeds" (cR kC) f cz A outer s H E).mZ ((um ((iY kC).getD 6 (.Pass ⟨0,0,0,0⟩))).drop 7) t∧∀(D:Ends) (c4 cL cZ b2:Addr) (us:List V) (aA:List bZ) (os vs:List Int) (b:Int) (k:Nat) (ed gq iM hQ:Option V) (r:Int) (ww:Str) (fj dA p:Int) (H1:ao),
   hq H H1 c4 cL cZ b2 us aA os vs b k→k<63→ww∈wF→bd p→0≤dA→dA<1000000000000000000000000000000→(∀bz af,tU H cl c c4 cL b2 (k+1) bz af→D.dk bz af)→t D [some (.ref cl),some (.int c),some (.ref c4),some (.ref cL),some (.ref cZ),some (.ref b2),some (.int b),ed,some (.int r),some (.str ww),some (.int fj),some (.int dA),some (.int p),gq,iM,hQ] H1:=by
  refine⟨_,(bg (cJ (i:=13) hL.a3 rfl (Or.inl rfl) (c0 DR (fx (au (ah 6) (au (uA ur aZ) (au (c0 gI (c0 gI (ah 6) aZ) (ah 11)) (au (c0 sb (uA ur aZ) (ah 11)) aN))))) (ah 5))) (bg (cJ (i:=14) hL.a3 rfl (Or.inr rfl) (bK fa (ah 13) (dE hI (cj aE) rfl g0 nx hH .nil cU (au (ah 8) (au aZ (au (es gU rfl B.len PySem.boot_len (au (ah 13) aN)) aN)))) (fun _ _=>rfl))) (bg (c_ (oA (cX (Ke (Nat.lt_of_succ_lt bq)) (ah 4) (fx aN) (cP _)) (cX kD (c0 iZ (ah 10) aZ) aZ (cP _))) (bl (cJ (i:=14) hL.a3 rfl (Or.inr rfl) (bK fa (ah 4) (dE hI (cj aE) rfl g0 nx hH .nil cU (au (ah 8) (au aZ (au (es gU rfl B.len PySem.boot_len (au (ah 4) aN)) aN)))) (fun _ _=>rfl)))) dZ) F9))),?_⟩
  intro D c4 cL cZ b2 us aA os vs b k ed gq iM hQ r ww fj dA p H1 dV aQ hw iH f0 f1 fE
  have lo:=dV.lo
  have lv:=dV.lv
  have ad9:=dV.ph
  have P5:=dV.eY
  refine⟨_,rfl,_,rfl,_,rfl,_,_,rfl,rfl,_,rfl,_,_,rfl,rfl,_,rfl,_,rfl,_,_,rfl,rfl,c8,fun t bF=>?_⟩
  have s1:=bV bF (.lst [.int b,.int (-1),.int (b+1+dA),.int (-2 - dA)])
  have g8:=dV.same s1
  refine⟨_,rfl,t,b2,_,_,rfl,rfl,aV,g8.aX,le_of_lt (mR (by rw[length_map];show 4+vs.length≤2000;omega)),fun u hF=>?_⟩
  have da:[V.int b,.int (-1),.int (b+1+dA),.int (-2 - dA)]++vs.map V.int=(b :: -1::(b+1+dA)::(-2 - dA)::vs).map V.int:=rfl
  rw[da]
  have s2:=bV hF (.lst ((b :: -1::(b+1+dA)::(-2 - dA)::vs).map V.int))
  have iI:=g8.same s2
  have iF:(upd (upd H1 t (.lst [.int b,.int (-1),.int (b+1+dA),.int (-2 - dA)])) u (.lst ((b :: -1::(b+1+dA)::(-2 - dA)::vs).map V.int))) u=some (.lst ((b :: -1::(b+1+dA)::(-2 - dA)::vs).map V.int)):=aV
  generalize upd (upd H1 t (.lst [.int b,.int (-1),.int (b+1+dA),.int (-2 - dA)])) u (.lst ((b :: -1::(b+1+dA)::(-2 - dA)::vs).map V.int))=av at iI iF ⊢
  have uQ:∀o∈(b :: -1::(b+1+dA)::(-2 - dA)::vs),bd o:=fun o aD=>by
   simp only[mem_cons]at aD
   rcases aD with z | z | z | z | z
   ·rw[z];exact⟨by omega,by omega⟩
   ·rw[z];exact⟨by omega,by omega⟩
   ·rw[z];exact⟨by omega,by omega⟩
   ·rw[z];exact⟨by omega,by omega⟩
   ·exact dV.n9 o z
  have aaB:0<(b :: -1::(b+1+dA)::(-2 - dA)::vs).length:=Nat.succ_pos _
  generalize (b :: -1::(b+1+dA)::(-2 - dA)::vs)=ss at iF uQ aaB ⊢
  refine⟨_,rfl,_,rfl,_,rfl,u,_,rfl,.inl (aM.of iF),_,_,_,rfl,by decide,?_,fun z nd du=>?_⟩
  ·rw[length_map];omega
  obtain⟨dd,c3,di⟩:=ll (ns:=ss) (k:=z) nd (by rw[length_map]at du;exact du)
  have n1:bd dd:=uQ dd (mem_of_getElem? c3)
  refine⟨u,_,_,_,rfl,rfl,aM.of iF,di,?_⟩
  refine⟨_,rfl,c8,fun e he=>?_⟩
  have nC:=iI.same (bV he (.lst []))
  refine⟨cZ,e,_,rfl,rfl,nC.aD,aV,_,rfl,gn (fun ce=>?_) (fun ce=>?_)⟩
  ·refine⟨_,rfl,_,_,rfl,rfl,(by decide:(0:Int)<11),rfl,_,rfl,gn (fun _=>?_) (fun _=>?_)⟩
   ·refine⟨_,rfl,_,rfl,_,rfl,cZ,_,rfl,.inl (aM.of nC.aD),_,_,_,rfl,by decide,?_,fun z nd du=>?_⟩
    ·rw[length_map]
     cases os with
     | nil=>cases ce
     | cons o r=>rw[length_cons];omega
    obtain⟨e9,fh,eG⟩:=ll (ns:=os) (k:=z) nd (by rw[length_map]at du;exact du)
    refine⟨cZ,_,_,_,rfl,rfl,aM.of nC.aD,eG,?_⟩
    exact xg D c4 cL cZ b2 us aA os vs b k _ _ _ _ r ww dA p e9 _ nC aQ hw iH (dV.tp e9 (mem_of_getElem? fh)) fE
   ·exact xg D c4 cL cZ b2 us aA os vs b k _ _ _ _ r ww dA p dd _ nC aQ hw iH n1 fE
  ·refine dQ ?_
   exact xg D c4 cL cZ b2 us aA os vs b k _ _ _ _ r ww dA p dd _ nC aQ hw iH n1 fE
 obtain⟨t3,ck,fs⟩:∃t,hR (f7 bW P w K mg base sA "_law_some_deeds" (cR kC) f cz A outer s H E).mZ ((um ((iY kC).getD 6 (.Pass ⟨0,0,0,0⟩))).drop 3) t∧∀(D:Ends) (c4 cL cZ b2:Addr) (us:List V) (aA:List bZ) (os vs:List Int) (b:Int) (k:Nat) (gL hc hb gq iM hQ:Option V) (r:Int) (ww:Str) (H1:ao),
   hq H H1 c4 cL cZ b2 us aA os vs b k→k<cs.length→ww∈wF→(∀bz af,tU H cl c c4 cL b2 (k+1) bz af→D.dk bz af)→t D [some (.ref cl),some (.int c),some (.ref c4),some (.ref cL),some (.ref cZ),some (.ref b2),some (.int b),some (.int ((k:Nat):Int)),some (.int r),some (.str ww),gL,hc,hb,gq,iM,hQ] H1:=by
  refine⟨_,(bg (cJ (i:=10) hL.a3 rfl (Or.inl rfl) (dE hI (cj aE) rfl g0 nx hH .nil cU (au (ah 8) (au aZ (au aZ aN))))) (bg (cJ (i:=11) hL.a3 rfl (Or.inl rfl) (c0 iZ (bK fa (ah 0) (ah 7) (fun _ _=>rfl)) (c0 zS aZ aZ))) (bg (cJ (i:=12) hL.a3 rfl (Or.inl rfl) (dE hI (cj aE) rfl g0 nx hH .nil cU (au (ah 8) (au aZ (au (ah 1) aN))))) (bg (c_ (cX el (c0 iZ (ah 10) aZ) aZ (cP _)) (bl (cJ (i:=12) hL.a3 rfl (Or.inl rfl) (bK fa (fx (au (uA ur aZ) (au (ah 1) (au (c0 sb (uA ur aZ) (ah 11)) (au (c0 gI (ah 1) (ah 11)) aN))))) (c0 ug (ah 10) aZ) (fun _ _=>rfl)))) dZ) Hx)))),?_⟩
  intro D c4 cL cZ b2 us aA os vs b k gL hc hb gq iM hQ r ww H1 dV aQ hw fE
  obtain⟨z,acS,BG⟩:=ll (ns:=cs) (k:=((k:Nat):Int)) (by omega) (by omega)
  have AA:=dV.dj _ _ xU
  refine⟨_,rfl,_,_,_,rfl,by decide,by decide,fun fj o0 cc=>?_⟩
  refine⟨_,rfl,_,rfl,cl,_,_,_,rfl,rfl,aM.of AA,BG,_,_,rfl,rfl,⟨by decide,by decide,by decide⟩,_,_,rfl,rfl,(show (0:Int)<10 ^ (30:Int).toNat by decide),?_⟩
  have f0:0≤z % (10:Int) ^ (30:Int).toNat:=Int.emod_nonneg _ (by rw[Q_];decide)
  have f1:z % (10:Int) ^ (30:Int).toNat<1000000000000000000000000000000:=by
   have:=Int.emod_lt_of_pos z (show (0:Int)<10 ^ (30:Int).toNat by decide)
   rw[Q_]at this ⊢
   exact this
  dsimp only
  generalize z % (10:Int) ^ (30:Int).toNat=dA at f0 f1 ⊢
  refine⟨_,rfl,_,rfl,_,_,_,rfl,by decide,by omega,fun bP o6 fi=>?_⟩
  refine⟨_,rfl,_,_,rfl,rfl,(by decide:(0:Int)<11),rfl,_,rfl,gn (fun _=>?_) (fun _=>?_)⟩
  ·refine⟨_,rfl,_,rfl,_,rfl,_,rfl,_,_,rfl,rfl,_,rfl,_,rfl,_,_,rfl,rfl,c8,fun t bF=>?_⟩
   have g8:=dV.same (bV bF (.lst [.int (-1),.int c,.int (-1 - dA),.int (c+dA)]))
   refine⟨_,rfl,_,_,rfl,rfl,⟨by decide,by decide⟩,?_⟩
   obtain⟨y,c3,di⟩:=ll (ns:=[-1,c, -1 - dA,c+dA]) (k:=fj / 11) (by omega) (by show _<(4:Int);omega)
   refine⟨t,_,_,_,rfl,rfl,aM.of aV,di,?_⟩
   refine ob D c4 cL cZ b2 us aA os vs b k _ _ _ _ r ww fj dA y _ g8 (by omega) hw ?_ f0 f1 fE
   have RN:=mem_of_getElem? c3
   simp only[mem_cons,not_mem_nil,or_false]at RN
   rcases RN with z | z | z | z
   all_goals (rw[z];exact⟨by omega,by omega⟩)
  ·exact ob D c4 cL cZ b2 us aA os vs b k _ _ _ _ r ww fj dA bP _ dV (by omega) hw ⟨by omega,by omega⟩ f0 f1 fE
 obtain⟨d_,az,aW⟩:∃t,hR (f7 bW P w K mg base sA "_law_some_deeds" (cR kC) f cz A outer s H E).mZ ((iY kC).drop 2) t∧∀(c4:Addr) (H1:ao),bx H H1→H1 c4=some (.lst (z8.map V.str)) →
   t { dk:=fun _ av=>Q .cS av,n_:=Q } [some (.ref cl),some (.int c),some (.ref c4),none,none,none,none,none,none,none,none,none,none,none,none,none] H1:=by
  refine⟨_,(bg (cJ (i:=3) hL.a3 rfl (Or.inl rfl) (fx aN)) (bg (cJ (i:=4) hL.a3 rfl (Or.inl rfl) (fx aN)) (bg (cJ (i:=5) hL.a3 rfl (Or.inl rfl) (fx aN)) (bg (cJ (i:=6) hL.a3 rfl (Or.inl rfl) aZ) (bg (hM PassesOwn.never rfl (pF rfl B.i2 (au (es gU rfl B.len PySem.boot_len (au (ah 0) aN)) aN)) (fQ (i:=7) hL.a3 rfl (Or.inl rfl)) (bg (cJ (i:=8) hL.a3 rfl (Or.inl rfl) (c0 gI (bK fa (ah 0) (ah 7) (fun _ _=>rfl)) (c0 sd aZ (ah 7)))) (bg (cJ (i:=9) hL.a3 rfl (Or.inl rfl) (bK fa (ah 2) (c0 iZ (c0 gI (bK fa (ah 0) (ah 7) (fun _ _=>rfl)) (c0 sd aZ (ah 7))) aZ) (fun _ _=>rfl))) (bg (c_ (oA (cX (Ve (Nat.lt_of_succ_lt bq)) (ah 4) (fx aN) (cP _)) (cX z5 (c0 iZ (ah 7) aZ) aZ (cP _))) (bl (cJ (i:=9) hL.a3 rfl (Or.inl rfl) bJ)) dZ) ck)))) (bl (dH (ah 3)))))))),?_⟩
  intro c4 H1 s1 ko
  refine⟨c8,fun cL F5=>?_⟩
  have s2:=bV F5 (.lst [])
  have na:c4≠cL:=ct ko F5
  have aY:(upd H1 cL (.lst [])) cL=some (.lst []):=aV
  generalize upd H1 cL (.lst [])=av at s2 aY ⊢
  refine⟨c8,fun cZ A_=>?_⟩
  have s3:=bV A_ (.lst [])
  have no:c4≠cZ:=ct (s2 _ _ ko) A_
  have aaa:cL≠cZ:=ct aY A_
  have iS:(upd av cZ (.lst [])) cZ=some (.lst []):=aV
  generalize upd av cZ (.lst [])=aS at s3 iS ⊢
  refine⟨c8,fun b2 xM=>?_⟩
  have s4:=bV xM (.lst [])
  have gO:c4≠b2:=ct (s3 _ _ (s2 _ _ ko)) xM
  have Z_:cL≠b2:=ct (s3 _ _ aY) xM
  have Z0:cZ≠b2:=ct iS xM
  have ev:(upd aS b2 (.lst [])) b2=some (.lst []):=aV
  generalize upd aS b2 (.lst [])=cB at s4 ev ⊢
  have ho:=s1.trans (s2.trans (s3.trans s4))
  have adk:hq H cB c4 cL cZ b2 [] [] [] [] 0 0:=⟨ho,(s2.trans (s3.trans s4)) _ _ ko,(s3.trans s4) _ _ aY,.nil,rfl,(fun e he=>by cases he),s4 _ _ iS,le_refl _,(fun o aD=>by cases aD),ev,le_refl _,(fun o aD=>by cases aD),Int.le_refl _,Int.le_refl _,s1.free F5,(s1.trans s2).free A_,(s1.trans (s2.trans s3)).free xM,na,no,gO,aaa,Z_,Z0⟩
  have lcs:(cs.map V.int).length=cs.length:=length_map _
  refine⟨_,rfl,cl,_,rfl,.inl (aM.of (ho _ _ xU)),_,rfl,by omega,by omega,rY (tU H cl c c4 cL b2) ⟨cZ,[],[],[],[],0,none,none,none,none,none,none,none,none,none,rfl,adk⟩ ?_ ?_⟩
  ·rintro i σ dr aP ⟨xj,us,aA,os,vs,b,ed,eg,hj,gL,hc,hb,gq,iM,hQ,rfl,dV⟩
   have iQ:i<cs.length:=by omega
   have e0:(0:Int)+(i:Int)=((i:Nat):Int):=by omega
   rw[e0]
   obtain⟨z,acS,BG⟩:=ll (ns:=cs) (k:=((i:Nat):Int)) (by omega) (by omega)
   have AA:=dV.dj _ _ xU
   refine⟨_,rfl,_,rfl,cl,_,_,_,rfl,rfl,aM.of AA,BG,_,rfl,_,_,rfl,rfl,.inl ⟨by decide,by decide⟩,_,_,rfl,rfl,?_⟩
   refine⟨_,rfl,_,rfl,_,rfl,cl,_,_,_,rfl,rfl,aM.of AA,BG,_,rfl,_,_,rfl,rfl,.inl ⟨by decide,by decide⟩,_,_,rfl,rfl,_,_,rfl,rfl,(by decide:(0:Int)<16),?_⟩
   obtain⟨v,v1,v2⟩:=DW (xs:=z8.map V.str) (k:=(z+5 * ((i:Nat):Int)) % 16) (by omega) (by show _<(16:Int);omega)
   obtain⟨ww,PI,rfl⟩:=mem_map.mp (mem_of_getElem? v2)
   refine⟨c4,_,_,_,rfl,rfl,aM.of dV.hw,v1,?_⟩
   refine⟨_,rfl,c8,fun e he=>?_⟩
   have g8:=dV.same (bV he (.lst []))
   refine⟨xj,e,_,rfl,rfl,g8.aD,aV,_,rfl,gn (fun _=>?_) (fun _=>?_)⟩
   ·refine⟨_,rfl,_,_,rfl,rfl,(by decide:(0:Int)<4),_,_,rfl,rfl,_,rfl,gn (fun _=>?_) (fun _=>?_)⟩
    ·exact fs _ c4 cL xj b2 us aA os vs b i _ _ _ _ _ _ _ "begin" _ g8 iQ (by decide +kernel) fun bz af h=>h
    ·exact fs _ c4 cL xj b2 us aA os vs b i _ _ _ _ _ _ _ ww _ g8 iQ (JY ww PI) fun bz af h=>h
   ·refine dQ ?_
    exact fs _ c4 cL xj b2 us aA os vs b i _ _ _ _ _ _ _ ww _ g8 iQ (JY ww PI) fun bz af h=>h
  ·rintro σ dr ⟨xj,us,aA,os,vs,b,ed,eg,hj,gL,hc,hb,gq,iM,hQ,rfl,dV⟩
   exact⟨_,rfl,q cL us aA dr dV.dj dV.gw dV.bo dV.jN (by rw[dV.lN];omega) dV.qj⟩
 refine⟨_,bg (cJ (i:=2) hL.a3 rfl (Or.inl rfl) (fx (au bJ (au bJ (au bJ (au bJ (au bJ (au bJ (au bJ (au bJ aN)))))))))) (bg (cJ (i:=2) hL.a3 rfl (Or.inl rfl) (c0 DR (ah 2) (fx (au bJ (au bJ (au bJ (au bJ (au bJ (au bJ (au bJ (au bJ aN))))))))))) az),?_⟩
 refine⟨c8,fun fh aay=>⟨_,rfl,c8,fun eG ra=>?_⟩⟩
 have s1:=bV aay (.lst ([V.str "begin",V.str "put",V.str "put",V.str "put",V.str "end",V.str "put",V.str "carry",V.str "put"]))
 have s2:=bV ra (.lst ([V.str "drop",V.str "look",V.str "put",V.str "cut",V.str "end",V.str "put",V.str "begin",V.str "carry"]))
 exact⟨fh,eG,_,_,rfl,rfl,s2 _ _ aV,aV,le_of_ble_eq_true rfl,fun c4 aaw=>aW c4 _ (s1.trans (s2.trans (bV aaw _))) aV⟩
def IC:dn:=fun vs H Q _=>∃(bP dl:Addr) (ps:List Int) (room:Int) (us:List V) (aA:List bZ),vs=[.ref bP,.int room,.ref dl]∧H bP=some (.lst (ps.map V.int))∧1≤ps.length∧ps.length≤100∧H dl=some (.lst us)∧a9 H (aA.map bZ.D) us∧aA.length≤110∧(∀e∈aA,p4 e) ∧
 ∀(r:Addr) (bad:List Addr) (xs:List V) (af:ao),bx H af→H r=none→af r=some (.lst xs)→iy af bad ((b9 ps room).rows aA) xs→(∀v∈xs,∀b,v=V.ref b→H b=none∧b≠r)→Q (.ref r) af
theorem _root_.L2.cT.some {bf aH:Addr}{H:ao}{a:eh}{lo:Addr}{pl:List (Int × Addr)}{x:aq}{aT:List (Key × V)}(A:cT bf aH H a lo pl x aT) {b:Addr}(aa:b∈a.gB lo pl):H b≠none:=by
 obtain⟨dx,cc⟩:=A.b1
 obtain⟨dy,b7⟩:=A.co
 obtain⟨xs,aG,_⟩:=A.aC
 intro aR
 rcases mem_cons.mp aa with z | aa
 ·rw[z,aG]at aR;cases aR
 ·rcases mem_cons.mp aa with z | aa
  ·rw[z,b7]at aR;cases aR
  ·rcases mem_cons.mp aa with z | aa
   ·rw[z,A.kt]at aR;cases aR
   ·have dN:b≠a.h:=fun z=>by rw[z,cc]at aR;cases aR
    have dI:b≠a.c:=fun z=>by rw[z,b7]at aR;cases aR
    exact A.dM.there (by rw[f5 dN dI];exact aR) aa
theorem JX:∀(l:List bZ) (x:aq),(x.run l).begun≤x.begun+l.length
 | [],_=>le_refl _
 | e::r,x=>by
  have aj:=JX r (x.a5 e).1
  have az:=SQ x e
  show ((x.a5 e).1.run r).begun≤x.begun+(r.length+1)
  omega
theorem wM:dP ["pages","room","deeds","house","strokes","deed","before"] q0 (cR Cb):=d2
theorem S5 {bf aH rH:Addr}{rM:FuncData}{oh:Addr}{rN:FuncData}(F:bU K "strokes_of" "strokes_of" Cb f fd) (B:ff mg) (T:iX K mg aH) (ac3:tQ K aH rH) (tT:bp P w K mg base bW 3 rH rM wR (CU bf aH)) (yT:Binds K rM wR [])
  (pz:bp P w K mg base bW 8 oh rN lz (CB bf aH)) (pg:Binds K rN lz []) (o9:keepIn K (.ref oh)=true) (d7:mg "answer"=some (.ref oh)):bp P w K mg base bW 9 f fd q0 IC:=by
 refine F.ok wM (fun vs H Q E h=>?_) (fun cz A outer s H vs Q E aE h=>?_)
 ·obtain⟨bP,dl,ps,room,us,aA,rfl,_⟩:=h
  rfl
 obtain⟨bP,dl,ps,room,us,aA,rfl,aF,du,dK,l8,xd,adB,kM,q⟩:=h
 have oN:us.length=aA.length:=by rw[a9.length xd,length_map]
 refine⟨_,(bg (cJ (i:=3) wM.a3 rfl (Or.inl rfl) (C8 ac3 tT (cj aE) rfl T.AX yT .nil cU (au (ah 0) (au (ah 1) aN)))) (bg (cJ (i:=4) wM.a3 rfl (Or.inl rfl) (fx aN)) (bg (hM PassesOwn.never rfl (jf (ah 2)) (fQ (i:=5) wM.a3 rfl (Or.inl rfl)) (bg (cJ (i:=6) wM.a3 rfl (Or.inl rfl) (es gU rfl B.len PySem.boot_len (au (fb (ah 3) rfl) aN))) (bg (dD (dE pz (cj aE) rfl d7 o9 pg .nil cU (au (ah 3) (au (ah 5) aN)))) (bl (dD (ia plainAttrs_list PySem.F.slot_list_append PySem.F.type_list_append h_ (ah 4) (au (rZ r2 (fb (ah 3) rfl) (qO (ah 6)) ue) aN))))))) (bl (dH (ah 4)))))),?_⟩
 refine⟨_,rfl,_,rfl,?_⟩
 intro h dx ki E9 adH
 have BL:bx H (upd (upd H dx (.own h)) h (.ins aH dx [])):=fun b o e=>by
  rw[aB (ct e ki),aB (ct e E9)]
  exact e
 refine⟨h,dx,bP,ps,room,rfl,aV,BL _ _ aF,fun a lo H1 bo b5 wZ bw=>⟨rfl,?_⟩⟩
 subst bo
 have jz:bx H H1:=fun b o e=>bw b o (BL b o e) (ct e ki)
 have Zj:∀b,b∈a.gB lo []→H b=none:=fun b aa=>by
  rcases wZ b aa with z | z
  ·rw[z];exact ki
  ·exact BL.free z
 refine⟨c8,fun acc de=>?_⟩
 have s2:=bV de (.lst [])
 have aL:(upd H1 acc (.lst [])) acc=some (.lst []):=aV
 generalize upd H1 acc (.lst [])=av at s2 aL ⊢
 have Nz:H acc=none:=jz.free de
 have X5:∀b,b∈a.gB lo []→b≠acc:=fun b aa z=>b5.some aa (by rw[z];exact de)
 have bA:=b5.same s2
 have fu:=jz.trans s2
 clear b5 jz bw wZ BL s2
 refine⟨_,rfl,dl,rfl,⟨us,aM.of (fu _ _ l8)⟩,mL (K:=K) (a:=dl) (xs:=us) (fun i σ aS=>∃(lo:Addr) (pl:List (Int × Addr)) (aT:List (Key × V)) (xs:List V) (e7 e3:Option V),σ=[some (.ref bP),some (.int room),some (.ref dl),some (.ref a.h),some (.ref acc),e7,e3]∧cT bf aH aS a lo pl ((b9 ps room).run (aA.take i)) aT∧aT.length≤i∧bx H aS∧(∀b,b∈a.gB lo pl→H b=none∧b≠acc)∧aS acc=some (.lst xs)∧iy aS (acc::a.gB lo pl) ((b9 ps room).rows (aA.take i)) xs∧(∀v∈xs,∀b,v=V.ref b→H b=none∧b≠acc)∧i≤aA.length)
  ⟨lo,[],[],[],none,none,rfl,bA,le_refl _,fu,fun b aa=>⟨Zj b aa,X5 b aa⟩,aL,.nil,(fun v aX=>by cases aX),zero_le _⟩ (fun i σ aS _ ⟨_,_,_,_,_,_,_,_,_,eZ,_⟩=>aM.of (eZ _ _ l8)) ?_ ?_⟩
 ·rintro i v σ aS aX ⟨p8,EZ,NP,xs,e7,e3,rfl,cn,t3,eZ,Bc,bH,yY,h4,aP⟩
  have iQ:i<us.length:=(List.getElem?_eq_some_iff.mp aX).1
  obtain⟨e,he,re⟩:=qL xd aX
  have aa4:=mem_of_getElem? he
  have bF:aA.take (i+1)=aA.take i++[e]:=by rw[take_add_one,he];rfl
  have lt:(aA.take i).length=i:=by rw[length_take];omega
  have jw:=(zG (room:=room) du dK).run (aA.take i) (by omega)
  rw[lt,zero_add]at jw
  have HF:((b9 ps room).run (aA.take i)).begun≤900:=by
   have aj:=JX (aA.take i) (b9 ps room)
   have az:(b9 ps room).begun=0:=rfl
   omega
  have ON:xs.length=i:=by rw[←yY.1,zb,lt]
  obtain⟨lF,cc⟩:=cn.b1
  obtain⟨q4,f1,f2⟩:=cn.dg
  have aai:q4.length=((b9 ps room).run (aA.take i)).c9.length:=by rw[a9.length f2,length_map]
  refine⟨_,rfl,a.h,aH,lF,_,_,rfl,cc,T.cl,T.zF,Cc .., a.st,_,rfl,.inl (aM.of f1),?_⟩
  refine⟨_,rfl,_,rfl,a,p8,EZ,_,NP,i,v,e,rfl,⟨cn,jw,by omega,by omega,HF⟩,Rep.mono eZ _ _ re,kM e aa4,fun m4 l5 ZA cB dX mz gs=>?_⟩
  have wW:acc∉a.gB p8 EZ:=fun z=>(Bc acc z).2 rfl
  have bS:=gs.et acc _ wW bH
  have ho:bx H cB:=fun b o e=>gs.et b o (fun z=>by rw[(Bc b z).1]at e;cases e) (eZ b o e)
  have rm:∀b,b∈a.gB m4 l5→H b=none∧b≠acc:=fun b aa=>by
   rcases gs.new b aa with z | z
   ·exact Bc b z
   ·exact⟨eZ.free z,fun y=>by rw[y,bH]at z;cases z⟩
  have xB:d1 aS cB:=fun b ys e=>gs.et b _ (cn.uH e) e
  have qz:iy cB (acc::a.gB m4 l5) ((b9 ps room).rows (aA.take i)) xs:=yY.move (fun b o aa e=>gs.et b o (fun z=>aa (mem_cons_of_mem _ z)) e) xB fun b aa=>by
   rcases mem_cons.mp aa with z | z
   ·exact .inl (by rw[z];exact mem_cons_self)
   ·rcases gs.new b z with y | y
    ·exact .inl (mem_cons_of_mem _ y)
    ·exact .inr y
  obtain⟨abu,hW⟩:=dX.b1
  obtain⟨uT,g1,g2⟩:=dX.dg
  refine⟨_,rfl,.inl ⟨rfl,_,aM.of bS⟩,_,rfl,a.h,aH,abu,_,_,rfl,hW,T.cl,T.zF,Cc .., _,rfl,_,rfl,a.st,uT,rfl,aM.of g1,fun u hF=>?_⟩
  rw[uq]at *
  have s5:=bV hF (.lst (uT.drop q4.length))
  have ek:(upd cB u (.lst (uT.drop q4.length))) u=some (.lst (uT.drop q4.length)):=aV
  have mu:u∉a.gB m4 l5:=fun z=>dX.some z hF
  generalize upd cB u (.lst (uT.drop q4.length))=dr at s5 ek ⊢
  have N3:u≠acc:=(ct bS hF).symm
  have gi:=dX.same s5
  have acZ:=qz.same s5
  have ts:a9 dr ((((b9 ps room).run (aA.take i)).row e).map a4.D) (uT.drop q4.length):=by
   have aj:=Jv (n:=q4.length) (a9.mono s5 _ _ g2)
   rw[←List.map_drop,B4]at aj
   have e0:(((b9 ps room).run (aA.take i)).c9++((b9 ps room).run (aA.take i)).row e).drop q4.length=((b9 ps room).run (aA.take i)).row e:=by rw[aai,List.drop_left]
   rw[e0]at aj
   exact aj
  have HO:=acZ.snoc (b:=u) (fun z=>by
   rcases mem_cons.mp z with y | y
   ·exact N3 y
   ·exact mu y) ek ts
  have E7:acc∉a.gB m4 l5:=fun z=>(rm acc z).2 rfl
  have hl:=s5 _ _ bS
  have A0:d1 dr (upd dr acc (.lst (xs++[.ref u]))):=fun b ys e=>by
   rw[aB (dt e hl (fun z=>nomatch z))]
   exact e
  refine⟨acc,xs,.ref u,rfl,rfl,hl,mR (by omega),m4,l5,ZA,xs++[.ref u],_,_,rfl,?_,by omega,(ho.trans s5).hr Nz,rm,aV,?_,fun w hw b ej=>?_,by omega⟩
  ·rw[bF,CG]
   exact gi.zx E7 hl
  ·rw[bF,Cq]
   refine HO.move (fun b o aa e=>?_) A0 fun b aa=>.inl aa
   rw[aB (fun z=>aa (by rw[z];exact mem_cons_self))]
   exact e
  ·rcases mem_append.mp hw with z | z
   ·exact h4 w z b ej
   ·rw[mem_singleton.mp z]at ej
    cases ej
    exact⟨ho.free hF,N3⟩
 ·rintro σ aS ⟨p8,EZ,NP,xs,e7,e3,rfl,cn,t3,eZ,Bc,bH,yY,h4,aP⟩
  rw[oN,take_length]at yY
  exact⟨_,rfl,q acc _ xs aS eZ Nz bH yY h4⟩
def LC:dn:=fun vs H Q _=>∃(p l:Addr) (ps:List Int) (xs:List V) (log:List bD),vs=[.ref p,.ref l]∧H p=some (.lst (ps.map V.int))∧ps.length≤1000∧H l=some (.lst xs)∧hu H log xs∧log.length≤1000∧(∀ln∈log,ln.ok ps.length) ∧
 ∀(r:Addr) (aU:List Int) (af:ao),bx H af→H r=none→af r=some (.lst (aU.map V.int))→aU.length=ps.length→(∀(q:Nat) (v:Int),ps[q]?=some v→aU[q]?=some (oB log q v))→Q (.ref r) af
theorem wm:dP ["pages","log","numbers","line","ended"] qZ (cR DZ):=d2
theorem V6 (F:bU K "wanted" "wanted" DZ f fd) (B:ff mg) (lY:w7 mg):bp P w K mg base bW 1 f fd qZ LC:=by
 refine F.ok wm (fun vs H Q E h=>?_) (fun cz A outer s H vs Q E aE h=>?_)
 ·obtain⟨p,l,ps,xs,log,rfl,_⟩:=h
  rfl
 obtain⟨p,l,ps,xs,log,rfl,aF,ry,aC,eX,nc,bM,q⟩:=h
 have bq:=ht aE
 have g4:=eX.1
 refine⟨_,(bg (cJ (i:=2) wm.a3 rfl (Or.inl rfl) (jd ow rfl B.lst ji (au (ah 0) aN))) (bg (hM PassesOwn.never rfl (jf (ah 1)) (fQ (i:=3) wm.a3 rfl (Or.inl rfl)) (bl (c_ (cX el (bK cC (ah 3) aZ (fun _ _=>rfl)) bJ (cP _)) (bl (r9 (bK cC (ah 3) aZ (fun _ _=>rfl)) (sa (ah 2) (bK cC (ah 3) aZ (fun _ _=>rfl)) set_list))) dZ))) (bg (cJ (i:=4) wm.a3 rfl (Or.inl rfl) (jd (Je aE.hd) rfl B.Rc MG (au (U_ [] ["line"] (ic.plain (by decide +kernel) rfl rfl) rfl (jf (ah 1)) (fun C s1 H1 bG=>(cX el (bK (wd (K:=K) rfl) (ah 0) aZ (fun _ _=>rfl)) bJ (cP _))) (fun C s1 H1 bG=>(gH (au (bK (wd (K:=K) rfl) (ah 0) aZ (fun _ _=>rfl)) (au lp aN))))) aN))) (bg (hM PassesOwn.never rfl (LO rfl lY.rev (ah 1)) (fQ (i:=3) wm.a3 rfl (Or.inl rfl)) (bl (c_ (oA (cX el (bK cC (ah 3) aZ (fun _ _=>rfl)) bJ (cP _)) (uw (Cs bq (bK cC (ah 3) aZ (fun _ _=>rfl)) (ah 4)))) (bl (r9 (bK cC (ah 3) aZ (fun _ _=>rfl)) (sa (ah 2) (bK cC (ah 3) aZ (fun _ _=>rfl)) set_list))) dZ))) (bl (dH (ah 2))))))),?_⟩
 refine⟨_,rfl,p,_,rfl,.inl (aM.of aF),fun r h0=>?_⟩
 have s1:=bV h0 (.lst (ps.map V.int))
 have aG:(upd H r (.lst (ps.map V.int))) r=some (.lst (ps.map V.int)):=aV
 generalize upd H r (.lst (ps.map V.int))=H1 at s1 aG ⊢
 refine⟨_,rfl,l,rfl,⟨xs,aM.of (s1 _ _ aC)⟩,mL (K:=K) (a:=l) (xs:=xs) (fun i σ av=>∃(ns:List Int) (o:Option V),σ=[some (.ref p),some (.ref l),some (.ref r),o,none]∧bx H av∧av r=some (.lst (ns.map V.int))∧n3 log i ps ns)
  ⟨ps,none,rfl,s1,aG,n3.start _ _⟩ (fun i σ av _ ⟨_,_,_,s2,_⟩=>aM.of (s2 _ _ aC)) ?_ ?_⟩
 ·rintro i x σ av aP ⟨ns,o,rfl,s2,ew,qE⟩
  obtain⟨ln,fS,gX⟩:=eX.get aP
  have jj:=gX.mono s2.fy
  have aQ:=bM ln (mem_of_getElem? fS)
  cases ln with
  | fin d =>
   obtain⟨c,rfl,ai⟩:=jj
   refine⟨_,rfl,c,_,_,_,rfl,rfl,aO.of ai,rfl,rfl,_,rfl,bC uB ?_⟩
   exact⟨ns,_,rfl,s2,ew,qE.fin fS⟩
  | put d eH fB n =>
   obtain⟨c,rfl,ai⟩:=jj
   refine⟨_,rfl,c,_,_,_,rfl,rfl,aO.of ai,rfl,rfl,_,rfl,en rfl ?_⟩
   have uY:eH<ns.length:=by rw[qE.1];exact aQ
   refine⟨_,rfl,c,_,_,_,rfl,rfl,aO.of ai,rfl,_,rfl,_,rfl,c,_,_,_,rfl,rfl,aO.of ai,rfl,r,_,_,eH,rfl,rfl,ew,by rw[length_map];exact r4 uY,?_⟩
   exact⟨ns.set eH n,_,rfl,s2.hr h0,by rw[aV,pC],qE.put fS⟩
 rintro σ av ⟨ns,o,rfl,s2,ew,qE⟩
 rw[←g4]at qE
 refine⟨_,rfl,l,rfl,⟨xs,aM.of (s2 _ _ aC)⟩,fun acc de=>TU (K:=K) (w:=.b0 true) (s2 _ _ aC) (eX.mono fun a x h=>h.mono s2.fy) de nc (fun ln x aS k gX aQ=>?_) (fun d x aS k gX aQ=>?_) fun ys aS s3 mX kL gR=>?_⟩
 ·cases ln with
  | fin d =>
   obtain⟨c,rfl,ai⟩:=gX
   refine⟨_,rfl,c,_,_,_,rfl,rfl,aO.of ai,rfl,rfl,_,rfl,?_⟩
   have e:decide (V.str "end"=V.str "end")=true:=decide_eq_true rfl
   rw[e]
   exact aQ
  | put d p o n =>
   obtain⟨c,rfl,ai⟩:=gX
   refine⟨_,rfl,c,_,_,_,rfl,rfl,aO.of ai,rfl,rfl,_,rfl,?_⟩
   rw[decide_eq_false Yg]
   exact aQ
 ·obtain⟨c,rfl,ai⟩:=gX
  exact⟨_,rfl,c,_,_,_,rfl,rfl,aO.of ai,rfl,c8,aQ⟩
 refine⟨acc,ys,(ends log).map fun n=>((Sum.inl n:Key),V.b0 true),rfl,mX,fun j x bh=>?_,by rw[length_map];exact kL.1,by omega,fun u hF=>?_⟩
 ·obtain⟨z,aj,az⟩:=kL.get bh
  exact⟨_,by rw[getElem?_map,aj];rfl,az⟩
 have nW:∀z:Int,(dF (putAll [] ((ends log).map fun n=>((Sum.inl n:Key),V.b0 true))) (Sum.inl z:Key)).isSome=j0 log z:=fun z=>by
  have e:decide (z∈ends log)=j0 log z:=by
   cases h:j0 log z with
   | true=>exact decide_eq_true (Ku.mpr h)
   | false=>exact decide_eq_false fun w=>by rw[Ku.mp w]at h;cases h
  rw[putAll_has,Cx,e]
  simp
 have s4:=s2.trans (s3.trans (bV hF (.bR (putAll [] ((ends log).map fun n=>((Sum.inl n:Key),V.b0 true))))))
 have Ga:=(bV hF (.bR (putAll [] ((ends log).map fun n=>((Sum.inl n:Key),V.b0 true))))) _ _ (s3 _ _ ew)
 have iF:(upd aS u (.bR (putAll [] ((ends log).map fun n=>((Sum.inl n:Key),V.b0 true))))) u=some (.bR (putAll [] ((ends log).map fun n=>((Sum.inl n:Key),V.b0 true)))):=aV
 generalize (putAll [] ((ends log).map fun n=>((Sum.inl n:Key),V.b0 true)))=us at nW s4 Ga iF ⊢
 have ZS:u≠r:=(ct (s3 _ _ ew) hF).symm
 generalize upd aS u (.bR us)=cB at s4 Ga iF ⊢
 clear s3 mX kL de hF s1 aG s2 ew
 refine⟨_,rfl,l,xs,rfl,aM.of (s4 _ _ aC),Wt (K:=K) (a:=l) (xs:=xs) (fun i σ dr=>∃(ms:List Int) (o:Option V),σ=[some (.ref p),some (.ref l),some (.ref r),o,some (.ref u)]∧bx H dr∧dr r=some (.lst (ms.map V.int))∧dr u=some (.bR us)∧lI log i ns ms)
  ⟨ns,o,rfl,s4,Ga,iF,lI.start _ _⟩ (fun i σ av _ ⟨_,_,_,s2,_⟩=>aM.of (s2 _ _ aC)) ?_ ?_⟩
 ·rintro i x σ dr aP bh ⟨ms,e7,rfl,s5,x3,xY,tW⟩
  obtain⟨ln,fS,gX⟩:=eX.get bh
  have jj:=gX.mono s5.fy
  have aQ:=bM ln (mem_of_getElem? fS)
  rw[←g4]at fS aP
  cases ln with
  | fin d =>
   obtain⟨c,rfl,ai⟩:=jj
   refine⟨_,rfl,c,_,_,_,rfl,rfl,aO.of ai,rfl,rfl,_,rfl,bC uB (dQ ?_)⟩
   exact⟨ms,_,rfl,s5,x3,xY,tW.fin aP fS⟩
  | put d eH fB n =>
   obtain⟨c,rfl,ai⟩:=jj
   refine⟨_,rfl,c,_,_,_,rfl,rfl,aO.of ai,rfl,rfl,_,rfl,en rfl ?_⟩
   refine⟨_,rfl,c,_,_,_,rfl,rfl,aO.of ai,rfl,_,rfl,u,_,rfl,fl.k (k:=Sum.inl d) xY,_,rfl,?_⟩
   have uY:eH<ms.length:=by rw[tW.1,qE.1];exact aQ
   have hd:=nW d
   cases e:dF us (Sum.inl d:Key) with
   | some v =>
    rw[e]at hd
    refine dQ ?_
    exact⟨ms,_,rfl,s5,x3,xY,tW.kept aP fS hd.symm⟩
   | none =>
    rw[e]at hd
    refine eB ?_
    refine⟨_,rfl,c,_,_,_,rfl,rfl,aO.of ai,rfl,_,rfl,_,rfl,c,_,_,_,rfl,rfl,aO.of ai,rfl,r,_,_,eH,rfl,rfl,x3,by rw[length_map];exact r4 uY,?_⟩
    exact⟨ms.set eH fB,_,rfl,s5.hr h0,by rw[aV,pC],by rw[aB ZS];exact xY,tW.ED aP fS hd.symm⟩
 ·rintro σ dr ⟨ms,e7,rfl,s5,x3,xY,tW⟩
  rw[←g4]at tW
  obtain⟨fh,eG⟩:=VL qE tW
  exact⟨_,rfl,q r ms dr s5 h0 x3 fh eG⟩
def MN:dn:=fun vs H Q _=>∃(p l:Addr) (ps:List Int) (xs:List V) (log:List bD),vs=[.ref p,.ref l]∧H p=some (.lst (ps.map V.int))∧ps.length≤1000∧H l=some (.lst xs)∧hu H log xs∧log.length≤1000∧(∀ln∈log,ln.ok ps.length) ∧
 ∀(r:Addr) (aU:List Int) (zs:List V) (af:ao),bx H af→H r=none→af r=some (.lst zs)→aU.length=ps.length→(∀(q:Nat) (v:Int),ps[q]?=some v→aU[q]?=some (oB log q v))→a9 af ((gz ps aU log.length).map a4.D) zs→Q (.ref r) af
theorem Er:dP ["pages","log","numbers","strokes"] qZ (cR ET):=d2
theorem XT {oe:Addr}{gS:FuncData}(F:bU K "up" "up" ET f fd) (B:ff mg) (GT:bp P w K mg base bW 1 oe gS qZ LC) (yS:Binds K gS qZ []) (yz:keepIn K (.ref oe)=true) (rE:mg "wanted"=some (.ref oe)):bp P w K mg base bW 2 f fd qZ MN:=by
 refine F.ok Er (fun vs H Q E h=>?_) (fun cz A outer s H vs Q E aE h=>?_)
 ·obtain⟨p,l,ps,xs,log,rfl,_⟩:=h
  rfl
 obtain⟨p,l,ps,xs,log,rfl,aF,ry,aC,eX,nc,bM,q⟩:=h
 have bq:=ht aE
 have g4:=eX.1
 refine⟨_,(bg (cJ (i:=2) Er.a3 rfl (Or.inl rfl) (dE GT (cj aE) rfl rE yz yS .nil cU (au (ah 0) (au (ah 1) aN)))) (bg (U8 (i:=3) [0] ["page","number","pages"] Er.a3 rfl rfl (w8.YT (x1:="page") (x2:="number") (fv:="pages") (j:=0) rfl (by decide +kernel) (by decide +kernel) rfl (by decide +kernel) rfl (by decide +kernel) rfl rfl rfl) rfl (C7 rfl B.va (au (ah 2) aN))
    (fun C s1 H1 bG=>(V3 (K:=K) (n:=2) rfl rfl (kA (LP (i:=0) (by decide +kernel) rfl rfl) (kA (LP (i:=1) (by decide +kernel) rfl rfl) r3)))) (fun C s1 H1 bG=>(cX kD (ah 1) (bK (Ko (K:=K) rfl) (ah 2) (ah 0) (fun _ _=>rfl)) (cP _))) (fun C s1 H1 bG=>(gH (au bJ (au (ah 0) (au (ah 1) aN)))))) (bg (c_ (cX uC (es gU rfl B.len PySem.boot_len (au (ah 1) aN)) aZ (cP _)) (bl (dD (ia plainAttrs_list PySem.F.slot_list_append PySem.F.type_list_append h_ (ah 3) (au (gH (au bJ (au (es gU rfl B.len PySem.boot_len (au (ah 1) aN)) aN))) aN)))) dZ) (bl (dH (ah 3)))))),?_⟩
 refine⟨_,rfl,_,rfl,p,l,ps,xs,log,rfl,aF,ry,aC,eX,nc,bM,fun mu aU H1 s1 ad4 va lk hw=>?_⟩
 refine⟨_,rfl,mu,rfl,⟨_,aM.of va⟩,fun acc de=>Ts (K:=K) (ps:=ps) va de (by omega) lk (fun i k v aS c aj az s3 ai=>?_) (fun i k aS c s3 ai=>?_) fun ys aS s3 mX kL gR=>?_⟩
 ·exact⟨_,rfl,_,rfl,_,rfl,p,_,_,_,rfl,rfl,aM.of (s3 _ _ (s1 _ _ aF)),Wx az,rfl,_,rfl,ai⟩
 ·exact⟨_,rfl,_,rfl,c8,ai⟩
 have eZ:=s1.trans s3
 have F7:H acc=none:=s1.free de
 refine⟨_,rfl,l,_,rfl,.inl (aM.of (eZ _ _ aC)),_,_,rfl,rfl,_,rfl,gn (fun cH=>?_) (fun cH=>?_)⟩
 ·have dh:(0:Int)<((xs.length:Nat):Int):=of_decide_eq_true cH
  refine⟨_,rfl,.inl ⟨rfl,_,aM.of mX⟩,_,rfl,l,_,rfl,.inl (aM.of (eZ _ _ aC)),c8,fun t bF=>?_⟩
  refine⟨acc,ys,.ref t,rfl,rfl,by rw[aB (ct mX bF)];exact mX,mR (by omega),?_⟩
  have s4:=bV bF (.tup [.str "cut",.int ((xs.length:Nat):Int)])
  have ZW:t≠acc:=(ct mX bF).symm
  have kt:d1 (upd aS t (.tup [.str "cut",.int ((xs.length:Nat):Int)])) (upd (upd aS t (.tup [.str "cut",.int ((xs.length:Nat):Int)])) acc (.lst (ys++[.ref t]))):=fun b us aa=>by
   rw[aB (dt aa (s4 _ _ mX) (fun z=>nomatch z))]
   exact aa
  refine⟨_,rfl,q acc aU (ys++[.ref t]) _ ((eZ.trans s4).hr F7) F7 aV lk hw ?_⟩
  have e:gz ps aU log.length=iK ps aU aU.length++[.cut xs.length]:=by
   unfold gz mY
   rw[g4,if_neg (by omega)]
  rw[e]
  refine Jt (a9.keep kt _ _ (Io _) (a9.mono s4 _ _ kL)) (K8 ?_)
  rw[aB ZW,aV]
 ·have dh:¬(0:Int)<((xs.length:Nat):Int):=fun z=>cH (decide_eq_true z)
  refine⟨_,rfl,q acc aU ys _ eZ F7 mX lk hw ?_⟩
  have e:gz ps aU log.length=iK ps aU aU.length:=by
   unfold gz mY
   rw[g4,if_pos (by omega),append_nil]
  rw[e]
  exact kL
theorem CC:dP ["pages","log","strokes","cellar","stroke"] uL (cR C5):=d2
theorem Ul {C rH fW:Addr}{rM gG:FuncData}(F:bU K "behind" "behind" C5 f fd) (T:pG K mg C) (M:tQ K C rH) (tT:bp P w K mg base bW 1 rH rM sC (zK C)) (yT:Binds K rM sC [])
  (hI:bp P w K mg base bW 1 fW gG jl (Aa C)) (hH:Binds K gG jl []) (g0:Meth K C "do_stroke" fW):bp P w K mg base bW 3 f fd uL CA:=by
 refine F.ok CC (fun vs H Q E h=>?_) (fun cz A outer s H vs Q E aE h=>?_)
 ·obtain⟨p,l,s,ps,ls,xs,gA,rfl,_⟩:=h
  rfl
 obtain⟨p,l,s0,ps,ls,xs,gA,rfl,aF,aC,aJ,hY,bM,nc,q⟩:=h
 refine⟨_,(bg (cJ (i:=3) CC.a3 rfl (Or.inl rfl) (C8 M tT aE rfl T.AX yT .nil cU (au (ah 0) (au (ah 1) aN)))) (bg (hM PassesOwn.never rfl (jf (ah 2)) (fQ (i:=4) CC.a3 rfl (Or.inl rfl)) (bl (dD (g_ (ah 3) T.cl g0 hI (cj aE) hH .nil cU (au (ah 4) aN))))) (bl (dH (gH (au (fb (ah 3) rfl) (au (fb (ah 3) rfl) aN))))))),?_⟩
 refine⟨_,rfl,_,rfl,?_⟩
 intro c dx gP E9 AR
 have w_:bx H (upd (upd H dx (.own c)) c (.ins C dx [])):=fun b o e=>by
  rw[aB (ct e gP),aB (ct e E9)]
  exact e
 refine⟨c,dx,p,l,ps,ls,rfl,aV,w_ _ _ aF,w_ _ _ aC,fun bP cA H1 E4 Z1 pA bw=>⟨rfl,?_⟩⟩
 have Na:H bP=none:=w_.free E4
 have uK:H cA=none:=w_.free Z1
 have s1:bx H H1:=fun b o e=>bw b o (w_ b o e) (ct e gP)
 refine⟨_,rfl,s0,rfl,⟨xs,aM.of (s1 _ _ aJ)⟩,mL (K:=K) (a:=s0) (xs:=xs) (fun i σ av=>∃(cA:Addr) (o:Option V),σ=[some (.ref p),some (.ref l),some (.ref s0),some (.ref c),o]∧bx H av∧H cA=none ∧
   wD C av c bP cA ((gA.take i).foldl dY.bP ps) ((gA.take i).foldl dY.cA ls))
  ⟨cA,none,rfl,s1,uK,pA⟩ (fun i σ av _ ⟨_,_,_,s3,_⟩=>aM.of (s3 _ _ aJ)) ?_ ?_⟩
 ·rintro i x σ av aP ⟨cA,o,rfl,s3,uK,pA⟩
  obtain⟨dg,p_,gX⟩:=hY.get i x aP
  have aQ:=bM dg (mem_of_getElem? p_)
  have jj:=gX.mono s3.fy
  obtain⟨⟨dy,aj⟩,_⟩:=id pA
  refine⟨_,rfl,c,dy,_,rfl,aj,Kz _ _ (by decide +kernel) (by decide +kernel),_,rfl,c,bP,cA,x,_,_,dg,rfl,pA,jj,by rw[Lc];exact aQ,(by have:=nc i;omega),fun lB aS ab9 uP aao=>?_⟩
  refine⟨lB,_,rfl,fun b o e=>aao b o (s3 b o e) (ct e gP) (ct e Na) (.inl (ct e uK)),?_,by rw[JL _ _ _ _ _ p_,JL _ _ _ _ _ p_];exact ab9⟩
  rcases uP with z | z
  ·rw[z];exact uK
  ·exact s3.free z
 ·rintro σ av ⟨cA,o,rfl,s3,uK,⟨⟨dy,aj⟩,aY,ej,aae⟩⟩
  rw[take_all hY]at aY ej
  refine⟨_,rfl,c,C,dy,_,_,rfl,aj,T.cl,T.yw,zf _ _,_,rfl,c,C,dy,_,_,rfl,aj,T.cl,T.tv,vV _ _,c8,fun r m6=>?_⟩
  exact q r bP cA _ (s3.trans (bV m6 _)) Na uK aae aV (by rw[aB (ct aY m6)];exact aY) (by rw[aB (ct ej m6)];exact ej)
theorem Ct:∀(l:List a4) (ls:List V),(∀s∈l,s.se)→((l.map a4.dg).foldl dY.cA ls).length≤ls.length
 | [],_,_=>le_refl _
 | s::r,ls,h=>by
  have b3:=Ct r (dY.cA ls s.dg) fun s aJ=>h s (mem_cons_of_mem _ aJ)
  rw[map_cons,foldl_cons]
  refine le_trans b3 ?_
  cases s with
  | line ln=>exact (h _ mem_cons_self).elim
  | dm p n=>exact le_refl _
  | cut k=>exact IS ls _ _
structure qX (H:ao) (bP cA:Addr) (ps:List Int) (xs:List V) (log:List bD) (aU:List Int) (z n:Nat):Prop where
 aF:H bP=some (.lst (ps.map V.int))
 aC:H cA=some (.lst xs)
 lo:hu H log xs
 ok:∀ln∈log,ln.ok ps.length
 kX:ps.length=z
 jv:log.length≤n
 nf:kp ps log aU
theorem qX.mono {H af:ao}{bP cA:Addr}{ps:List Int}{xs:List V}{log:List bD}{aU:List Int}{z n:Nat}(M:qX H bP cA ps xs log aU z n) (s:bx H af):qX af bP cA ps xs log aU z n :=
 ⟨s _ _ M.aF,s _ _ M.aC,M.lo.mono fun a x h=>h.mono s.fy,M.ok,M.kX,M.jv,M.nf⟩
theorem qX.next {H af:ao}{bP cA eH fD:Addr}{ps:List Int}{xs:List V}{log:List bD}{aU:List Int}{z n:Nat}(M:qX H bP cA ps xs log aU z n) (s:bx H af) (j:Nat)
  (aF:af eH=some (.lst ((((gz ps aU log.length).take j).map a4.dg).foldl dY.bP (ps.map V.int)))) (aC:af fD=some (.lst ((((gz ps aU log.length).take j).map a4.dg).foldl dY.cA xs))) :
  ∃gK,qX af eH fD (L2.upTo ps aU log j).1 gK (L2.upTo ps aU log j).2 aU z n∧(aU.length+1≤j→(L2.upTo ps aU log j).1=aU∧gK=[]):=by
 have g4:=M.lo.1
 rw[Tw M.nf.1]at aF
 rw[TV g4]at aC
 refine⟨_,⟨aF,aC,?_,fun ln h=>by rw[J1 M.nf.1];exact M.ok ln (UO h),(J1 M.nf.1 j).trans M.kX,le_trans (Td ..) M.jv,VN M.nf j⟩,fun cD=>⟨by rw[TX cD],if_pos (le_trans (CR ..) cD)⟩⟩
 unfold L2.upTo
 split
 ·exact .nil
 ·exact M.lo.mono fun a x h=>h.mono s.fy
def LK:dn:=fun vs H Q _=>∃(p l h:Addr) (ps:List Int) (xs:List V) (log:List bD) (aU:List Int) (aJ:List Nat),vs=[.ref p,.ref l,.ref h]∧qX H p l ps xs log aU ps.length log.length∧ps.length≤1000∧log.length≤1000∧H h=some (.lst (aJ.map fun n=>V.int (n:Nat))) ∧
 ∀(r:Addr) (af:ao),bx H af→af r=some (.lst (aU.map V.int))→Q (.ref r) af
theorem r8:dP ["pages","log","halts","pages_then","log_then","halt","cellar"] Ai (cR D7):=d2
theorem We {lO jP:Addr}{om lR:FuncData}(F:bU K "came_up" "came_up" D7 f fd)
  (qD:bp P w K mg base bW 3 lO om uL CA) (qy:Binds K om uL []) (tB:keepIn K (.ref lO)=true) (qm:mg "behind"=some (.ref lO))
  (pv:bp P w K mg base bW 2 jP lR qZ MN) (pd:Binds K lR qZ []) (vq:keepIn K (.ref jP)=true) (o8:mg "up"=some (.ref jP)):bp P w K mg base bW 4 f fd Ai LK:=by
 refine F.ok r8 (fun vs H Q E h=>?_) (fun cz A outer s H vs Q E aE h=>?_)
 ·obtain⟨p,l,h,ps,xs,log,aU,aJ,rfl,_⟩:=h
  rfl
 obtain⟨p,l,h0,ps,xs,log,aU,aJ,rfl,M,ry,nc,c5,q⟩:=h
 refine⟨_,(bg (cJ (i:=3) r8.a3 rfl (Or.inl rfl) (ah 0)) (bg (cJ (i:=4) r8.a3 rfl (Or.inl rfl) (ah 1)) (bg (hM PassesOwn.never rfl (jf (ah 2)) (fQ (i:=5) r8.a3 rfl (Or.inl rfl)) (bg (cJ (i:=6) r8.a3 rfl (Or.inl rfl) (dE qD (cj aE) rfl qm tB qy .nil cU (au (ah 3) (au (ah 4) (au (rZ r2 (dE pv (cj aE) rfl o8 vq pd .nil cU (au (ah 3) (au (ah 4) aN))) ue (qO (ah 5))) aN))))) (bg (cJ (i:=3) r8.a3 rfl (Or.inl rfl) (bK cC (ah 6) aZ (fun _ _=>rfl))) (bl (cJ (i:=4) r8.a3 rfl (Or.inl rfl) (bK cC (ah 6) aZ (fun _ _=>rfl))))))) (bl (dH (bK cC (dE qD (cj aE) rfl qm tB qy .nil cU (au (ah 3) (au (ah 4) (au (dE pv (cj aE) rfl o8 vq pd .nil cU (au (ah 3) (au (ah 4) aN))) aN)))) aZ (fun _ _=>rfl))))))),?_⟩
 refine⟨_,rfl,_,rfl,?_⟩
 refine⟨_,rfl,h0,rfl,⟨_,aM.of c5⟩,mL (K:=K) (a:=h0) (xs:=aJ.map fun n=>V.int (n:Nat)) (fun i σ av=>∃(bP cA:Addr) (kJ:List Int) (gK:List V) (l2:List bD) (e7 e3:Option V),σ=[some (.ref p),some (.ref l),some (.ref h0),some (.ref bP),some (.ref cA),e7,e3]∧bx H av∧qX av bP cA kJ gK l2 aU ps.length log.length)
  ⟨p,l,ps,xs,log,none,none,rfl,bx.refl H,M⟩ (fun i σ av _ ⟨_,_,_,_,_,_,_,_,s2,_⟩=>aM.of (s2 _ _ c5)) ?_ ?_⟩
 ·rintro i x σ av aP ⟨bP,cA,kJ,gK,l2,e7,e3,rfl,s2,M2⟩
  obtain⟨j,rfl⟩:∃j:Nat,x=V.int (j:Nat):=by
   rw[getElem?_map]at aP
   cases e:aJ[i]? with
   | none=>rw[e]at aP;cases aP
   | some j=>rw[e]at aP;exact⟨j,(Option.some.inj aP).symm⟩
  have kX:=M2.kX
  have jv:=M2.jv
  refine⟨_,rfl,_,rfl,_,rfl,_,rfl,bP,cA,kJ,gK,l2,rfl,M2.aF,by omega,M2.aC,M2.lo,by omega,M2.ok,fun u m5 zs aS s3 _ iF xA hw EX=>?_⟩
  have gx:m5=aU:=M2.nf.uniq ⟨xA,hw⟩
  subst gx
  have y0:=M2.mono s3
  refine⟨_,rfl,_,rfl,u,zs,rfl,aM.of iF,fun v aX=>?_⟩
  rw[L0]
  have s4:=bV aX (.lst (zs.take j))
  have bS:(upd aS v (.lst (zs.take j))) v=some (.lst (zs.take j)):=aV
  generalize upd aS v (.lst (zs.take j))=cB at s4 bS ⊢
  have HS:=y0.mono s4
  have o4:a9 cB (((gz kJ m5 l2.length).take j).map a4.D) (zs.take j):=by
   rw[map_take]
   exact a9.mono s4 _ _ (Cr j EX)
  have N7:∀s∈(gz kJ m5 l2.length).take j,s.se:=fun s aJ=>zh (mem_of_mem_take aJ)
  refine⟨bP,cA,v,kJ.map V.int,gK,zs.take j,((gz kJ m5 l2.length).take j).map a4.dg,rfl,HS.aF,HS.aC,bS,LL o4 N7,fun dg p_=>?_,fun i=>?_,fun r eH fD dr s5 _ _ _ ew cu da=>?_⟩
  ·obtain⟨s,aJ,rfl⟩:=mem_map.mp p_
   rw[length_map]
   exact Lw xA (mem_of_mem_take aJ)
  ·rw[←map_take]
   have aj:=Ct (((gz kJ m5 l2.length).take j).take i) gK fun s aJ=>N7 s (mem_of_mem_take aJ)
   have az:=M2.lo.1
   omega
  obtain⟨ND,HR,_⟩:=HS.next s5 j cu da
  refine⟨_,rfl,r,_,_,_,rfl,rfl,aO.of ew,rfl,?_⟩
  refine⟨_,rfl,r,_,_,_,rfl,rfl,aO.of ew,rfl,?_⟩
  exact⟨eH,fD,_,ND,_,_,_,rfl,s2.trans (s3.trans (s4.trans s5)),HR⟩
 ·rintro σ av ⟨bP,cA,kJ,gK,l2,e7,e3,rfl,s2,M2⟩
  have kX:=M2.kX
  have jv:=M2.jv
  refine⟨_,rfl,_,rfl,_,rfl,_,rfl,bP,cA,kJ,gK,l2,rfl,M2.aF,by omega,M2.aC,M2.lo,by omega,M2.ok,fun u m5 zs aS s3 _ iF xA hw EX=>?_⟩
  have gx:m5=aU:=M2.nf.uniq ⟨xA,hw⟩
  subst gx
  have y0:=M2.mono s3
  have abn:(gz kJ m5 l2.length).take (m5.length+1)=gz kJ m5 l2.length:=take_of_length_le (CR ..)
  refine⟨bP,cA,u,kJ.map V.int,gK,zs,(gz kJ m5 l2.length).map a4.dg,rfl,y0.aF,y0.aC,iF,LL EX fun s aJ=>zh aJ,fun dg p_=>?_,fun i=>?_,fun r eH fD dr s5 _ _ _ ew cu da=>?_⟩
  ·obtain⟨s,aJ,rfl⟩:=mem_map.mp p_
   rw[length_map]
   exact Lw xA aJ
  ·rw[←map_take]
   have aj:=Ct ((gz kJ m5 l2.length).take i) gK fun s aJ=>zh (mem_of_mem_take aJ)
   have az:=M2.lo.1
   omega
  rw[←abn]at cu da
  obtain⟨ND,HR,fin⟩:=y0.next s5 _ cu da
  refine⟨r,_,_,_,rfl,rfl,aO.of ew,rfl,?_⟩
  refine q eH dr (s2.trans (s3.trans s5)) ?_
  rw[HR.aF,(fin (le_refl _)).1]
def wK (c:Nat):a4→Prop
 | .line ln=>ln.ok c
 | .dm p _=>p<c
 | .cut k=>0<k
theorem Vx {x y:aq}{s:a4}(h:mc x s y):wK x.ay.length s:=by
 cases h with
 | carry p aF aR aE=>exact aF
 | cut h aE=>exact h
 | put d p n aF aD bF aE h0=>exact aF
 | dU d p n aF aD hm aE=>exact aF
 | fin d aD aE=>trivial
theorem Ue {x y:aq}{l:List a4}(h:Path x l y):∀s∈l,wK x.ay.length s:=by
 induction h with
 | nil x=>intro s aJ;cases aJ
 | cons m t b3 =>
  intro s aJ
  rcases mem_cons.mp aJ with z | z
  ·rw[z];exact Vx m
  ·rw[←m.facts.2.1];exact b3 s z
theorem J_:∀(l:List bZ) (x:aq),x.sound→x.fit→(x.run l).ay.length=x.ay.length∧(x.run l).room=x.room
 | [],_,_,_=>⟨rfl,rfl⟩
 | e::r,x,S,f=>by
  obtain⟨y,z,a,b,c⟩:=vZ S f e
  obtain⟨aj,az⟩:=J_ r (x.a5 e).1 (S.a5 e) (f.a5 S e)
  obtain⟨_,k1,k2,_⟩:=b.facts
  have fF:y.ay.length=x.ay.length∧y.room=x.room:=by rcases a with rfl | rfl <;> exact⟨rfl,rfl⟩
  have gd:(x.a5 e).1.ay.length=z.ay.length∧(x.a5 e).1.room=z.room:=by
   rcases c with h | h
   ·rw[h];exact⟨rfl,rfl⟩
   ·rw[h];exact⟨rfl,rfl⟩
  show ((x.a5 e).1.run r).ay.length=_∧((x.a5 e).1.run r).room=_
  exact⟨by rw[aj,gd.1,k1,fF.1],by rw[az,gd.2,k2,fF.2]⟩
theorem Js:∀(l:List bZ) (x:aq),x.sound→x.fit→∀row∈x.rows l,∀s∈row,wK x.ay.length s
 | [],_,_,_=>fun row h=>by cases h
 | e::r,x,S,f=>fun row h s aJ=>by
  obtain⟨y,z,a,b,c⟩:=vZ S f e
  have fF:y.ay.length=x.ay.length:=by rcases a with rfl | rfl <;> rfl
  rcases mem_cons.mp (show row∈x.row e::(x.a5 e).1.rows r from h) with aj | aj
  ·rw[aj]at aJ
   rw[←fF]
   exact Ue b s aJ
  ·have:=Js r (x.a5 e).1 (S.a5 e) (f.a5 S e) row aj s aJ
   have aG:=J_ [e] x S f
   rw[show (x.a5 e).1.ay.length=x.ay.length from aG.1]at this
   exact this
def qW (d:Day):Prop:=d.aA.length≤63∧∀e∈d.aA,p4 e
theorem UB {room:Int}(gN:0≤room) {ps:List Int}{aA:List bZ}{s:a4}(h:s∈gV room ps aA):wK ps.length s:=by
 obtain⟨row,aE,jI⟩:=List.mem_flatten.mp h
 exact Js aA (b9 ps room) (Cv ps room) (De gN) row aE s jI
theorem VH {room:Int}{ps:List Int}{aA:List bZ}(aj:1≤ps.length) (az:ps.length≤100) (ck:aA.length≤63):(gV room ps aA).length≤18900:=by
 have mA:=((zG (room:=room) aj az).run aA (by omega)).d5
 rw[IE,zero_add]at mA
 have oi:(gV room ps aA).length≤300 * aA.length:=mA
 omega
def Mb:dn:=fun vs H Q _=>∃(bP dl:Addr) (ps:List Int) (room:Int) (us:List V) (aA:List bZ),vs=[.ref bP,.int room,.ref dl]∧H bP=some (.lst (ps.map V.int))∧1≤ps.length∧ps.length≤100∧H dl=some (.lst us)∧a9 H (aA.map bZ.D) us∧aA.length≤63∧(∀e∈aA,p4 e) ∧
 ∀(r:Addr) (ys:List V) (af:ao),bx H af→H r=none→af r=some (.lst ys)→a9 af ((gV room ps aA).map a4.D) ys→Q (.ref r) af
def KY:dn:=fun vs H Q _=>∃(bP dy:Addr) (bad:List Addr) (ps:List Int) (room:Int) (us:List V) (ds:List Day),vs=[.ref bP,.int room,.ref dy]∧H bP=some (.lst (ps.map V.int))∧1≤ps.length∧ps.length≤100∧0≤room∧H dy=some (.lst us)∧iJ H bad ds us∧ds.length≤100∧(∀d∈ds,qW d) ∧
 ∀(r:Addr) (xs:List V) (af:ao),bx H af→af r=some (.lst xs)→xs.length=ds.length→(∀(i:Nat) (v:V),xs[i]?=some v→∃b,v=.ref b∧af b=some (.lst ((mQ room ps ds (i+1)).map V.int)))→Q (.ref r) af
theorem DY:dP ["pages","room","deeds","strokes","strokes_of_deed"] q0 (cR Eu):=d2
theorem W4 {tD:Addr}{yM:FuncData}(F:bU K "strokes_of_day" "strokes_of_day" Eu f fd) (HW:bp P w K mg base bW 9 tD yM q0 IC) (HG:Binds K yM q0 []) (Hp:keepIn K (.ref tD)=true) (Hg:mg "strokes_of"=some (.ref tD)):bp P w K mg base bW 10 f fd q0 Mb:=by
 refine F.ok DY (fun vs H Q E h=>?_) (fun cz A outer s H vs Q E aE h=>?_)
 ·obtain⟨bP,dl,ps,room,us,aA,rfl,_⟩:=h
  rfl
 obtain⟨bP,dl,ps,room,us,aA,rfl,aF,fi,eK,hd,i4,n6,vl,q⟩:=h
 refine⟨_,(bg (cJ (i:=3) DY.a3 rfl (Or.inl rfl) (fx aN)) (bg (hM PassesOwn.never rfl (jf (dE HW (cj aE) rfl Hg Hp HG .nil cU (au (ah 0) (au (ah 1) (au (ah 2) aN))))) (fQ (i:=4) DY.a3 rfl (Or.inl rfl)) (bl (dD (ia plainAttrs_list slot_list_extend type_list_extend JE (ah 3) (au (ah 4) aN))))) (bl (dH (ah 3))))),?_⟩
 refine⟨c8,fun acc de=>?_⟩
 have s1:=bV de (.lst [])
 have aG:(upd H acc (.lst [])) acc=some (.lst []):=aV
 generalize upd H acc (.lst [])=H1 at s1 aG ⊢
 refine⟨_,rfl,_,rfl,_,rfl,bP,dl,ps,room,us,aA,rfl,s1 _ _ aF,fi,eK,s1 _ _ hd,a9.mono s1 _ _ i4,by omega,vl,fun ih bad sM av s2 P8 aL iW g7=>?_⟩
 have fu:=s1.trans s2
 have ZX:ih≠acc:=fun z=>by rw[z,aG]at P8;cases P8
 have oi:=VH (room:=room) fi eK n6
 refine⟨ih,rfl,⟨sM,aM.of aL⟩,mL (K:=K) (a:=ih) (xs:=sM) (fun i σ aS=>∃(ys:List V) (o:Option V),σ=[some (.ref bP),some (.int room),some (.ref dl),some (.ref acc),o]∧(∀b u,b≠acc→av b=some u→aS b=some u)∧d1 av aS∧bx H aS∧aS acc=some (.lst ys)∧a9 aS ((((b9 ps room).rows aA).take i).flatten.map a4.D) ys)
  ⟨[],none,rfl,fun _ _ _ e=>e,fun _ _ e=>e,fu,s2 _ _ aG,.nil⟩ (fun i σ aS _ ⟨_,_,_,dC,_⟩=>aM.of (dC _ _ ZX aL)) ?_ ?_⟩
 ·rintro i v σ aS aX ⟨ys,o,rfl,dC,Fz,eZ,bH,bO⟩
  obtain⟨row,EE,b,zs,rfl,_,hz,nR⟩:=iW.get aX
  have nb:b≠acc:=fun z=>by
   have:=(g7 _ (mem_of_getElem? aX) b rfl).1
   rw[z,aG]at this
   cases this
  have m3:ys.length=((((b9 ps room).rows aA).take i).flatten).length:=by rw[a9.length bO,length_map]
  have bF:(((b9 ps room).rows aA).take (i+1)).flatten=(((b9 ps room).rows aA).take i).flatten++row:=by
   rw[take_add_one,EE,List.flatten_append]
   show _++(row++[])=_
   rw[append_nil]
  have lf:=congrArg (fun l=>l.flatten.length) (List.take_append_drop (i+1) ((b9 ps room).rows aA))
  simp only[List.flatten_append,length_append]at lf
  rw[bF,length_append]at lf
  have adW:(gV room ps aA).length=((b9 ps room).rows aA).flatten.length:=rfl
  have aah:zs.length=row.length:=by rw[a9.length nR,length_map]
  refine⟨_,rfl,.inl ⟨rfl,_,aM.of bH⟩,_,rfl,acc,b,ys,zs,rfl,rfl,bH,dC _ _ nb hz,le_of_lt (jB (by omega)),?_⟩
  have xB:d1 aS (upd aS acc (.lst (ys++zs))):=fun b xs e=>by
   rw[aB (dt e bH (fun z=>nomatch z))]
   exact e
  refine⟨ys++zs,_,rfl,fun b u aa e=>by rw[aB aa];exact dC b u aa e,fun b xs e=>xB _ _ (Fz _ _ e),eZ.hr de,aV,?_⟩
  rw[bF,map_append]
  exact (a9.keep xB _ _ (er a4.f3 _) bO).append (a9.keep xB _ _ (er a4.f3 _) (a9.keep Fz _ _ (er a4.f3 _) nR))
 ·rintro σ aS ⟨ys,o,rfl,dC,Fz,eZ,bH,bO⟩
  rw[←iW.1,take_length]at bO
  exact⟨_,rfl,q acc ys aS eZ de bH bO⟩
theorem pI:dP ["pages","room","days","pages_then","pages_of_days","deeds","stop","halts","strokes","cellar"] Ah (cR DK):=d2
theorem Vv {Hy lO vt:Addr}{Si om yN:FuncData}(F:bU K "after_days" "after_days" DK f fd) (ac9:bp P w K mg base bW 10 Hy Si q0 Mb) (acP:Binds K Si q0 []) (acu:keepIn K (.ref Hy)=true) (acr:mg "strokes_of_day"=some (.ref Hy))
  (qD:bp P w K mg base bW 3 lO om uL CA) (qy:Binds K om uL []) (tB:keepIn K (.ref lO)=true) (qm:mg "behind"=some (.ref lO))
  (GM:bp P w K mg base bW 4 vt yN Ai LK) (HH:Binds K yN Ai []) (acv:keepIn K (.ref vt)=true) (Hh:mg "came_up"=some (.ref vt)):bp P w K mg base bW 11 f fd Ah KY:=by
 refine F.ok pI (fun vs H Q E h=>?_) (fun cz A outer s H vs Q E aE h=>?_)
 ·obtain⟨bP,dy,bad,ps,room,us,ds,rfl,_⟩:=h
  rfl
 obtain⟨bP,dy,bad,ps,room,us,ds,rfl,aF,fi,eK,gN,u2,jY,qg,fd,q⟩:=h
 refine⟨_,(bg (cJ (i:=3) pI.a3 rfl (Or.inl rfl) (ah 0)) (bg (cJ (i:=4) pI.a3 rfl (Or.inl rfl) (fx aN)) (bg (hM PassesOwn.never rfl (jf (ah 2)) (r_ rfl (kA (fQ (i:=5) pI.a3 rfl (Or.inl rfl)) (kA (fQ (i:=6) pI.a3 rfl (Or.inl rfl)) (kA (fQ (i:=7) pI.a3 rfl (Or.inl rfl)) r3)))) (bg (cJ (i:=8) pI.a3 rfl (Or.inl rfl) (dE ac9 (cj aE) rfl acr acu acP .nil cU (au (ah 3) (au (ah 1) (au (ah 5) aN))))) (bg (cJ (i:=9) pI.a3 rfl (Or.inl rfl) (dE qD (cj aE) rfl qm tB qy .nil cU (au (ah 3) (au (fx aN) (au (rZ r2 (ah 8) ue (qO (ah 6))) aN))))) (bg (cJ (i:=3) pI.a3 rfl (Or.inl rfl) (dE GM (cj aE) rfl Hh acv HH .nil cU (au (bK cC (ah 9) aZ (fun _ _=>rfl)) (au (bK cC (ah 9) aZ (fun _ _=>rfl)) (au (ah 7) aN))))) (bl (dD (ia plainAttrs_list PySem.F.slot_list_append PySem.F.type_list_append h_ (ah 4) (au (ah 3) aN)))))))) (bl (dH (ah 4)))))),?_⟩
 refine⟨_,rfl,?_⟩
 refine⟨c8,fun acc de=>?_⟩
 have s1:=bV de (.lst [])
 have aG:(upd H acc (.lst [])) acc=some (.lst []):=aV
 have E4:bP≠acc:=ct aF de
 generalize upd H acc (.lst [])=H1 at s1 aG ⊢
 refine⟨_,rfl,dy,rfl,⟨us,aM.of (s1 _ _ u2)⟩,mL (K:=K) (a:=dy) (xs:=us) (fun i σ av=>∃(pt:Addr) (xs:List V) (e7 e3 ed eg hj:Option V),σ=[some (.ref bP),some (.int room),some (.ref dy),some (.ref pt),some (.ref acc),e7,e3,ed,eg,hj]∧bx H av∧av pt=some (.lst ((mQ room ps ds i).map V.int))∧pt≠acc∧av acc=some (.lst xs)∧xs.length=i∧(∀(j:Nat) (v:V),xs[j]?=some v→∃b,v=.ref b∧b≠acc∧av b=some (.lst ((mQ room ps ds (j+1)).map V.int))))
  ⟨bP,[],none,none,none,none,none,rfl,s1,s1 _ _ aF,E4,aG,rfl,fun j v h=>(by cases h)⟩ (fun i σ av _ ⟨_,_,_,_,_,_,_,_,s2,_⟩=>aM.of (s2 _ _ u2)) ?_ ?_⟩
 ·rintro i v σ av aX ⟨pt,xs,e7,e3,ed,eg,hj,rfl,fu,A8,ZY,aL,g4,g7⟩
  obtain⟨d,hd,t,dl,aC,vs,rfl,_,_,bF,l8,sN,rf⟩:=jY.get aX
  obtain⟨n6,vl⟩:=fd d (mem_of_getElem? hd)
  have aP:i<ds.length:=(List.getElem?_eq_some_iff.mp hd).1
  have Fq:=IG gN ps ds i
  have u9:=Ij (room:=room) (ps:=ps) hd
  generalize ad2:mQ room ps ds i=pi at A8 Fq u9
  refine⟨t,_,rfl,aO.of (fu _ _ bF),rfl,_,_,rfl,_,_,rfl,_,_,rfl,rfl,?_⟩
  refine⟨_,rfl,_,rfl,_,rfl,pt,dl,pi,room,vs,d.aA,rfl,A8,by omega,by omega,fu _ _ l8,a9.mono fu _ _ sN,n6,vl,fun r ys aS s3 _ bH bO=>?_⟩
  refine⟨_,rfl,c8,fun fC aaT=>?_⟩
  have s4:=bV aaT (.lst [])
  have bS:(upd aS fC (.lst [])) fC=some (.lst []):=aV
  generalize upd aS fC (.lst [])=cB at s4 bS ⊢
  refine⟨_,rfl,_,rfl,_,rfl,r,ys,rfl,aM.of (s4 _ _ bH),fun u hF=>?_⟩
  rw[L0]
  have s5:=bV hF (.lst (ys.take d.stop))
  have ek:(upd cB u (.lst (ys.take d.stop))) u=some (.lst (ys.take d.stop)):=aV
  generalize upd cB u (.lst (ys.take d.stop))=dr at s5 ek ⊢
  have Rn:=s3.trans (s4.trans s5)
  have n_:a9 dr (((gV room pi d.aA).take d.stop).map a4.D) (ys.take d.stop):=by
   rw[map_take]
   exact Cr d.stop (a9.mono (s4.trans s5) _ _ bO)
  obtain⟨gA,a1,a2⟩:=WG n_
  have fin:∀s∈(gV room pi d.aA).take d.stop,wK pi.length s:=fun s aJ=>UB gN (mem_of_mem_take aJ)
  have low:∀j,((((gV room pi d.aA).take d.stop).take j).foldl a4.iN []).length≤300:=fun j=>by
   rw[List.take_take]
   exact Wi gN (by omega) n6 _
  have nf:=I8 gN pi d
  have lcs:(((gV room pi d.aA).take d.stop).foldl a4.n0 pi).length=pi.length:=Dh _ _
  generalize (gV room pi d.aA).take d.stop=fla at a1 fin low nf lcs
  refine⟨pt,fC,u,pi.map V.int,[],ys.take d.stop,gA,rfl,Rn _ _ A8,s5 _ _ bS,ek,a2,?_,fun j=>?_,fun b4 oc vo dO nh _ _ _ ew cu da=>?_⟩
  ·rw[length_map]
   exact a1.ok fun p n m=>fin _ m
  ·have aj:=((a1.take j).cA (log:=[]) (xs:=[]) fc.nil).1
   have az:=low j
   omega
  have aeZ:=a1
  rw[a1.bP]at cu
  have jv:hu dO (fla.foldl a4.iN []) (gA.foldl dY.cA []):=(a1.cA fc.nil).mono fun _ _ q=>q.mono nh.fy
  have NZ:∀ln∈fla.foldl a4.iN [],ln.ok pi.length:=fun ln fS=>by
   rcases Kn _ _ _ fS with z | z
   ·cases z
   ·exact fin _ z
  have aaj:(fla.foldl a4.iN []).length≤300:=by
   have:=low fla.length
   rw[take_length]at this
   exact this
  generalize fla.foldl a4.n0 pi=cs at cu nf lcs
  generalize fla.foldl a4.iN []=cA at jv nf aaj NZ
  have Rm:=Rn.trans nh
  refine⟨_,rfl,b4,_,_,_,rfl,rfl,aO.of ew,rfl,_,rfl,b4,_,_,_,rfl,rfl,aO.of ew,rfl,_,rfl,oc,vo,aC,cs,gA.foldl dY.cA [],cA,r6 room pi d,d.aJ,rfl,⟨cu,da,jv,by rw[lcs];exact NZ,rfl,le_refl _,nf⟩,by omega,by omega,(fu.trans Rm) _ _ rf,fun gZ dR fz jy=>?_⟩
  have Gq:=Rm.trans fz
  have Ge:=Gq _ _ aL
  have lk:=B7 gN pi d
  have AN:gZ≠acc:=Wh jy Ge (by omega) fun v aX=>by
   obtain⟨j,cD⟩:=List.mem_iff_getElem?.mp aX
   obtain⟨b,e,_⟩:=g7 j v cD
   exact⟨b,e⟩
  refine⟨_,rfl,.inl ⟨rfl,_,aM.of Ge⟩,_,rfl,acc,xs,_,rfl,rfl,Ge,mR (by omega),gZ,xs++[.ref gZ],_,_,_,_,_,rfl,(fu.trans Gq).hr de,?_,AN,aV,by rw[length_append,length_singleton,g4],fun j v cD=>?_⟩
  ·rw[aB AN,u9]
   exact jy
  ·by_cases FU:j<xs.length
   ·rw[getElem?_append_left FU]at cD
    obtain⟨b,e,nb,aa⟩:=g7 j v cD
    exact⟨b,e,nb,by rw[aB nb];exact Gq _ _ aa⟩
   ·rw[getElem?_append_right (by omega)]at cD
    have aaX:j - xs.length=0:=by
     cases z:j - xs.length with
     | zero=>rfl
     | succ n=>rw[z]at cD;simp at cD
    rw[aaX]at cD
    have ev:V.ref gZ=v:=Option.some.inj cD
    have kY:j=i:=by omega
    subst kY
    refine⟨gZ,ev.symm,AN,?_⟩
    rw[aB AN,u9]
    exact jy
 ·rintro σ av ⟨pt,xs,e7,e3,ed,eg,hj,rfl,fu,A8,ZY,aL,g4,g7⟩
  refine⟨_,rfl,q acc xs av fu aL (by rw[g4,←jY.1]) fun j v cD=>?_⟩
  obtain⟨b,e,_,aa⟩:=g7 j v cD
  exact⟨b,e,aa⟩
theorem Zs:bootBuiltins "max"=some (.builtin "max"):=by decide +kernel
theorem Zr:bootBuiltins "min"=some (.builtin "min"):=by decide +kernel
theorem Wv (ns:List Int) (lo aP:Option Int):∃ms:List Int,j8 (ns.map V.int) lo aP=ms.map V.int∧ms.length≤ns.length:=by
 refine⟨(ns.drop (hp.iA ns.length 0 lo)).take (hp.iA ns.length ns.length aP - hp.iA ns.length 0 lo),?_,?_⟩
 ·unfold j8
  rw[length_map,map_take,List.map_drop]
 ·rw[length_take,length_drop]
  omega
def Ib:dn:=fun vs H Q _=>∃(ih:Addr) (bad:List Addr) (rows:List (List a4)) (xs:List V),vs=[.ref ih]∧H ih=some (.lst xs)∧iy H bad rows xs∧rows.length≤1000∧∀af,bx H af→Q (.int (rows.flatten.length:Nat)) af
def LJ (K:PySem.W.Frag):dn:=fun vs H Q _=>∃(a:Addr) (ns:List Int) (c:Int),vs=[.ref a,.int c]∧aM K H a (ns.map V.int)∧ns.length≤63∧1≤c∧c≤40 ∧
 ∀(r:Addr) (bad:List Addr) (us:List V) (ds:List Day) (af:ao),bx H af→af r=some (.lst us)→iJ af bad ds us→ds.length≤12→(∀d∈ds,qW d∧d.aJ.length≤2)→Q (.ref r) af
theorem XI:dP wQ wQ (cR BZ):=d2
theorem WZ (F:bU K "_law_stroke_count" "_law_stroke_count" BZ f fd) (B:ff mg) (lY:w7 mg):bp P w K mg base bW 1 f fd wQ Ib:=by
 refine F.ok XI (fun vs H Q E h=>?_) (fun cz A outer s H vs Q E aE h=>?_)
 ·obtain⟨ih,bad,rows,xs,rfl,_⟩:=h
  rfl
 obtain⟨ih,bad,rows,xs,rfl,A6,R,ae3,q⟩:=h
 refine⟨_,(bl (dH (es (KC aE.hd) rfl lY.sum Ny (au (zM [] ["_law_row"] (ic.zero rfl (by decide +kernel) (by decide +kernel) rfl (by decide +kernel) rfl) rfl (jf (ah 0)) (fun C s1 H1 bG=>(es (Ih (K:=K) rfl) rfl B.len PySem.boot_len (au (ah 0) aN)))) aN)))),?_⟩
 have g4:=R.1
 refine⟨_,rfl,ih,rfl,⟨_,aM.of A6⟩,fun acc de=>?_⟩
 refine JQ (K:=K) (zs:=(rows.map fun r=>(r.length:Int)).map V.int) A6 de (by omega) (by rw[length_map,length_map];exact g4) (fun i y z aS k b6 hz s3 aQ=>?_) ?_
 ·obtain⟨row,EE,b,zs,rfl,_,aa,nR⟩:=R.get b6
  have gd:z=.int (row.length:Int):=by
   rw[getElem?_map,getElem?_map,EE]at hz
   exact (Option.some.inj hz).symm
  subst gd
  have gR:=nR.length
  rw[length_map]at gR
  refine⟨_,rfl,b,zs,rfl,.inl (aM.of (s3 _ _ aa)),?_⟩
  rw[gR]
  exact aQ
 ·refine⟨acc,_,rfl,aM.of aV,?_⟩
  rw[J6]
  exact q _ (bV de _)
theorem pH:dP Nd Ag (cR wc):=d2
theorem Uk {oh jQ fW:Addr}{rN lS gG:FuncData}(F:bU K "_law_days_of" "_law_days_of" wc f fd) (B:ff mg) (Y4:mg "max"=none)
  (pz:bp P w K mg base bW 1 oh rN sD (Eo K)) (pg:Binds K rN sD []) (o9:keepIn K (.ref oh)=true) (d7:mg "_law_at"=some (.ref oh))
  (px:bp P w K mg base bW 1 jQ lS sF Dn) (pe:Binds K lS sF []) (vr:keepIn K (.ref jQ)=true) (mw:mg "_law_draw"=some (.ref jQ))
  (hI:bp P w K mg base bW 2 fW gG Aj KS) (hH:Binds K gG Aj []) (nx:keepIn K (.ref fW)=true) (g0:mg "_law_some_deeds"=some (.ref fW)):bp P w K mg base bW 3 f fd Ag (LJ K):=by
 refine F.ok pH (fun vs H Q E h=>?_) (fun cz A outer s H vs Q E aE h=>?_)
 ·obtain⟨a,ns,c,rfl,_⟩:=h
  rfl
 obtain⟨a,ns,c,rfl,hY,P7,rl,cI,q⟩:=h
 obtain⟨t3,ck,fs⟩:∃t,hR (f7 bW P w K mg base Nd "_law_days_of" (cR wc) f cz A outer s H E).mZ ((um ((iY wc).getD 3 (.Pass ⟨0,0,0,0⟩))).drop 3) t∧∀(D:Ends) (eW cl:Addr) (k stop:Nat) (many ef:Int) (us:List V) (ms:List Int) (ds:List Day) (eg:Option V) (H1:ao),bx H H1→H eW=none→H1 eW=some (.lst us)→iJ H1 [eW] ds us→ds.length≤100→H1 cl=some (.lst (ms.map V.int))→ms.length≤63 →
   (∀(e3 eg:Option V) (d:Day) (v:V) (av:ao),bx H av→av eW=some (.lst (us++[v]))→iJ av [eW] (ds++[d]) (us++[v])→qW d→d.aJ.length≤2→D.dk [some (.ref a),some (.int c),some (.int many),some (.int ef),some (.ref eW),some (.int ((k:Nat):Int)),e3,some (.int ((stop:Nat):Int)),eg] av) →
   t D [some (.ref a),some (.int c),some (.int many),some (.int ef),some (.ref eW),some (.int ((k:Nat):Int)),some (.ref cl),some (.int ((stop:Nat):Int)),eg] H1:=by
  refine⟨_,(bg (K_ (i:=8) [0,5] ["_law_j","_law_script","_law_k"] pH.a3 rfl rfl (ic.two (f1:="_law_script") (f2:="_law_k") (j1:=0) (j2:=5) rfl (by decide +kernel) (by decide +kernel) rfl (by decide +kernel) rfl rfl rfl (by decide +kernel) (by decide +kernel) (by decide +kernel) rfl rfl rfl rfl rfl rfl) rfl (pF rfl B.i2 (au (c0 iZ (dE pz (cj aE) rfl d7 o9 pg .nil cU (au (ah 0) (au aZ aN))) aZ) aN)) (fun C s1 H1 bG=>(c0 iZ (c0 gI (c0 gI (dE pz (cj aE) rfl d7 o9 pg .nil cU (au (ah 1) (au aZ aN))) (ah 2)) (ah 0)) aZ))) (bl (dD (ia plainAttrs_list PySem.F.slot_list_append PySem.F.type_list_append h_ (ah 4) (au (gH (au (dE hI (cj aE) rfl g0 nx hH .nil cU (au (ah 6) (au (ah 1) aN))) (au (ah 7) (au (ah 8) aN)))) aN))))),?_⟩
  intro D eW cl k stop many ef us ms ds eg H1 jz abi cj jY qg xU Bs fE
  refine⟨_,rfl,a,ns,2,rfl,jz.seq hY,by decide,fun dK=>⟨_,_,rfl,rfl,(by decide:(0:Int)<3),_,rfl,by omega,by omega,fun acc de=>Tp (fun v=>∃n:Nat,v=.int (n:Nat)) de (by omega) (fun j aS nv cD s3 sW=>?_) fun ys av gR kL s2 aL=>?_⟩⟩
  ·refine⟨_,rfl,a,ns,1,rfl,(jz.trans s3).seq hY,by decide,fun z=>⟨_,rfl,_,_,rfl,rfl,_,rfl,_,_,rfl,rfl,_,_,rfl,rfl,(by decide:(0:Int)<4),sW _ _ ⟨((z+((k:Nat):Int)+(0+(j:Int))) % 4).toNat,?_⟩ (bx.refl _)⟩⟩
   have:=Int.emod_nonneg (z+((k:Nat):Int)+(0+(j:Int))) (b:=4) (by decide)
   exact congrArg V.int (by omega)
  obtain⟨aJ,rfl⟩:=Lf kL
  have lhs:aJ.length≤2:=by
   have:(q7 aJ).length=aJ.length:=length_map _
   omega
  have EG:=s2 _ _ cj
  have ab8:=jY.same s2
  have wW:acc≠eW:=fun z=>by rw[z,cj]at de;cases de
  refine⟨_,rfl,.inl ⟨rfl,_,aM.of EG⟩,_,rfl,_,rfl,cl,ms,c,rfl,s2 _ _ xU,Bs,rl,cI,fun dl vs aA aS s3 Qc bH i4 n6 vl=>?_⟩
  have Ze:=s3 _ _ EG
  have Z4:dl≠eW:=fun z=>by rw[z,EG]at Qc;cases Qc
  refine⟨_,rfl,_,rfl,c8,fun t bF=>?_⟩
  have s4:=bV bF (.tup [.ref dl,.int ((stop:Nat):Int),.ref acc])
  have bS:(upd aS t (.tup [.ref dl,.int ((stop:Nat):Int),.ref acc])) t=some (.tup [.ref dl,.int ((stop:Nat):Int),.ref acc]):=aV
  generalize upd aS t (.tup [.ref dl,.int ((stop:Nat):Int),.ref acc])=cB at s4 bS ⊢
  have Nk:=s4 _ _ Ze
  have oN:=jY.1
  refine⟨eW,us,_,rfl,rfl,Nk,mR (by omega),?_⟩
  have ho:=jz.trans (s2.trans (s3.trans s4))
  have aan:d1 cB (upd cB eW (.lst (us++[.ref t]))):=fun b xs e=>by
   rw[aB (dt e Nk (fun z=>nomatch z))]
   exact e
  have e7:∀b u,b∉[eW]→cB b=some u→(upd cB eW (.lst (us++[.ref t]))) b=some u:=fun b u aa e=>by
   rw[aB (fun z=>aa (by rw[z];exact mem_cons_self))]
   exact e
  have adj:iJ cB [eW] (ds++[⟨aA,stop,aJ⟩]) (us++[.ref t]):=fc.snoc ((ab8.same s3).same s4) ⟨t,dl,acc,vs,rfl,(fun z=>Z4 (mem_singleton.mp z)),(fun z=>wW (mem_singleton.mp z)),bS,s4 _ _ bH,a9.mono s4 _ _ i4,s4 _ _ (s3 _ _ aL)⟩
  exact fE _ _ ⟨aA,stop,aJ⟩ (.ref t) _ (ho.hr abi) aV (adj.move e7 aan fun b aa=>.inl aa) ⟨n6,vl⟩ lhs
 refine⟨_,(bg (cJ (i:=2) pH.a3 rfl (Or.inl rfl) (dE px (cj aE) rfl mw vr pe .nil cU (au (dE pz (cj aE) rfl d7 o9 pg .nil cU (au (ah 0) (au aZ aN))) (au aZ (au aZ aN))))) (bg (cJ (i:=3) pH.a3 rfl (Or.inl rfl) (c0 ug (c0 gI (es gU rfl B.len PySem.boot_len (au (ah 0) aN)) (ah 2)) (es (UK rfl) rfl Y4 Zs (au aZ (au (ah 2) aN))))) (bg (cJ (i:=4) pH.a3 rfl (Or.inl rfl) (fx aN)) (bg (hM PassesOwn.never rfl (pF rfl B.i2 (au (ah 2) aN)) (fQ (i:=5) pH.a3 rfl (Or.inr rfl)) (bg (cJ (i:=6) pH.a3 rfl (Or.inl rfl) (rZ r2 (ah 0) (qO (c0 gI aZ (c0 sd (ah 5) (ah 3)))) (qO (c0 gI aZ (c0 sd (c0 gI (ah 5) aZ) (ah 3)))))) (bg (cJ (i:=7) pH.a3 rfl (Or.inl rfl) (dE px (cj aE) rfl mw vr pe .nil cU (au (c0 gI (dE pz (cj aE) rfl d7 o9 pg .nil cU (au (ah 0) (au aZ aN))) (c0 sd aZ (ah 5))) (au aZ (au aZ aN))))) (bg (c_ (cX el (c0 iZ (dE pz (cj aE) rfl d7 o9 pg .nil cU (au (ah 0) (au aZ aN))) aZ) aZ (cP _)) (bl (cJ (i:=7) pH.a3 rfl (Or.inl rfl) aZ)) dZ) ck)))) (bl (dH (ah 4))))))),?_⟩
 refine⟨_,rfl,a,ns,1,rfl,hY,by decide,fun du=>⟨_,_,_,rfl,by decide,by decide,fun many m0 cp=>?_⟩⟩
 refine⟨_,rfl,a,_,rfl,.inl hY,_,rfl,_,_,rfl,rfl,_,rfl,_,_,rfl,_,_,rfl,rfl,⟨by split <;> omega,by split <;> omega⟩,?_⟩
 dsimp only
 generalize ((ns.map V.int).length+many) / (if many > 1 then many else 1)=ef
 refine⟨c8,fun eW cj=>?_⟩
 have s1:=bV cj (.lst [])
 have aG:(upd H eW (.lst [])) eW=some (.lst []):=aV
 generalize upd H eW (.lst [])=H1 at s1 aG ⊢
 refine⟨_,rfl,_,rfl,by omega,by omega,rY (fun i σ av=>∃(us:List V) (ds:List Day) (e7 e3 ed eg:Option V),σ=[some (.ref a),some (.int c),some (.int many),some (.int ef),some (.ref eW),e7,e3,ed,eg]∧bx H av∧av eW=some (.lst us)∧iJ av [eW] ds us∧ds.length=i∧(∀d∈ds,qW d∧d.aJ.length≤2))
  ⟨[],[],none,none,none,none,rfl,s1,aG,fc.nil,rfl,fun d hd=>(by cases hd)⟩ ?_ ?_⟩
 ·rintro i σ av aP ⟨us,ds,e7,e3,ed,eg,rfl,fu,xP,jY,ld,fd⟩
  have e0:(0:Int)+(i:Int)=((i:Nat):Int):=by omega
  rw[e0]
  refine⟨_,rfl,_,rfl,_,rfl,_,_,rfl,rfl,.inl ⟨by omega,by omega⟩,_,_,rfl,rfl,_,rfl,_,rfl,_,_,rfl,rfl,_,rfl,_,_,rfl,rfl,.inl ⟨by omega,by omega⟩,_,_,rfl,rfl,_,rfl,a,_,rfl,fu.seq hY,fun cH aj=>?_⟩
  dsimp only
  obtain⟨ms,abl,adV⟩:=Wv ns (some (3+((i:Nat):Int) * ef)) (some (3+(((i:Nat):Int)+1) * ef))
  rw[abl]
  have s3:=bV aj (.lst (ms.map V.int))
  have bH:(upd av cH (.lst (ms.map V.int))) cH=some (.lst (ms.map V.int)):=aV
  generalize upd av cH (.lst (ms.map V.int))=aS at s3 bH ⊢
  have eZ:=fu.trans s3
  refine⟨_,rfl,a,ns,2,rfl,eZ.seq hY,by decide,fun dK=>⟨_,rfl,_,_,rfl,rfl,.inl ⟨by decide,by decide⟩,_,_,rfl,rfl,_,_,_,rfl,by decide,by decide,fun st t0 t1=>?_⟩⟩
  obtain⟨sn,rfl⟩:∃sn:Nat,st=(sn:Int):=⟨st.toNat,by omega⟩
  have go:∀(n:Nat) (D:Ends),(∀(e3 eg:Option V) (d:Day) (v:V) (av:ao),bx H av→av eW=some (.lst (us++[v]))→iJ av [eW] (ds++[d]) (us++[v])→qW d→d.aJ.length≤2→D.dk [some (.ref a),some (.int c),some (.int many),some (.int ef),some (.ref eW),some (.int ((i:Nat):Int)),e3,some (.int ((n:Nat):Int)),eg] av)→t3 D [some (.ref a),some (.int c),some (.int many),some (.int ef),some (.ref eW),some (.int ((i:Nat):Int)),some (.ref cH),some (.int ((n:Nat):Int)),eg] aS:=fun n D fE =>
   fs D eW cH i n many ef us ms ds eg aS eZ cj (s3 _ _ xP) (jY.same s3) (by omega) bH (by omega) fE
  have fin:∀(n:Nat) (e3 eg:Option V) (d:Day) (v:V) (av:ao),bx H av→av eW=some (.lst (us++[v]))→iJ av [eW] (ds++[d]) (us++[v])→qW d→d.aJ.length≤2→∃(us:List V) (ds:List Day) (ti ack n8 yo:Option V),([some (.ref a),some (.int c),some (.int many),some (.int ef),some (.ref eW),some (.int ((i:Nat):Int)),e3,some (.int ((n:Nat):Int)),eg]:St)=[some (.ref a),some (.int c),some (.int many),some (.int ef),some (.ref eW),ti,ack,n8,yo]∧bx H av∧av eW=some (.lst us)∧iJ av [eW] ds us∧ds.length=i+1∧(∀d∈ds,qW d∧d.aJ.length≤2) :=
   fun n e3 eg d v av a1 a2 jU pk tL=>⟨us++[v],ds++[d],_,_,_,_,rfl,a1,a2,jU,by rw[length_append,ld];rfl,fun e he=>by
    rcases mem_append.mp he with z | z
    ·exact fd e z
    ·rw[mem_singleton.mp z];exact⟨pk,tL⟩⟩
  refine⟨_,rfl,a,ns,2,rfl,eZ.seq hY,by decide,fun yk=>⟨_,_,rfl,rfl,(by decide:(0:Int)<7),rfl,_,rfl,gn (fun _=>?_) (fun _=>?_)⟩⟩
  ·exact go 1000000000000 _ (fin 1000000000000)
  ·exact go sn _ (fin sn)
 ·rintro σ av ⟨us,ds,e7,e3,ed,eg,rfl,fu,xP,jY,ld,fd⟩
  exact⟨_,rfl,q eW [eW] us ds av fu xP jY (by omega) fd⟩
theorem J9:∀(l:List bZ) (x:aq) (i:Nat) (e:bZ),l[i]?=some e→(x.says l)[i]?=some ((x.run (l.take i)).a5 e).2
 | [],_,_,_,h=>by cases h
 | e::r,x,0,cF,h=>by
  cases Option.some.inj (show some e=some cF from h)
  rfl
 | e::r,x,i+1,cF,h=>J9 r (x.a5 e).1 i cF h
theorem K6:∀(l:List bZ) (x:aq) (i:Nat) (e:bZ),l[i]?=some e→(x.rows l)[i]?=some ((x.run (l.take i)).row e)
 | [],_,_,_,h=>by cases h
 | e::r,x,0,cF,h=>by
  cases Option.some.inj (show some e=some cF from h)
  rfl
 | e::r,x,i+1,cF,h=>K6 r (x.a5 e).1 i cF h
theorem Ua {H:ao}{bad:List Addr}{rows:List (List a4)}{xs:List V}{i:Nat}{row:List a4}(R:iy H bad rows xs) (h:rows[i]?=some row):∃b zs,xs[i]?=some (.ref b)∧H b=some (.lst zs)∧a9 H (row.map a4.D) zs:=by
 have aP:i<xs.length:=by rw[←R.1];exact (List.getElem?_eq_some_iff.mp h).1
 obtain⟨adx,aE,b,zs,e,_,hz,nR⟩:=R.get (getElem?_eq_getElem aP)
 rw[h]at aE
 cases aE
 exact⟨b,zs,by rw[getElem?_eq_getElem aP,e],hz,nR⟩
def LH:dn:=fun vs H Q _=>∃(bP dl b_ ih:Addr) (bad:List Addr) (ps:List Int) (room:Int) (us sM:List V) (aA:List bZ) (stop:Nat),vs=[.ref bP,.ref dl,.ref b_,.ref ih,.int (stop:Nat)]∧H bP=some (.lst (ps.map V.int))∧H dl=some (.lst us)∧a9 H (aA.map bZ.D) us∧H b_=some (.lst (((b9 ps room).says aA).map cY.v))∧H ih=some (.lst sM)∧iy H bad ((b9 ps room).rows aA) sM∧aA.length≤63∧1≤ps.length∧ps.length≤100∧0≤room ∧
 ∀(r:Addr) (af:ao),bx H af→af r=some (.lst ((keptBy stop aA (b9 ps room) (b9 ps room) 0).map V.int))→Q (.ref r) af
theorem Tn (K:PySem.W.Frag):kitOne K (.type "str") (.type "int")=some false:=by kernel_rfl
theorem UM {x:aq}{n:Int}(h:(x.a5 .begin).2=.num n):n=(x.begun:Int):=by
 have d8:x.a5 .begin=if (x.began.full 1).2=true then ((x.began.full 1).1,.word "no room") else ((x.began.full 1).1.opened,.num x.begun):=rfl
 rw[d8]at h
 split at h
 ·cases h
 ·cases h;rfl
theorem done_none {x:aq}{e:bZ}(h:(x.a5 e).2=.word "done"):x.refusal e=none:=by
 cases aE:x.refusal e with
 | none=>rfl
 | some w =>
  have aY:x.a5 e=(x,.word w):=by unfold aq.a5;rw[aE]
  rw[aY]at h
  exact absurd (by cases h;rfl) (qG aE)
theorem I0 {bw aC b:Addr}{pl:List (Int × Addr)}{d:Int}(aa:b∈jF bw aC (pl.filter fun z=>z.1 != d)):b∈jF bw aC pl:=by
 rcases mem_cons.mp aa with e | aa
 ·rw[e];exact mem_cons_self
 rcases mem_cons.mp aa with e | aa
 ·rw[e];exact mem_cons_of_mem _ mem_cons_self
 obtain⟨z,hz,e⟩:=mem_map.mp aa
 exact mem_cons_of_mem _ (mem_cons_of_mem _ (mem_map.mpr ⟨z,(mem_filter.mp hz).1,e⟩))
def UT:dn:=fun vs H Q _=>(∃i:Int,vs=[.int i]∧Q (.b0 true) H)∨∃w:Str,vs=[.str w]∧Q (.b0 false) H
theorem Uh (F:bU K "_law_whole" "_law_whole" wo f fd) (B:ff mg):bp P w K mg base bW 1 f fd sE UT:=by
 refine F.ok K0 (fun vs H Q E h=>?_) (fun cz A outer s H vs Q E aE h=>?_)
 ·rcases h with ⟨i,rfl,_⟩ | ⟨i,rfl,_⟩ <;> rfl
 refine⟨_,bl (dH (DP (es mM rfl B.l7 l3 (au (ah 0) (au (lg (v:=.ty "int") rfl B.int AB rfl) aN)))
  (DO (LQ (es mM rfl B.l7 l3 (au (ah 0) (au (lg (v:=.ty "bool") rfl B.b0 MH rfl) aN))))))),?_⟩
 rcases h with ⟨i,rfl,q⟩ | ⟨i,rfl,q⟩
 ·refine⟨_,rfl,_,_,_,_,rfl,.int i,IL K,_,rfl,eB ?_⟩
  exact⟨_,rfl,_,_,_,_,rfl,.int i,Il K,_,rfl,q⟩
 ·exact⟨_,rfl,_,_,_,_,rfl,.str i,Tn K,_,rfl,dQ q⟩
theorem pN:dP ["_law_pages","_law_asked","_law_told","_law_rows","_law_stop","_law_kept","_law_held","_law_made","_law_k","_law_deed","_law_page","_law_number"] Af (cR D2):=d2
theorem V_ {qt:Addr}{rL:FuncData}(F:bU K "_law_kept_by" "_law_kept_by" D2 f fd) (B:ff mg) (qE:bU K "_law_whole" "_law_whole" wo qt rL) (tH:Binds K rL sE []) (Hq:keepIn K (.ref qt)=true) (tx:mg "_law_whole"=some (.ref qt)):bp P w K mg base bW 2 f fd Af LH:=by
 refine F.ok pN (fun vs H Q E h=>?_) (fun cz A outer s H vs Q E aE h=>?_)
 ·obtain⟨bP,dl,b_,ih,bad,ps,room,us,sM,aA,stop,rfl,_⟩:=h
  rfl
 obtain⟨bP,dl,b_,ih,bad,ps,room,us,sM,aA,stop,rfl,lC,l8,xd,f9,A6,ac0,n6,fi,eK,gN,q⟩:=h
 have bq:=ht aE
 have oN:us.length=aA.length:=by rw[a9.length xd,length_map]
 have tS:=Uh (P:=P) (w:=w) (base:=base) qE B
 refine⟨_,(bg (cJ (i:=5) pN.a3 rfl (Or.inl rfl) (jd ow rfl B.lst ji (au (ah 0) aN))) (bg (cJ (i:=6) pN.a3 rfl (Or.inl rfl) v5) (bg (cJ (i:=7) pN.a3 rfl (Or.inl rfl) aZ) (bg (hM PassesOwn.never rfl (pF rfl B.i2 (au (es gU rfl B.len PySem.boot_len (au (ah 1) aN)) aN)) (fQ (i:=8) pN.a3 rfl (Or.inl rfl)) (bg (cJ (i:=7) pN.a3 rfl (Or.inl rfl) (c0 gI (ah 7) (es gU rfl B.len PySem.boot_len (au (bK fa (ah 3) (ah 8) (fun _ _=>rfl)) aN)))) (bg (cJ (i:=9) pN.a3 rfl (Or.inl rfl) (bK fa (ah 1) (ah 8) (fun _ _=>rfl))) (bg (c_ (cX uC (ah 7) (ah 4) (cP _)) (bl (dH (ah 5))) dZ) (bg (c_ (oA (cX el (bK cC (ah 9) aZ (fun _ _=>rfl)) bJ (cP _)) (jZ (dE tS (cj aE) rfl tx Hq tH .nil cU (au (bK fa (ah 2) (ah 8) (fun _ _=>rfl)) aN)))) (bl (mO bq (ah 6) (bK fa (ah 2) (ah 8) (fun _ _=>rfl)) (fx aN) rfl)) dZ) (bl (c_ (oA (jZ (es mM rfl B.l7 l3 (au (bK fa (ah 2) (ah 8) (fun _ _=>rfl)) (au (lg (v:=.ty "str") rfl B.str EL rfl) aN)))) (cX el (bK fa (ah 2) (ah 8) (fun _ _=>rfl)) bJ (cP _))) (bg (c_ (cX el (bK cC (ah 9) aZ (fun _ _=>rfl)) bJ (cP _)) (bl (dD (ia plainAttrs_list PySem.F.slot_list_append PySem.F.type_list_append h_ (e1 bq (ah 6) (bK cC (ah 9) aZ (fun _ _=>rfl)) (fun _ _=>rfl)) (au (gH (au (bK cC (ah 9) aZ (fun _ _=>rfl)) (au (bK cC (ah 9) aZ (fun _ _=>rfl)) aN))) aN)))) dZ) (bg (c_ (cX el (bK cC (ah 9) aZ (fun _ _=>rfl)) bJ (cP _)) (bl (hM PassesOwn.never rfl (jf (e1 bq (ah 6) (bK cC (ah 9) aZ (fun _ _=>rfl)) (fun _ _=>rfl))) (r_ rfl (kA (fQ (i:=10) pN.a3 rfl (Or.inl rfl)) (kA (fQ (i:=11) pN.a3 rfl (Or.inl rfl)) r3))) (bl (r9 (ah 11) (sa (ah 5) (ah 10) set_list))))) dZ) (bl (c_ (mS (cX el (bK cC (ah 9) aZ (fun _ _=>rfl)) bJ (cP _)) (cX el (bK cC (ah 9) aZ (fun _ _=>rfl)) bJ (cP _))) (bl (dD (CI (ah 6) (bK cC (ah 9) aZ (fun _ _=>rfl)) ⟨rfl,rfl,rfl,rfl⟩))) dZ)))) dZ))))))) (bl (dH (ah 5))))))),?_⟩
 refine⟨_,rfl,bP,_,rfl,.inl (aM.of lC),fun bw PS=>?_⟩
 have s2:=bV PS (.lst (ps.map V.int))
 have aL:(upd H bw (.lst (ps.map V.int))) bw=some (.lst (ps.map V.int)):=aV
 generalize upd H bw (.lst (ps.map V.int))=av at s2 aL ⊢
 refine fun aC rf=>?_
 have s3:=bV rf (.bR [])
 have bH:(upd av aC (.bR [])) aC=some (.bR []):=aV
 have gc:H aC=none:=s2.free rf
 have eV:bw≠aC:=fun z=>by rw[←z,aL]at rf;cases rf
 generalize upd av aC (.bR [])=aS at s3 bH ⊢
 have eZ:=s2.trans s3
 have P3:eL aS bw bw bw bw aC bw [] (b9 ps room):=⟨s3 _ _ aL,bH,rfl,fun i z w h=>(by cases h),nodup_nil,nodup_cons.mpr ⟨fun m=>eV (mem_singleton.mp m),nodup_cons.mpr ⟨not_mem_nil,nodup_nil⟩⟩⟩
 have oU:∀b,b∈jF bw aC []→H b=none:=fun b aa=>by
  rcases mem_cons.mp aa with z | z
  ·rw[z];exact PS
  ·rw[mem_singleton.mp z];exact gc
 refine⟨_,rfl,dl,us,rfl,.inl (aM.of (eZ _ _ l8)),_,rfl,by omega,by omega,rY (fun i σ dr=>∃(k:aq) (pl:List (Int × Addr)) (made:Nat) (eg hj gL hc:Option V),σ=[some (.ref bP),some (.ref dl),some (.ref b_),some (.ref ih),some (.int (stop:Nat)),some (.ref bw),some (.ref aC),some (.int ((made:Nat):Int)),eg,hj,gL,hc]∧eL dr bw bw bw bw aC bw pl k∧bx H dr∧(∀b,b∈jF bw aC pl→H b=none)∧made≤stop ∧
    keptBy stop aA (b9 ps room) (b9 ps room) 0=keptBy stop (aA.drop i) ((b9 ps room).run (aA.take i)) k made∧J ((b9 ps room).run (aA.take i)) k.ay ((b9 ps room).run (aA.take i)).begun∧h6 ((b9 ps room).run (aA.take i)) k)
   ⟨b9 ps room,[],0,none,none,none,none,rfl,P3,eZ,oU,zero_le _,rfl,Ml ps room,⟨rfl,fun d l fD m=>(by cases m),fun d l q e m=>(by cases m)⟩⟩ ?_ ?_⟩
 ·rintro i σ dr iQ ⟨k,fL,made,eg,hj,gL,hc,rfl,yZ,kq,fq,hm,aQ,vF,KK⟩
  have e0:(0:Int)+(i:Int)=((i:Nat):Int):=by omega
  rw[e0]
  have aP:i<us.length:=by omega
  obtain⟨v,aX⟩:∃v,us[i]?=some v:=⟨_,getElem?_eq_getElem aP⟩
  obtain⟨e,he,re⟩:=qL xd aX
  have lt:(aA.take i).length=i:=by rw[length_take];omega
  have jx:=(zG (room:=room) fi eK).run (aA.take i) (by omega)
  rw[lt,zero_add]at jx
  have bF:(b9 ps room).run (aA.take (i+1))=(((b9 ps room).run (aA.take i)).a5 e).1:=by
   have aj:aA.take (i+1)=aA.take i++[e]:=by rw[take_add_one,he];rfl
   rw[aj,CG]
  have hd:aA.drop i=e::aA.drop (i+1):=by
   rw[List.drop_eq_getElem_cons (List.getElem?_eq_some_iff.mp he).1,(List.getElem?_eq_some_iff.mp he).2]
  have dJ:(((b9 ps room).says aA).map cY.v)[i]?=some (((b9 ps room).run (aA.take i)).a5 e).2.v:=by
   rw[getElem?_map,J9 aA _ i e he]
   rfl
  obtain⟨b,zs,bh,hz,o4⟩:=Ua ac0 (K6 aA _ i e he)
  rw[bF]
  rw[hd]at aQ
  generalize (b9 ps room).run (aA.take i)=x at aQ vF KK jx dJ o4 ⊢
  have FQ:keptBy stop (e::aA.drop (i+1)) x k made=if stop<made+(x.row e).length then k.ay else keptBy stop (aA.drop (i+1)) (x.a5 e).1 (hO k e (x.a5 e).2) (made+(x.row e).length):=rfl
  rw[FQ]at aQ
  have kW:zs.length=(x.row e).length:=by rw[a9.length o4,length_map]
  refine⟨_,rfl,_,rfl,_,rfl,ih,_,_,_,rfl,rfl,aM.of (kq _ _ A6),e4 bh,b,zs,rfl,.inl (aM.of (kq _ _ hz)),_,_,rfl,rfl,?_⟩
  have em:(made:Int)+(zs.length:Int)=((made+(x.row e).length:Nat):Int):=by rw[kW];omega
  dsimp only
  rw[em]
  refine⟨_,rfl,_,rfl,dl,_,_,_,rfl,rfl,aM.of (kq _ _ l8),e4 aX,?_⟩
  refine⟨_,rfl,_,rfl,_,_,rfl,rfl,_,rfl,gn (fun cH=>?_) (fun cH=>?_)⟩
  ·have dh:stop<made+(x.row e).length:=by have e_:(stop:Int)<((made+(x.row e).length:Nat):Int):=of_decide_eq_true cH;omega
   rw[if_pos dh]at aQ
   refine⟨_,rfl,q bw dr kq ?_⟩
   rw[aQ]
   exact yZ.hd
  have dh:¬stop<made+(x.row e).length:=fun z=>cH (decide_eq_true (by omega))
  rw[if_neg dh]at aQ
  obtain⟨j2,k2⟩:=KJ vF KK e
  have fP:=yZ
  have dp:=kq
  generalize dr=dO at fP dp ⊢
  clear yZ kq
  have AW:aC∈jF bw aC fL:=mem_cons_of_mem _ mem_cons_self
  have Oa:bw∈jF bw aC fL:=mem_cons_self
  have Ft:(d6 fL).length<sizeLine:=jB (by
   have aG:(d6 fL).length=fL.length:=length_map _
   have aL:=fP.mW
   have bH:k.aK.length=x.aK.length:=by have:=congrArg List.length KK.aU;rw[length_map,length_map]at this;exact this
   have:=jx.pl
   omega)
  have Y7:∀d,(k.c7 d).length≤200:=fun d=>by
   cases aQ:k.isOpen d with
   | false =>
    have:k.c7 d=[]:=by
     unfold aq.c7
     rw[find?_eq_none.mpr fun z hz e=>by
      have:k.isOpen d=true:=any_eq_true.mpr ⟨z,hz,e⟩
      rw[aQ]at this;cases this]
     rfl
    rw[this];exact zero_le _
   | true =>
    obtain⟨l,aC,e⟩:=KK.other (kv aQ)
    have aj:=congrArg List.length e
    rw[length_map,length_map]at aj
    have:=(jx.d3 _ aC).2.2.1
    have az:l.length≤i:=this
    omega
  have Ab:∀{dR:ao},hh (jF bw aC fL) dO dR→bx H dR:=fun o b u z=>o b u (fun m=>by rw[fq b m]at z;cases z) (dp b u z)
  have bX:=Rep.mono dp _ _ re
  have fin:∀(g5:aq) (hx:List (Int × Addr)) (af:ao) (gL hc:Option V),eL af bw bw bw bw aC bw hx g5→bx H af→(∀b,b∈jF bw aC hx→H b=none)→hO k e (x.a5 e).2=g5→∃(k:aq) (pl:List (Int × Addr)) (Ec:Nat) (eg hj NK NJ:Option V),([some (.ref bP),some (.ref dl),some (.ref b_),some (.ref ih),some (.int (stop:Nat)),some (.ref bw),some (.ref aC),some (.int (((made+(x.row e).length):Nat):Int)),some (.int ((i:Nat):Int)),some v,gL,hc]:St)=[some (.ref bP),some (.ref dl),some (.ref b_),some (.ref ih),some (.int (stop:Nat)),some (.ref bw),some (.ref aC),some (.int ((Ec:Nat):Int)),eg,hj,NK,NJ]∧eL af bw bw bw bw aC bw pl k∧bx H af∧(∀b,b∈jF bw aC pl→H b=none)∧Ec≤stop ∧
    keptBy stop aA (b9 ps room) (b9 ps room) 0=keptBy stop (aA.drop (i+1)) (x.a5 e).1 k Ec∧J (x.a5 e).1 k.ay (x.a5 e).1.begun∧h6 (x.a5 e).1 k :=
   fun g5 hx af NK NJ ac1 acX rK gx=>⟨hO k e (x.a5 e).2,hx,made+(x.row e).length,_,_,_,_,rfl,by rw[gx];exact ac1,acX,rK,by omega,aQ,j2,k2⟩
  cases e with
  | begin =>
   obtain⟨c,c3,rfl,ai,bE⟩:=qM bX
   cases bE.str_inv
   cases ei:(x.a5 (.begin)).2 with
   | num gO =>
    have dJ:(((b9 ps room).says aA).map cY.v)[i]?=some (V.int gO):=by rw[dJ,ei];rfl
    refine⟨_,rfl,c,_,_,_,rfl,rfl,aO.of ai,rfl,rfl,_,rfl,en rfl ?_⟩
    refine⟨_,rfl,_,rfl,b_,_,_,_,rfl,rfl,aM.of (dp _ _ f9),e4 dJ,.inl ⟨gO,rfl,_,rfl,eB ?_⟩⟩
    have vz:gO=(x.begun:Int):=UM ei
    refine⟨c8,fun u oQ=>?_⟩
    have mu:=fP.there oQ
    have fz:=bV oQ (.lst [])
    have jy:(upd dO u (.lst [])) u=some (.lst []):=aV
    have k7:=fP.same fz
    generalize upd dO u (.lst [])=dR at fz jy k7 ⊢
    have nT:k.isOpen gO=false:=by
     rw[KK.isOpen,vz]
     cases b6:x.isOpen (x.begun:Int) with
     | false=>rfl
     | true=>have:=vF.lV _ b6;omega
    refine⟨_,rfl,_,rfl,_,rfl,b_,_,_,_,rfl,rfl,aM.of ((dp.trans fz) _ _ f9),e4 dJ,aC,_,rfl,.inl ⟨_,Sum.inl gO,k7.aF,rfl,Ft,rfl⟩,?_⟩
    have tP:=k7.opened (d:=gO) jy mu nT
    have eg:hh (jF bw aC fL) dO (upd dR aC (.bR (putK (d6 fL) (Sum.inl gO) (.ref u)))):=(bx.et fz).trans (kB AW)
    have kt:=fP.fy eg
    generalize upd dR aC (.bR (putK (d6 fL) (Sum.inl gO) (.ref u)))=gT at tP eg kt ⊢
    have tO:=Ab eg
    refine⟨_,rfl,_,rfl,b_,_,_,_,rfl,rfl,aM.of (tO _ _ f9),e4 dJ,_,_,_,_,rfl,.int _,qI K,_,rfl,dQ ?_⟩
    refine fin _ _ gT _ _ tP tO (fun b aa=>?_) (by rw[ei];rfl)
    rcases mem_cons.mp aa with e | aa
    ·exact fq b (by rw[e];exact Oa)
    rcases mem_cons.mp aa with e | aa
    ·exact fq b (by rw[e];exact AW)
    rw[map_append]at aa
    rcases mem_append.mp aa with aa | aa
    ·exact fq b (mem_cons_of_mem _ (mem_cons_of_mem _ aa))
    ·rw[mem_singleton.mp aa];exact dp.free oQ
   | word ww =>
    have dJ:(((b9 ps room).says aA).map cY.v)[i]?=some (V.str ww):=by rw[dJ,ei];rfl
    refine⟨_,rfl,c,_,_,_,rfl,rfl,aO.of ai,rfl,rfl,_,rfl,en rfl ?_⟩
    refine⟨_,rfl,_,rfl,b_,_,_,_,rfl,rfl,aM.of (dp _ _ f9),e4 dJ,.inr ⟨ww,rfl,_,rfl,dQ ?_⟩⟩
    refine⟨_,rfl,_,rfl,b_,_,_,_,rfl,rfl,aM.of (dp _ _ f9),e4 dJ,_,_,_,_,rfl,.str _,pD K,_,rfl,eB ?_⟩
    by_cases hw:ww="done"
    ·refine⟨_,rfl,_,rfl,b_,_,_,_,rfl,rfl,aM.of (dp _ _ f9),e4 dJ,rfl,_,rfl,en (by rw[hw]) ?_⟩
     refine⟨_,rfl,c,_,_,_,rfl,rfl,aO.of ai,rfl,rfl,_,rfl,bC (by decide +kernel) ?_⟩
     refine⟨_,rfl,c,_,_,_,rfl,rfl,aO.of ai,rfl,rfl,_,rfl,bC (by decide +kernel) ?_⟩
     refine⟨_,rfl,c,_,_,_,rfl,rfl,aO.of ai,rfl,rfl,_,rfl,bC (by decide +kernel) ?_⟩
     refine⟨_,rfl,c,_,_,_,rfl,rfl,aO.of ai,rfl,rfl,_,rfl,bC (by decide +kernel) ?_⟩
     exact fin k fL dO _ _ fP dp fq (by rw[ei];rfl)
    ·refine⟨_,rfl,_,rfl,b_,_,_,_,rfl,rfl,aM.of (dp _ _ f9),e4 dJ,rfl,_,rfl,bC (fun z=>hw (by cases z;rfl)) ?_⟩
     exact fin k fL dO _ _ fP dp fq (by rw[ei];exact rfl)
  | put d p n =>
   obtain⟨c,c3,di,n7,yl,rfl,ai,bE,b4,gZ,mj⟩:=zz bX
   cases bE.str_inv
   cases b4.int_inv
   cases gZ.int_inv
   cases mj.int_inv
   refine⟨_,rfl,c,_,_,_,rfl,rfl,aO.of ai,rfl,rfl,_,rfl,bC (by decide +kernel) ?_⟩
   cases ei:(x.a5 (.put d p n)).2 with
   | num gO =>
    have dJ:(((b9 ps room).says aA).map cY.v)[i]?=some (V.int gO):=by rw[dJ,ei];rfl
    refine⟨_,rfl,_,rfl,b_,_,_,_,rfl,rfl,aM.of (dp _ _ f9),e4 dJ,_,_,_,_,rfl,.int _,qI K,_,rfl,dQ ?_⟩
    exact fin k fL dO _ _ fP dp fq (by rw[ei];rfl)
   | word ww =>
    have dJ:(((b9 ps room).says aA).map cY.v)[i]?=some (V.str ww):=by rw[dJ,ei];rfl
    refine⟨_,rfl,_,rfl,b_,_,_,_,rfl,rfl,aM.of (dp _ _ f9),e4 dJ,_,_,_,_,rfl,.str _,pD K,_,rfl,eB ?_⟩
    by_cases hw:ww="done"
    ·refine⟨_,rfl,_,rfl,b_,_,_,_,rfl,rfl,aM.of (dp _ _ f9),e4 dJ,rfl,_,rfl,en (by rw[hw]) ?_⟩
     have dz:x.refusal (.put d p n)=none:=done_none (by rw[ei,hw])
     have aD:k.isOpen d=true:=by rw[KK.isOpen];exact iv (.inl ⟨p,n,rfl⟩) dz
     obtain⟨o6,fi⟩:=nD (.inl ⟨d,n,rfl⟩) dz
     obtain⟨bL,rfl⟩:∃bL:Nat,p=(bL:Int):=⟨p.toNat,by omega⟩
     obtain⟨j,a,ys,cD,ra,bo,nS,cO⟩:=fP.qP aD
     have m3:=nS.length
     rw[length_map]at m3
     have kW:(k.c7 d).length≤200:=Y7 d
     refine⟨_,rfl,c,_,_,_,rfl,rfl,aO.of ai,rfl,rfl,_,rfl,en rfl ?_⟩
     refine⟨_,rfl,_,rfl,c,_,_,_,rfl,rfl,aO.of ai,rfl,aC,_,rfl,cO,.inl ⟨rfl,_,aM.of bo⟩,_,rfl,c,_,_,_,rfl,rfl,aO.of ai,rfl,_,rfl,c,_,_,_,rfl,rfl,aO.of ai,rfl,c8,fun t bF=>?_⟩
     have fz:=bV bF (.tup [.int (bL:Nat),.int n])
     have jy:(upd dO t (.tup [.int (bL:Nat),.int n])) t=some (.tup [.int (bL:Nat),.int n]):=aV
     have k7:=fP.same fz
     have F6:=fz _ _ bo
     generalize upd dO t (.tup [.int (bL:Nat),.int n])=dR at fz jy k7 F6 ⊢
     refine⟨a,ys,.ref t,rfl,rfl,F6,jB (by omega),?_⟩
     have tP:=k7.c1 (y:=(bL,n)) (v:=.ref t) cD F6 (.hs jy (.cons .ofInt (.cons .ofInt .nil)))
     have Hf:a∈jF bw aC fL:=mem_cons_of_mem _ (mem_cons_of_mem _ (mem_map.mpr ⟨_,mem_of_getElem? cD,rfl⟩))
     have eg:hh (jF bw aC fL) dO (upd dR a (.lst (ys++[.ref t]))):=(bx.et fz).trans (kB Hf)
     have ai:=fP.fy eg _ _ ai
     generalize upd dR a (.lst (ys++[.ref t]))=gT at tP eg ai ⊢
     have tO:=Ab eg
     refine⟨_,rfl,c,_,_,_,rfl,rfl,aO.of ai,rfl,rfl,_,rfl,bC (by decide +kernel) ?_⟩
     refine⟨_,rfl,c,_,_,_,rfl,rfl,aO.of ai,rfl,rfl,_,rfl,bC (by decide +kernel) ?_⟩
     refine⟨_,rfl,c,_,_,_,rfl,rfl,aO.of ai,rfl,rfl,_,rfl,bC (by decide +kernel) ?_⟩
     refine fin _ fL gT _ _ (tP.of ?_ ?_) tO fq rfl
     ·rw[ei];exact congrArg aq.ay (if_pos (e:=k) hw)
     ·rw[ei];exact congrArg aq.aK (if_pos (e:=k) hw)
    ·refine⟨_,rfl,_,rfl,b_,_,_,_,rfl,rfl,aM.of (dp _ _ f9),e4 dJ,rfl,_,rfl,bC (fun z=>hw (by cases z;rfl)) ?_⟩
     exact fin k fL dO _ _ fP dp fq (by rw[ei];exact if_neg hw)
  | fin d =>
   obtain⟨c,c3,di,rfl,ai,bE,b4⟩:=gj bX
   cases bE.str_inv
   cases b4.int_inv
   refine⟨_,rfl,c,_,_,_,rfl,rfl,aO.of ai,rfl,rfl,_,rfl,bC (by decide +kernel) ?_⟩
   cases ei:(x.a5 (.fin d)).2 with
   | num gO =>
    have dJ:(((b9 ps room).says aA).map cY.v)[i]?=some (V.int gO):=by rw[dJ,ei];rfl
    refine⟨_,rfl,_,rfl,b_,_,_,_,rfl,rfl,aM.of (dp _ _ f9),e4 dJ,_,_,_,_,rfl,.int _,qI K,_,rfl,dQ ?_⟩
    exact fin k fL dO _ _ fP dp fq (by rw[ei];rfl)
   | word ww =>
    have dJ:(((b9 ps room).says aA).map cY.v)[i]?=some (V.str ww):=by rw[dJ,ei];rfl
    refine⟨_,rfl,_,rfl,b_,_,_,_,rfl,rfl,aM.of (dp _ _ f9),e4 dJ,_,_,_,_,rfl,.str _,pD K,_,rfl,eB ?_⟩
    by_cases hw:ww="done"
    ·refine⟨_,rfl,_,rfl,b_,_,_,_,rfl,rfl,aM.of (dp _ _ f9),e4 dJ,rfl,_,rfl,en (by rw[hw]) ?_⟩
     have dz:x.refusal (.fin d)=none:=done_none (by rw[ei,hw])
     have aD:k.isOpen d=true:=by rw[KK.isOpen];exact iv (.inr (.inl rfl)) dz
     obtain⟨j,a,ys,cD,ra,bo,nS,cO⟩:=fP.qP aD
     have m3:=nS.length
     rw[length_map]at m3
     have na:a∉[bw,aC]:=fun m=>by
      obtain⟨bu,aW⟩:=fP.ne.2 _ (mem_of_getElem? cD)
      rcases mem_cons.mp m with z | z
      ·exact bu z
      ·exact aW (mem_singleton.mp z)
     have i2:∀z∈k.c7 d,z.1<k.ay.length:=fun z hz=>by
      obtain⟨l,o,cp,cy⟩:=KK.has (q:=z.1) (o:=z.2) (kv aD) hz
      rw[vF.cl];exact vF.d3 d l z.1 o cp cy
     refine⟨_,rfl,c,_,_,_,rfl,rfl,aO.of ai,rfl,rfl,_,rfl,bC (by decide +kernel) ?_⟩
     refine⟨_,rfl,c,_,_,_,rfl,rfl,aO.of ai,rfl,rfl,_,rfl,en rfl ?_⟩
     refine⟨_,rfl,_,rfl,c,_,_,_,rfl,rfl,aO.of ai,rfl,aC,_,rfl,cO,a,rfl,⟨ys,aM.of bo⟩,mL (K:=K) (a:=a) (xs:=ys) (fun j σ dR=>∃(gL hc:Option V),σ=[some (.ref bP),some (.ref dl),some (.ref b_),some (.ref ih),some (.int (stop:Nat)),some (.ref bw),some (.ref aC),some (.int (((made+(x.row (.fin d)).length):Nat):Int)),some (.int ((i:Nat):Int)),some (.ref c),gL,hc]∧eL dR bw bw bw bw aC bw fL { k with ay:=jA ((k.c7 d).take j) k.ay }∧hh [bw] dO dR)
      ⟨_,_,rfl,fP,hh.refl _ _⟩ (fun j σ dR _ ⟨_,_,_,_,ed⟩=>aM.of (ed _ _ (fun m=>na (mem_cons.mpr (.inl (mem_singleton.mp m)))) bo)) ?_ ?_⟩
     ·rintro j v σ dR u0 ⟨gL,hc,rfl,k7,ed⟩
      obtain⟨jo,du,dK⟩:=qL nS u0
      have kt:d1 dO dR:=fun b xs q=>ed b _ (fun m=>by rw[mem_singleton.mp m,fP.hd]at q;cases q) q
      obtain⟨b,fh,eG,rfl,aa,bu,aW⟩:=gj (a:=.int (jo.1:Nat)) (b:=.int jo.2) (Rep.keep kt _ _ (hD jo) dK)
      cases bu.int_inv
      cases aW.int_inv
      have m7:=i2 jo (mem_of_getElem? du)
      refine⟨b,_,rfl,aO.of aa,rfl,_,_,rfl,_,_,rfl,rfl,?_⟩
      refine⟨_,rfl,_,rfl,_,rfl,bw,_,_,jo.1,rfl,rfl,k7.hd,r4 (by rw[length_map,Ca];exact m7),?_⟩
      rw[pC]
      have tP:=k7.uJ (c:=(jA ((k.c7 d).take j) k.ay).set jo.1 jo.2)
      have ja:(k.c7 d).take (j+1)=(k.c7 d).take j++[jo]:=by
       rw[take_add_one,du]
       rfl
      refine⟨_,_,rfl,tP.of ?_ rfl,ed.trans (kB mem_cons_self)⟩
      show jA ((k.c7 d).take (j+1)) k.ay=_
      rw[ja]
      unfold jA
      rw[foldl_append]
      rfl
     ·rintro σ dR ⟨gL,hc,rfl,k7,ed⟩
      rw[m3,take_length]at k7
      have N1:hh (jF bw aC fL) dO dR:=fun b o aa=>ed b o fun m=>aa (by rw[mem_singleton.mp m];exact Oa)
      have ai:=fP.fy N1 _ _ ai
      have aX:=k7.isOpen d
      have rd:({ k with ay:=jA (k.c7 d) k.ay }:aq).isOpen d=true:=aD
      rw[rd]at aX
      obtain⟨tl,sR⟩:=Option.isSome_iff_exists.mp aX
      refine⟨_,rfl,c,_,_,_,rfl,rfl,aO.of ai,rfl,rfl,_,rfl,en rfl ?_⟩
      refine⟨_,rfl,aC,rfl,.inl ⟨_,.inl k7.aF⟩,_,rfl,c,_,_,_,rfl,rfl,aO.of ai,rfl,_,Sum.inl d,tl,k7.aF,rfl,sR,?_⟩
      have eg:=N1.trans (kB (o:=.bR (j4 (d6 fL) (Sum.inl d))) AW)
      refine fin _ _ _ _ _ ((k7.ended d).of ?_ ?_) (Ab eg) (fun b aa=>fq b (I0 aa)) rfl
      ·rw[ei];exact congrArg aq.ay (if_pos (e:=k) hw)
      ·rw[ei];exact congrArg aq.aK (if_pos (e:=k) hw)
    ·refine⟨_,rfl,_,rfl,b_,_,_,_,rfl,rfl,aM.of (dp _ _ f9),e4 dJ,rfl,_,rfl,bC (fun z=>hw (by cases z;rfl)) ?_⟩
     exact fin k fL dO _ _ fP dp fq (by rw[ei];exact if_neg hw)
  | drop d =>
   obtain⟨c,c3,di,rfl,ai,bE,b4⟩:=gj bX
   cases bE.str_inv
   cases b4.int_inv
   refine⟨_,rfl,c,_,_,_,rfl,rfl,aO.of ai,rfl,rfl,_,rfl,bC (by decide +kernel) ?_⟩
   cases ei:(x.a5 (.drop d)).2 with
   | num gO =>
    have dJ:(((b9 ps room).says aA).map cY.v)[i]?=some (V.int gO):=by rw[dJ,ei];rfl
    refine⟨_,rfl,_,rfl,b_,_,_,_,rfl,rfl,aM.of (dp _ _ f9),e4 dJ,_,_,_,_,rfl,.int _,qI K,_,rfl,dQ ?_⟩
    exact fin k fL dO _ _ fP dp fq (by rw[ei];rfl)
   | word ww =>
    have dJ:(((b9 ps room).says aA).map cY.v)[i]?=some (V.str ww):=by rw[dJ,ei];rfl
    refine⟨_,rfl,_,rfl,b_,_,_,_,rfl,rfl,aM.of (dp _ _ f9),e4 dJ,_,_,_,_,rfl,.str _,pD K,_,rfl,eB ?_⟩
    by_cases hw:ww="done"
    ·refine⟨_,rfl,_,rfl,b_,_,_,_,rfl,rfl,aM.of (dp _ _ f9),e4 dJ,rfl,_,rfl,en (by rw[hw]) ?_⟩
     have dz:x.refusal (.drop d)=none:=done_none (by rw[ei,hw])
     have aD:k.isOpen d=true:=by rw[KK.isOpen];exact iv (.inr (.inr rfl)) dz
     have aX:=fP.isOpen d
     rw[aD]at aX
     obtain⟨tl,sR⟩:=Option.isSome_iff_exists.mp aX
     refine⟨_,rfl,c,_,_,_,rfl,rfl,aO.of ai,rfl,rfl,_,rfl,bC (by decide +kernel) ?_⟩
     refine⟨_,rfl,c,_,_,_,rfl,rfl,aO.of ai,rfl,rfl,_,rfl,bC (by decide +kernel) ?_⟩
     refine⟨_,rfl,c,_,_,_,rfl,rfl,aO.of ai,rfl,rfl,_,rfl,bC (by decide +kernel) ?_⟩
     refine⟨_,rfl,c,_,_,_,rfl,rfl,aO.of ai,rfl,rfl,_,rfl,en rfl ?_⟩
     refine⟨_,rfl,aC,rfl,.inl ⟨_,.inl fP.aF⟩,_,rfl,c,_,_,_,rfl,rfl,aO.of ai,rfl,_,Sum.inl d,tl,fP.aF,rfl,sR,?_⟩
     refine fin _ _ _ _ _ ((fP.ended d).of ?_ ?_) (Ab (kB (o:=.bR (j4 (d6 fL) (Sum.inl d))) AW)) (fun b aa=>fq b (I0 aa)) rfl
     ·rw[ei];exact congrArg aq.ay (if_pos (e:=k) hw)
     ·rw[ei];exact congrArg aq.aK (if_pos (e:=k) hw)
    ·refine⟨_,rfl,_,rfl,b_,_,_,_,rfl,rfl,aM.of (dp _ _ f9),e4 dJ,rfl,_,rfl,bC (fun z=>hw (by cases z;rfl)) ?_⟩
     exact fin k fL dO _ _ fP dp fq (by rw[ei];exact if_neg hw)
  | look p =>
   obtain⟨c,c3,di,rfl,ai,bE,b4⟩:=gj bX
   cases bE.str_inv
   cases b4.int_inv
   refine⟨_,rfl,c,_,_,_,rfl,rfl,aO.of ai,rfl,rfl,_,rfl,bC (by decide +kernel) ?_⟩
   cases ei:(x.a5 (.look p)).2 with
   | num gO =>
    have dJ:(((b9 ps room).says aA).map cY.v)[i]?=some (V.int gO):=by rw[dJ,ei];rfl
    refine⟨_,rfl,_,rfl,b_,_,_,_,rfl,rfl,aM.of (dp _ _ f9),e4 dJ,_,_,_,_,rfl,.int _,qI K,_,rfl,dQ ?_⟩
    exact fin k fL dO _ _ fP dp fq (by rw[ei];rfl)
   | word ww =>
    have dJ:(((b9 ps room).says aA).map cY.v)[i]?=some (V.str ww):=by rw[dJ,ei];rfl
    refine⟨_,rfl,_,rfl,b_,_,_,_,rfl,rfl,aM.of (dp _ _ f9),e4 dJ,_,_,_,_,rfl,.str _,pD K,_,rfl,eB ?_⟩
    by_cases hw:ww="done"
    ·refine⟨_,rfl,_,rfl,b_,_,_,_,rfl,rfl,aM.of (dp _ _ f9),e4 dJ,rfl,_,rfl,en (by rw[hw]) ?_⟩
     refine⟨_,rfl,c,_,_,_,rfl,rfl,aO.of ai,rfl,rfl,_,rfl,bC (by decide +kernel) ?_⟩
     refine⟨_,rfl,c,_,_,_,rfl,rfl,aO.of ai,rfl,rfl,_,rfl,bC (by decide +kernel) ?_⟩
     refine⟨_,rfl,c,_,_,_,rfl,rfl,aO.of ai,rfl,rfl,_,rfl,bC (by decide +kernel) ?_⟩
     refine⟨_,rfl,c,_,_,_,rfl,rfl,aO.of ai,rfl,rfl,_,rfl,bC (by decide +kernel) ?_⟩
     exact fin k fL dO _ _ fP dp fq (by rw[ei];rfl)
    ·refine⟨_,rfl,_,rfl,b_,_,_,_,rfl,rfl,aM.of (dp _ _ f9),e4 dJ,rfl,_,rfl,bC (fun z=>hw (by cases z;rfl)) ?_⟩
     exact fin k fL dO _ _ fP dp fq (by rw[ei];exact rfl)
  | carry p =>
   obtain⟨c,c3,di,rfl,ai,bE,b4⟩:=gj bX
   cases bE.str_inv
   cases b4.int_inv
   refine⟨_,rfl,c,_,_,_,rfl,rfl,aO.of ai,rfl,rfl,_,rfl,bC (by decide +kernel) ?_⟩
   cases ei:(x.a5 (.carry p)).2 with
   | num gO =>
    have dJ:(((b9 ps room).says aA).map cY.v)[i]?=some (V.int gO):=by rw[dJ,ei];rfl
    refine⟨_,rfl,_,rfl,b_,_,_,_,rfl,rfl,aM.of (dp _ _ f9),e4 dJ,_,_,_,_,rfl,.int _,qI K,_,rfl,dQ ?_⟩
    exact fin k fL dO _ _ fP dp fq (by rw[ei];rfl)
   | word ww =>
    have dJ:(((b9 ps room).says aA).map cY.v)[i]?=some (V.str ww):=by rw[dJ,ei];rfl
    refine⟨_,rfl,_,rfl,b_,_,_,_,rfl,rfl,aM.of (dp _ _ f9),e4 dJ,_,_,_,_,rfl,.str _,pD K,_,rfl,eB ?_⟩
    by_cases hw:ww="done"
    ·refine⟨_,rfl,_,rfl,b_,_,_,_,rfl,rfl,aM.of (dp _ _ f9),e4 dJ,rfl,_,rfl,en (by rw[hw]) ?_⟩
     refine⟨_,rfl,c,_,_,_,rfl,rfl,aO.of ai,rfl,rfl,_,rfl,bC (by decide +kernel) ?_⟩
     refine⟨_,rfl,c,_,_,_,rfl,rfl,aO.of ai,rfl,rfl,_,rfl,bC (by decide +kernel) ?_⟩
     refine⟨_,rfl,c,_,_,_,rfl,rfl,aO.of ai,rfl,rfl,_,rfl,bC (by decide +kernel) ?_⟩
     refine⟨_,rfl,c,_,_,_,rfl,rfl,aO.of ai,rfl,rfl,_,rfl,bC (by decide +kernel) ?_⟩
     exact fin k fL dO _ _ fP dp fq (by rw[ei];rfl)
    ·refine⟨_,rfl,_,rfl,b_,_,_,_,rfl,rfl,aM.of (dp _ _ f9),e4 dJ,rfl,_,rfl,bC (fun z=>hw (by cases z;rfl)) ?_⟩
     exact fin k fL dO _ _ fP dp fq (by rw[ei];exact rfl)
  | cut =>
   obtain⟨c,c3,rfl,ai,bE⟩:=qM bX
   cases bE.str_inv
   refine⟨_,rfl,c,_,_,_,rfl,rfl,aO.of ai,rfl,rfl,_,rfl,bC (by decide +kernel) ?_⟩
   cases ei:(x.a5 (.cut)).2 with
   | num gO =>
    have dJ:(((b9 ps room).says aA).map cY.v)[i]?=some (V.int gO):=by rw[dJ,ei];rfl
    refine⟨_,rfl,_,rfl,b_,_,_,_,rfl,rfl,aM.of (dp _ _ f9),e4 dJ,_,_,_,_,rfl,.int _,qI K,_,rfl,dQ ?_⟩
    exact fin k fL dO _ _ fP dp fq (by rw[ei];rfl)
   | word ww =>
    have dJ:(((b9 ps room).says aA).map cY.v)[i]?=some (V.str ww):=by rw[dJ,ei];rfl
    refine⟨_,rfl,_,rfl,b_,_,_,_,rfl,rfl,aM.of (dp _ _ f9),e4 dJ,_,_,_,_,rfl,.str _,pD K,_,rfl,eB ?_⟩
    by_cases hw:ww="done"
    ·refine⟨_,rfl,_,rfl,b_,_,_,_,rfl,rfl,aM.of (dp _ _ f9),e4 dJ,rfl,_,rfl,en (by rw[hw]) ?_⟩
     refine⟨_,rfl,c,_,_,_,rfl,rfl,aO.of ai,rfl,rfl,_,rfl,bC (by decide +kernel) ?_⟩
     refine⟨_,rfl,c,_,_,_,rfl,rfl,aO.of ai,rfl,rfl,_,rfl,bC (by decide +kernel) ?_⟩
     refine⟨_,rfl,c,_,_,_,rfl,rfl,aO.of ai,rfl,rfl,_,rfl,bC (by decide +kernel) ?_⟩
     refine⟨_,rfl,c,_,_,_,rfl,rfl,aO.of ai,rfl,rfl,_,rfl,bC (by decide +kernel) ?_⟩
     exact fin k fL dO _ _ fP dp fq (by rw[ei];rfl)
    ·refine⟨_,rfl,_,rfl,b_,_,_,_,rfl,rfl,aM.of (dp _ _ f9),e4 dJ,rfl,_,rfl,bC (fun z=>hw (by cases z;rfl)) ?_⟩
     exact fin k fL dO _ _ fP dp fq (by rw[ei];exact rfl)
 ·rintro σ dr ⟨k,fL,made,eg,hj,gL,hc,rfl,yZ,kq,fq,hm,aQ,vF,KK⟩
  have vz:((us.length:Int)).toNat=aA.length:=by omega
  refine⟨_,rfl,q bw dr kq ?_⟩
  rw[aQ,vz,drop_length]
  exact yZ.hd
def KU:dn:=fun vs H Q _=>∃h:Int,vs=[.int h]∧∀(c:Int) (af:ao),1≤c→c≤40→bx H af→Q (.int c) af
def z1 (K:PySem.W.Frag):dn:=fun vs H Q _=>∃(a:Addr) (ns:List Int),vs=[.ref a]∧aM K H a (ns.map V.int)∧ns.length≤63∧∀af,Q (.b0 true) af
theorem VV:dP oM oM (cR DD):=d2
theorem Vo (F:bU K "_law_count_by" "_law_count_by" DD f fd) (B:ff mg):bp P w K mg base bW 1 f fd oM KU:=by
 refine F.ok VV (fun vs H Q E h=>?_) (fun cz A outer s H vs Q E aE h=>?_)
 ·obtain⟨h,rfl,_⟩:=h
  rfl
 obtain⟨z,rfl,q⟩:=h
 refine⟨_,(bl (dH (bK fa (fx (au (c0 gI aZ (c0 iZ (ah 0) aZ)) (au (c0 gI aZ (c0 iZ (c0 ug (ah 0) aZ) aZ)) aN))) (jd JS rfl B.int AB (au (uf el (c0 iZ (c0 ug (ah 0) aZ) aZ) aZ (cP _)) aN)) (fun _ _=>rfl)))),?_⟩
 refine⟨_,rfl,_,_,rfl,rfl,(by decide:(0:Int)<5),_,_,rfl,rfl,_,rfl,_,_,rfl,rfl,⟨by decide,by decide⟩,_,_,rfl,rfl,(by decide:(0:Int)<29),_,_,rfl,rfl,c8,fun t bF=>?_⟩
 refine⟨_,rfl,_,_,rfl,rfl,⟨by decide,by decide⟩,_,_,rfl,rfl,(by decide:(0:Int)<8),rfl,.inr ⟨_,rfl,Ly aV ?_ ?_ _⟩⟩
 ·exact q (1+z % 5) _ (by omega) (by omega) (bV bF _)
 ·exact q (12+z / 200 % 29) _ (by omega) (by omega) (bV bF _)
theorem jg:dP Nc Ae (cR wN):=d2
theorem W2 {oh jS jQ h2 fW tD Hz vu tE jR oe:Addr}{rN lU lS iT gG yM bR yO yQ lT gS:FuncData}(F:bU K "law" "law" wN f fd) (B:ff mg) (Y3:mg "min"=none)
  (pz:bp P w K mg base bW 1 oh rN sD (Eo K)) (pg:Binds K rN sD []) (o9:keepIn K (.ref oh)=true) (d7:mg "_law_at"=some (.ref oh))
  (qC:bp P w K mg base bW 1 jS lU oM KU) (qx:Binds K lU oM []) (yE:keepIn K (.ref jS)=true) (ql:mg "_law_count_by"=some (.ref jS))
  (px:bp P w K mg base bW 1 jQ lS oM LD) (pe:Binds K lS oM []) (vr:keepIn K (.ref jQ)=true) (mw:mg "_law_room_of"=some (.ref jQ))
  (mE:bp P w K mg base bW 1 h2 iT wU KP) (mC:Binds K iT wU []) (yC:keepIn K (.ref h2)=true) (kk:mg "_law_pages_of"=some (.ref h2))
  (hI:bp P w K mg base bW 3 fW gG Ag (LJ K)) (hH:Binds K gG Ag []) (nx:keepIn K (.ref fW)=true) (g0:mg "_law_days_of"=some (.ref fW))
  (HW:bp P w K mg base bW 11 tD yM Ah KY) (HG:Binds K yM Ah []) (Hp:keepIn K (.ref tD)=true) (Hg:mg "after_days"=some (.ref tD))
  (HY:bp P w K mg base bW 2 Hz bR Au KW) (HK:Binds K bR Au []) (Hr:keepIn K (.ref Hz)=true) (Hj:mg "_law_alike"=some (.ref Hz))
  (BP:bp P w K mg base bW 1 vu yO Am KQ) (BH:Binds K yO Am []) (acy:keepIn K (.ref vu)=true) (BB:mg "_law_house_of"=some (.ref vu))
  (GE:bp P w K mg base bW 5 tE yQ q9 IW) (HL:Binds K yQ q9 []) (Hs:keepIn K (.ref tE)=true) (Hl:mg "_law_answered"=some (.ref tE))
  (qB:bp P w K mg base bW 1 jR lT wQ Ib) (qw:Binds K lT wQ []) (yD:keepIn K (.ref jR)=true) (mN:mg "_law_stroke_count"=some (.ref jR))
  (GT:bp P w K mg base bW 2 oe gS Af LH) (yS:Binds K gS Af []) (yz:keepIn K (.ref oe)=true) (rE:mg "_law_kept_by"=some (.ref oe)) :
  bp P w K mg base bW 12 f fd Ae (z1 K):=by
 refine F.ok jg (fun vs H Q E h=>?_) (fun cz A outer s H vs Q E aE h=>?_)
 ·obtain⟨a,ns,rfl,_⟩:=h
  rfl
 obtain⟨a,ns,rfl,hY,P7,q⟩:=h
 have bq:=ht aE
 obtain⟨ZH,F9,xg⟩:∃t,hR (f7 bW P w K mg base Nc "law" (cR wN) f cz A outer s H E).mZ ((iY wN).drop 10) t∧∀(bP dy kl:Addr) (bad:List Addr) (eU:List Int) (ds:List Day) (vd s7:List V) (room:Int) (cc b7 e3 ed:Option V) (dG:ao),dG bP=some (.lst (eU.map V.int))→1≤eU.length→eU.length≤100→0≤room→dG dy=some (.lst vd)→iJ dG bad ds vd→ds.length≤100→(∀d∈ds,qW d)→dG kl=some (.lst s7)→s7.length=ds.length→(∀(i:Nat) (v:V),s7[i]?=some v→∃b,v=.ref b∧dG b=some (.lst ((mQ room eU ds (i+1)).map V.int))) →
   t { dk:=fun _ av=>Q .cS av,n_:=Q } [some (.ref a),cc,b7,some (.int room),some (.ref bP),some (.ref dy),e3,ed,some (.ref kl),none,none,none,none,none,none,none,none] dG:=by
  refine⟨_,(bg (cJ (i:=9) jg.a3 rfl (Or.inl rfl) (jd ow rfl B.lst ji (au (ah 4) aN))) (bg (hM PassesOwn.never rfl (pF rfl B.i2 (au (es gU rfl B.len PySem.boot_len (au (ah 5) aN)) aN)) (fQ (i:=10) jg.a3 rfl (Or.inl rfl)) (bg (cJ (i:=11) jg.a3 rfl (Or.inl rfl) (bK cC (bK fa (ah 5) (ah 10) (fun _ _=>rfl)) aZ (fun _ _=>rfl))) (bg (cJ (i:=12) jg.a3 rfl (Or.inl rfl) (dE BP (cj aE) rfl BB acy BH .nil cU (au (ah 9) (au (ah 3) aN)))) (bg (cJ (i:=13) jg.a3 rfl (Or.inl rfl) (fx aN)) (bg (cJ (i:=14) jg.a3 rfl (Or.inl rfl) (fx aN)) (bg (hM PassesOwn.never rfl (jf (ah 11)) (fQ (i:=15) jg.a3 rfl (Or.inl rfl)) (bg (mO bq (ah 12) bJ (fx aN) rfl) (bg (dD (ia plainAttrs_list PySem.F.slot_list_append PySem.F.type_list_append h_ (ah 13) (au (dE GE (cj aE) rfl Hl Hs HL .nil cU (au (ah 12) (au (ah 15) aN))) aN))) (bl (dD (ia plainAttrs_list PySem.F.slot_list_append PySem.F.type_list_append h_ (ah 14) (au (e1 bq (ah 12) bJ (fun _ _=>rfl)) aN))))))) (bg (cJ (i:=16) jg.a3 rfl (Or.inl rfl) (es (UJ rfl) rfl Y3 Zr (au (bK cC (bK fa (ah 5) (ah 10) (fun _ _=>rfl)) aZ (fun _ _=>rfl)) (au (dE qB (cj aE) rfl mN yD qw .nil cU (au (ah 14) aN)) aN)))) (bg (cJ (i:=9) jg.a3 rfl (Or.inl rfl) (dE GT (cj aE) rfl rE yz yS .nil cU (au (ah 9) (au (ah 11) (au (ah 13) (au (ah 14) (au (ah 16) aN))))))) (bl (c_ (pO (jZ (dE HY (cj aE) rfl Hj Hr HK .nil cU (au (bK fa (ah 8) (ah 10) (fun _ _=>rfl)) (au (ah 9) aN))))) (bl (dH lp)) dZ)))))))))) (bl (dH lp)))),?_⟩
  intro E0 dy kl bad eU ds vd s7 room cc b7 e3 ed dG aaI bu aW gN u2 jY qg fd aa0 Fy acV
  have adX:=jY.1
  refine⟨_,rfl,E0,_,rfl,.inl (aM.of aaI),fun A1 Zg=>?_⟩
  have s0:=bV Zg (.lst (eU.map V.int))
  have e0:(upd dG A1 (.lst (eU.map V.int))) A1=some (.lst (eU.map V.int)):=aV
  generalize upd dG A1 (.lst (eU.map V.int))=ae1 at s0 e0 ⊢
  refine⟨_,rfl,dy,vd,rfl,.inl (aM.of (s0 _ _ u2)),_,rfl,by omega,by omega,rY (fun i σ H1=>∃(bP:Addr) (gL hc hb gq iM hQ E1:Option V),σ=[some (.ref a),cc,b7,some (.int room),some (.ref E0),some (.ref dy),e3,ed,some (.ref kl),some (.ref bP),gL,hc,hb,gq,iM,hQ,E1]∧bx dG H1∧H1 bP=some (.lst ((mQ room eU ds i).map V.int)))
   ⟨A1,none,none,none,none,none,none,none,rfl,s0,e0⟩ ?_ ?_⟩
  ·rintro ii σ H1 ad6 ⟨bP,gL,hc,hb,gq,iM,hQ,E1,rfl,jz,lC⟩
   have abr:(0:Int)+(ii:Int)=((ii:Nat):Int):=by omega
   rw[abr]
   have Bb:ii<vd.length:=by omega
   obtain⟨v0,FG⟩:∃v,vd[ii]?=some v:=⟨_,getElem?_eq_getElem Bb⟩
   obtain⟨d,PY,t,dl,aC,us,rfl,_,_,PK,Zm,YL,_⟩:=jY.get FG
   obtain⟨n6,vl⟩:=fd d (mem_of_getElem? PY)
   obtain⟨v1,PJ⟩:∃v,s7[ii]?=some v:=⟨_,getElem?_eq_getElem (by omega)⟩
   obtain⟨qv,rfl,F0⟩:=acV ii v1 PJ
   have u9:=Ij (room:=room) (ps:=eU) PY
   have Fq:=IG gN eU ds ii
   rw[u9]at F0
   rw[u9]
   generalize mQ room eU ds ii=ps at lC Fq F0
   have fi:1≤ps.length:=by omega
   have eK:ps.length≤100:=by omega
   obtain⟨aA,stop,aJ⟩:=d
   have n6:aA.length≤63:=n6
   have l8:=jz _ _ Zm
   have sN:a9 H1 (aA.map bZ.D) us:=a9.mono jz _ _ YL
   have oN:us.length=aA.length:=by rw[a9.length sN,length_map]
   refine⟨_,rfl,_,rfl,dy,_,_,_,rfl,rfl,aM.of (jz _ _ u2),e4 FG,t,_,_,_,rfl,rfl,aO.of (jz _ _ PK),rfl,?_⟩
   refine⟨_,rfl,_,rfl,bP,ps,room,rfl,lC,fun h ce ak lo pu st av s2 bA fr=>?_⟩
   refine⟨c8,fun b_ Ax=>?_⟩
   have s3:=bV Ax (.lst [])
   have bH:(upd av b_ (.lst [])) b_=some (.lst []):=aV
   have ZV:∀b,b∈own h ce ak pu st []→b≠b_:=fun b aa z=>bA.there Ax (by rw[←z];exact aa)
   have YX:lo≠b_:=by
    obtain⟨xs,da,_⟩:=bA.aC
    exact ct da Ax
   have ZD:H1 b_=none:=s2.free Ax
   have cn:=bA.same s3
   generalize upd av b_ (.lst [])=aS at s3 bH cn ⊢
   refine⟨c8,fun gf xS=>?_⟩
   have s4:=bV xS (.lst [])
   have bS:(upd aS gf (.lst [])) gf=some (.lst []):=aV
   have Z3:∀b,b∈own h ce ak pu st []→b≠gf:=fun b aa z=>cn.there xS (by rw[←z];exact aa)
   have YY:lo≠gf:=by
    obtain⟨xs,da,_⟩:=cn.aC
    exact ct da xS
   have abv:H1 gf=none:=(s2.trans s3).free xS
   have N4:b_≠gf:=ct bH xS
   have dX:=cn.same s4
   have ho:=s2.trans (s3.trans s4)
   have o3:=s4 _ _ bH
   generalize upd aS gf (.lst [])=cB at s4 bS dX ho o3 ⊢
   refine⟨_,rfl,dl,rfl,⟨us,aM.of (ho _ _ l8)⟩,mL (K:=K) (a:=dl) (xs:=us) (fun i σ cB=>∃(lo st:Addr) (pl:List (Int × Addr)) (xs:List V) (fj:Option V),σ=[some (.ref a),cc,b7,some (.int room),some (.ref E0),some (.ref dy),e3,ed,some (.ref kl),some (.ref bP),some (.int ((ii:Nat):Int)),some (.ref dl),some (.ref h),some (.ref b_),some (.ref gf),fj,E1]∧br cB h ce ak lo pu st pl ((b9 ps room).hv (aA.take i))∧bx H1 cB∧(∀b,b∈own h ce ak pu st pl→H1 b=none∧b≠gf∧b≠b_)∧lo≠gf∧lo≠b_∧cB gf=some (.lst xs)∧cB b_=some (.lst (((b9 ps room).says (aA.take i)).map cY.v))∧iy cB (b_::gf::pV h ce ak pu pl) ((b9 ps room).rows (aA.take i)) xs∧i≤aA.length)
    ⟨lo,st,[],[],hQ,rfl,dX,ho,fun b aa=>⟨fr b aa,Z3 b aa,ZV b aa⟩,YY,YX,bS,o3,.nil,zero_le _⟩ (fun i σ cB _ ⟨_,_,_,_,_,_,_,ho,_⟩=>aM.of (ho _ _ l8)) ?_ ?_⟩
   ·rintro i v σ cB aX ⟨m4,p3,l5,xs,fj,rfl,dX,ho,rm,kK,N6,bS,o3,qz,aP⟩
    have iQ:i<us.length:=(List.getElem?_eq_some_iff.mp aX).1
    obtain⟨e,he,re⟩:=qL sN aX
    have bF:aA.take (i+1)=aA.take i++[e]:=by rw[take_add_one,he];rfl
    have lt:(aA.take i).length=i:=by rw[length_take];omega
    have jw:=(zG (room:=room) fi eK).hv (aA.take i) (by omega)
    rw[lt,zero_add]at jw
    have ON:xs.length=i:=by rw[←qz.1,zb,lt]
    have adU:(((b9 ps room).says (aA.take i)).map cY.v).length=i:=by rw[length_map,ID,lt]
    refine⟨c8,fun u hF=>?_⟩
    have s5:=bV hF (.lst [])
    have ek:(upd cB u (.lst [])) u=some (.lst []):=aV
    generalize upd cB u (.lst [])=dr at s5 ek ⊢
    have gi:=dX.same s5
    have mu:u∉own h ce ak pu p3 l5:=dX.there hF
    have nul:u≠m4:=by
     obtain⟨xs,da,_⟩:=dX.aC
     exact (ct da hF).symm
    refine⟨_,rfl,h,_,rfl,gi.Va _,?_⟩
    have tX:=gi.Yx ek mu nul
    have M7:u≠gf:=(ct bS hF).symm
    have M6:u≠b_:=(ct o3 hF).symm
    have aaP:gf≠h:=fun z=>(rm h (br.o7 ..)).2.1 z.symm
    have aaN:b_≠h:=fun z=>(rm h (br.o7 ..)).2.2 z.symm
    have h0:H1 h=none:=(rm h (br.o7 ..)).1
    have A0:d1 cB (upd dr h (.bR (putK (aQ ce ak m4 pu p3 ((b9 ps room).hv (aA.take i)).room ((b9 ps room).hv (aA.take i)).begun) (Sum.inr "strokes") (.ref u)))):=fun b ys q=>by
     rw[aB (dt (s5 _ _ q) gi.c5 (fun z=>nomatch z))]
     exact s5 _ _ q
    have xm:∀b o,b≠h→cB b=some o→(upd dr h (.bR (putK (aQ ce ak m4 pu p3 ((b9 ps room).hv (aA.take i)).room ((b9 ps room).hv (aA.take i)).begun) (Sum.inr "strokes") (.ref u)))) b=some o:=fun b o aa e=>by
     rw[aB aa]
     exact s5 _ _ e
    generalize upd dr h (.bR (putK (aQ ce ak m4 pu p3 ((b9 ps room).hv (aA.take i)).room ((b9 ps room).hv (aA.take i)).begun) (Sum.inr "strokes") (.ref u)))=dO at tX A0 xm ⊢
    have dp:bx H1 dO:=fun b o e=>xm b o (fun z=>by rw[z,h0]at e;cases e) (ho b o e)
    have hl:=xm gf _ aaP bS
    have vj:=xm b_ _ aaN o3
    have fq:∀b,b∈own h ce ak pu u l5→H1 b=none∧b≠gf∧b≠b_:=fun b aa=>by
     rcases Ug (st:=p3) aa with z | z
     ·rw[z];exact⟨ho.free hF,M7,M6⟩
     ·exact rm b z
    have HO:iy dO (b_::gf::own h ce ak pu u l5) ((b9 ps room).rows (aA.take i)) xs:=qz.move (fun b o aa e=>xm b o (fun z=>aa (mem_cons_of_mem _ (mem_cons_of_mem _ (by rw[z];exact mem_cons_self)))) e) A0 fun b aa=>by
     rcases mem_cons.mp aa with z | z
     ·exact .inl (by rw[z];exact mem_cons_self)
     rcases mem_cons.mp z with z | z
     ·exact .inl (by rw[z];exact mem_cons_of_mem _ mem_cons_self)
     ·rcases Vc z with y | y
      ·exact .inr (by rw[y];exact hF)
      ·exact .inl (mem_cons_of_mem _ (mem_cons_of_mem _ y))
    refine⟨_,rfl,.inl ⟨rfl,_,aM.of vj⟩,_,rfl,_,rfl,h,ce,ak,m4,pu,u,l5,_,v,e,i,rfl,tX,Rep.mono dp _ _ re,jw.bare,by omega,fun Fv uV dR adn ed gQ=>?_⟩
    have wW:gf∉own h ce ak pu u l5:=fun z=>(fq gf z).2.1 rfl
    have Y0:b_∉own h ce ak pu u l5:=fun z=>(fq b_ z).2.2 rfl
    have jy:=ed.1 gf _ wW hl
    have vh:=ed.1 b_ _ Y0 vj
    have yX:bx H1 dR:=fun b o e=>ed.1 b o (fun z=>by rw[(fq b z).1]at e;cases e) (dp b o e)
    have F4:∀b,b∈own h ce ak pu u uV→H1 b=none∧b≠gf∧b≠b_:=fun b aa=>by
     rcases gQ b aa with z | z
     ·exact fq b z
     ·exact⟨dp.free z,(fun y=>by rw[y,hl]at z;cases z),(fun y=>by rw[y,vj]at z;cases z)⟩
    have lz:Fv≠gf:=by
     rcases ed.2 with z | z | z
     ·rw[z];exact kK
     ·exact (fq _ z).2.1
     ·exact fun y=>by rw[y,hl]at z;cases z
    have N5:Fv≠b_:=by
     rcases ed.2 with z | z | z
     ·rw[z];exact N6
     ·exact (fq _ z).2.2
     ·exact fun y=>by rw[y,vj]at z;cases z
    have E7:gf∉own h ce ak pu u uV:=fun z=>(F4 gf z).2.1 rfl
    have AQ:b_∉own h ce ak pu u uV:=fun z=>(F4 b_ z).2.2 rfl
    have acY:iy dR (b_::gf::pV h ce ak pu uV) ((b9 ps room).rows (aA.take i)) xs:=HO.move (fun b o aa e=>ed.1 b o (fun z=>aa (mem_cons_of_mem _ (mem_cons_of_mem _ z))) e) (tX.fy ed.1) fun b aa=>by
     rcases mem_cons.mp aa with z | z
     ·exact .inl (by rw[z];exact mem_cons_self)
     rcases mem_cons.mp z with z | z
     ·exact .inl (by rw[z];exact mem_cons_of_mem _ mem_cons_self)
     ·rcases gQ b (Vd z) with y | y
      ·exact .inl (mem_cons_of_mem _ (mem_cons_of_mem _ y))
      ·exact .inr y
    refine⟨b_,_,_,rfl,rfl,vh,mR (by omega),?_⟩
    have PC:d1 dR (upd dR b_ (.lst ((((b9 ps room).says (aA.take i)).map cY.v)++[(((b9 ps room).hv (aA.take i)).bare.a5 e).2.v]))):=fun b ys e=>by
     rw[aB (dt e vh (fun z=>nomatch z))]
     exact e
    have y3:=adn.zx AQ N5.symm vh (o:=.lst ((((b9 ps room).says (aA.take i)).map cY.v)++[(((b9 ps room).hv (aA.take i)).bare.a5 e).2.v]))
    have tO:bx H1 (upd dR b_ (.lst ((((b9 ps room).says (aA.take i)).map cY.v)++[(((b9 ps room).hv (aA.take i)).bare.a5 e).2.v]))):=yX.hr ZD
    have Ss:iy (upd dR b_ (.lst ((((b9 ps room).says (aA.take i)).map cY.v)++[(((b9 ps room).hv (aA.take i)).bare.a5 e).2.v]))) (b_::gf::pV h ce ak pu uV) ((b9 ps room).rows (aA.take i)) xs:=acY.move (fun b o aa e=>by
     rw[aB (fun z=>aa (by rw[z];exact mem_cons_self))]
     exact e) PC fun b aa=>.inl aa
    have lQ:(upd dR b_ (.lst ((((b9 ps room).says (aA.take i)).map cY.v)++[(((b9 ps room).hv (aA.take i)).bare.a5 e).2.v]))) gf=some (.lst xs):=by rw[aB N4.symm];exact jy
    have RT:(upd dR b_ (.lst ((((b9 ps room).says (aA.take i)).map cY.v)++[(((b9 ps room).hv (aA.take i)).bare.a5 e).2.v]))) b_=some (.lst (((b9 ps room).says (aA.take (i+1))).map cY.v)):=by
     rw[aV,bF,Jq,map_append,T_]
     rfl
    generalize upd dR b_ (.lst ((((b9 ps room).says (aA.take i)).map cY.v)++[(((b9 ps room).hv (aA.take i)).bare.a5 e).2.v]))=gT at y3 tO Ss lQ RT PC ⊢
    obtain⟨Zx,g1,g2⟩:=y3.dg
    have g2:a9 gT ((((b9 ps room).run (aA.take i)).row e).map a4.D) Zx:=by
     rw[←UX]
     exact g2
    have aam:d1 gT (upd gT gf (.lst (xs++[.ref u]))):=fun b ys e=>by
     rw[aB (dt e lQ (fun z=>nomatch z))]
     exact e
    refine⟨_,rfl,.inl ⟨rfl,_,aM.of lQ⟩,_,rfl,h,_,rfl,y3.Kp,gf,xs,_,rfl,rfl,lQ,mR (by omega),Fv,u,uV,xs++[.ref u],_,rfl,?_,tO.hr abv,F4,lz,N5,aV,by rw[aB N4];exact RT,?_,by omega⟩
    ·rw[bF,Jr]
     exact y3.zx E7 lz.symm lQ
    ·rw[bF,Cq]
     refine (Ss.snoc (fun z=>?_) g1 g2).move (fun b o aa e=>?_) aam fun b aa=>.inl aa
     ·rcases mem_cons.mp z with y | y
      ·exact M6 y
      rcases mem_cons.mp y with y | y
      ·exact M7 y
      ·exact y3.VS y
     ·rw[aB (fun z=>aa (by rw[z];exact mem_cons_of_mem _ mem_cons_self))]
      exact e
   ·rintro σ cB ⟨m4,p3,l5,xs,fj,rfl,dX,ho,rm,kK,N6,bS,o3,qz,_⟩
    rw[oN,take_length]at qz o3
    have Ro:=jz.trans ho
    have ae0:=qz
    refine⟨_,rfl,_,rfl,dy,_,_,_,rfl,rfl,aM.of (Ro _ _ u2),e4 FG,t,_,_,_,rfl,rfl,aO.of (Ro _ _ PK),rfl,_,rfl,gf,_,_,xs,rfl,bS,qz,by rw[zb];omega,fun dr s5=>⟨_,_,rfl,?_⟩⟩
    have emin:(if (((gV room ps aA).length:Nat):Int)<((stop:Nat):Int) then (((gV room ps aA).length:Nat):Int) else ((stop:Nat):Int))=((min stop (gV room ps aA).length:Nat):Int):=by
     split <;> omega
    have abq:((b9 ps room).rows aA).flatten=gV room ps aA:=rfl
    rw[abq]
    rw[show (if (((gV room ps aA).length:Nat):Int)<(((Day.mk aA stop aJ).stop:Nat):Int) then (((gV room ps aA).length:Nat):Int) else (((Day.mk aA stop aJ).stop:Nat):Int))=((min stop (gV room ps aA).length:Nat):Int) from emin]
    have Bk:=ho.trans s5
    refine⟨_,rfl,_,rfl,_,rfl,_,rfl,_,rfl,bP,dl,b_,gf,_,ps,room,us,xs,aA,min stop (gV room ps aA).length,rfl,Bk _ _ lC,Bk _ _ l8,a9.mono Bk _ _ sN,s5 _ _ o3,s5 _ _ bS,qz.same s5,n6,fi,eK,gN,fun nv dO nh hl=>?_⟩
    have Gr:=jz.trans (Bk.trans nh)
    have hl:dO nv=some (.lst ((r6 room ps ⟨aA,stop,aJ⟩).map V.int)):=hl
    obtain⟨jT,vm,RM⟩:=Ju dO (r6 room ps ⟨aA,stop,aJ⟩)
    have lk:=B7 gN ps ⟨aA,stop,aJ⟩
    refine⟨_,rfl,_,rfl,kl,_,_,_,rfl,rfl,aM.of (Gr _ _ aa0),e4 PJ,_,rfl,_,_,.lst jT,rfl,.qS (Gr _ _ F0) vm,.qS hl vm,by rw[uu];omega,fun dR fz=>⟨_,rfl,dQ ?_⟩⟩
    exact⟨nv,_,_,_,_,_,_,_,rfl,Gr.trans fz,fz _ _ hl⟩
  ·rintro σ H1 _
   exact q H1
 refine⟨_,(bg (cJ (i:=1) jg.a3 rfl (Or.inl rfl) (dE pz (cj aE) rfl d7 o9 pg .nil cU (au (ah 0) (au aZ aN)))) (bg (cJ (i:=2) jg.a3 rfl (Or.inl rfl) (dE qC (cj aE) rfl ql yE qx .nil cU (au (ah 1) aN))) (bg (cJ (i:=3) jg.a3 rfl (Or.inl rfl) (dE px (cj aE) rfl mw vr pe .nil cU (au (ah 1) aN))) (bg (cJ (i:=4) jg.a3 rfl (Or.inl rfl) (dE mE (cj aE) rfl kk yC mC .nil cU (au (dE pz (cj aE) rfl d7 o9 pg .nil cU (au (ah 0) (au aZ aN))) (au (ah 2) aN)))) (bg (cJ (i:=5) jg.a3 rfl (Or.inl rfl) (dE hI (cj aE) rfl g0 nx hH .nil cU (au (ah 0) (au (ah 2) aN)))) (bg (cJ (i:=6) jg.a3 rfl (Or.inl rfl) (jd ow rfl B.lst ji (au (ah 4) aN))) (bg (K_ (i:=7) [] ["_law_day"] jg.a3 rfl rfl (ic.zero rfl (by decide +kernel) (by decide +kernel) rfl (by decide +kernel) rfl) rfl (jf (ah 5)) (fun C s1 H1 bG=>(gH (au (jd (Ig (K:=K) rfl) rfl B.lst ji (au (bK (wd (K:=K) rfl) (ah 0) aZ (fun _ _=>rfl)) aN)) (au (bK (wd (K:=K) rfl) (ah 0) aZ (fun _ _=>rfl)) (au (jd (Ig (K:=K) rfl) rfl B.lst ji (au (bK (wd (K:=K) rfl) (ah 0) aZ (fun _ _=>rfl)) aN)) aN)))))) (bg (cJ (i:=8) jg.a3 rfl (Or.inl rfl) (dE HW (cj aE) rfl Hg Hp HG .nil cU (au (ah 6) (au (ah 3) (au (ah 7) aN))))) (bg (c_ (mS (pO (jZ (dE HY (cj aE) rfl Hj Hr HK .nil cU (au (ah 6) (au (ah 4) aN))))) (pO (jZ (dE HY (cj aE) rfl Hj Hr HK .nil cU (au (ah 7) (au (ah 5) aN)))))) (bl (dH lp)) dZ) (bg (c_ (mS (pO (jZ (es mM rfl B.l7 l3 (au (ah 8) (au (lg (v:=.ty "list") rfl B.lst ji rfl) aN))))) (cX kD (es gU rfl B.len PySem.boot_len (au (ah 8) aN)) (es gU rfl B.len PySem.boot_len (au (ah 5) aN)) (cP _))) (bl (dH lp)) dZ) F9)))))))))),?_⟩
 refine⟨_,rfl,a,ns,0,rfl,hY,by decide,fun hd=>?_⟩
 refine⟨_,rfl,hd,rfl,fun c H1 rl cI s1=>?_⟩
 refine⟨_,rfl,hd,rfl,fun room av gN s2=>?_⟩
 have fu:=s1.trans s2
 refine⟨_,rfl,a,ns,1,rfl,fu.seq hY,by decide,fun cell=>⟨_,rfl,cell,c,rfl,rl,by omega,fun bP ps aS s3 gc bH kX=>?_⟩⟩
 have eZ:=fu.trans s3
 refine⟨_,rfl,_,rfl,a,ns,c,rfl,eZ.seq hY,P7,rl,cI,fun dy bad us ds cB s4 bS jY qg fd=>?_⟩
 have oN:=jY.1
 refine⟨_,rfl,bP,_,rfl,.inl (aM.of (s4 _ _ bH)),fun eY P5=>?_⟩
 have s5:=bV P5 (.lst (ps.map V.int))
 have ek:(upd cB eY (.lst (ps.map V.int))) eY=some (.lst (ps.map V.int)):=aV
 generalize upd cB eY (.lst (ps.map V.int))=dr at s5 ek ⊢
 have ab7:=jY.same s5
 refine⟨_,rfl,dy,rfl,⟨us,aM.of (s5 _ _ bS)⟩,fun acc de=>Ky (K:=K) (xs:=us) (fun i ys dO=>bx dr dO∧dO acc=some (.lst ys)∧iJ dO [acc] (ds.take i) ys∧i≤us.length) (by omega) ⟨bV de _,aV,fc.nil,zero_le _⟩ ?_ ?_ ?_⟩
 ·rintro i ys dO ⟨dp,hl,tV,aP⟩
  exact⟨dp _ _ (s5 _ _ bS),by rw[←tV.1,length_take];omega⟩
 ·rintro i v ys dO k aP aX ⟨dp,hl,tV,_⟩ aQ
  obtain⟨d,aa7,t,dl,aC,vs,rfl,_,_,bF,l8,sN,rf⟩:=ab7.get aX
  refine⟨_,rfl,t,_,_,_,rfl,rfl,aO.of (dp _ _ bF),rfl,dl,vs,rfl,.inl (aM.of (dp _ _ l8)),fun e8 PR=>?_⟩
  have fz:=bV PR (.lst vs)
  have jy:(upd dO e8 (.lst vs)) e8=some (.lst vs):=aV
  have gQ:e8≠acc:=(ct hl PR).symm
  generalize upd dO e8 (.lst vs)=dR at fz jy ⊢
  have yX:=dp.trans fz
  refine⟨_,rfl,t,_,_,_,rfl,rfl,aO.of (yX _ _ bF),rfl,_,rfl,t,_,_,_,rfl,rfl,aO.of (yX _ _ bF),rfl,aC,_,rfl,.inl (aM.of (yX _ _ rf)),fun gu sV=>?_⟩
  have iE:=bV sV (.lst (q7 d.aJ))
  have lQ:(upd dR gu (.lst (q7 d.aJ))) gu=some (.lst (q7 d.aJ)):=aV
  have i5:gu≠acc:=(ct (fz _ _ hl) sV).symm
  generalize upd dR gu (.lst (q7 d.aJ))=gT at iE lQ ⊢
  refine⟨c8,fun d_ p9=>?_⟩
  have tr:=bV p9 (.tup [.ref e8,.int (d.stop:Nat),.ref gu])
  have Sg:(upd gT d_ (.tup [.ref e8,.int (d.stop:Nat),.ref gu])) d_=some (.tup [.ref e8,.int (d.stop:Nat),.ref gu]):=aV
  generalize upd gT d_ (.tup [.ref e8,.int (d.stop:Nat),.ref gu])=vG at tr Sg ⊢
  have Gn:=fz.trans (iE.trans tr)
  have Sq:=dp.trans Gn
  have Sl:=Gn _ _ hl
  have kt:d1 vG (upd vG acc (.lst (ys++[.ref d_]))):=fun b xs e=>by
   rw[aB (dt e Sl (fun z=>nomatch z))]
   exact e
  have et:∀b u,b∉[acc]→vG b=some u→(upd vG acc (.lst (ys++[.ref d_]))) b=some u:=fun b u aa e=>by
   rw[aB (fun z=>aa (by rw[z];exact mem_cons_self))]
   exact e
  have adi:iJ vG [acc] (ds.take (i+1)) (ys++[.ref d_]):=by
   rw[take_add_one,aa7]
   exact fc.snoc (tV.same Gn) ⟨d_,e8,gu,vs,rfl,(fun z=>gQ (mem_singleton.mp z)),(fun z=>i5 (mem_singleton.mp z)),Sg,(iE.trans tr) _ _ jy,a9.mono Sq _ _ sN,tr _ _ lQ⟩
  exact aQ _ _ Sl ⟨Sq.hr de,aV,adi.move et kt fun b aa=>.inl aa,by omega⟩
 rintro ys dO ⟨dp,hl,tV,_⟩
 rw[←oN,take_length]at tV
 have Rl:=s5.trans dp
 refine⟨_,rfl,_,rfl,_,rfl,eY,acc,[acc],ps,room,ys,ds,rfl,dp _ _ ek,by omega,by omega,gN,hl,tV,by omega,fun d hd=>(fd d hd).1,fun kl s7 dR fz jy Fy acU=>?_⟩
 obtain⟨vB,yr,ry⟩:=Ju dR ps
 refine⟨_,rfl,_,rfl,_,_,.lst vB,rfl,.qS (fz _ _ (dp _ _ ek)) yr,.qS ((s4.trans (Rl.trans fz)) _ _ bH) yr,by rw[uu];omega,fun gT iE=>⟨_,rfl,dQ ?_⟩⟩
 have zs:=J4 (n:=63) (m:=2) ds fun d hd=>⟨(fd d hd).1.1,(fd d hd).2⟩
 have Gp:=Rl.trans (fz.trans iE)
 refine⟨_,rfl,_,rfl,_,_,.lst (ds.map Day.D),rfl,.qS ((fz.trans iE) _ _ hl) (tV.same (fz.trans iE)).MV,.qS (Gp _ _ bS) (jY.same Gp).MV,by rw[uu];omega,fun vG tr=>⟨_,rfl,dQ ?_⟩⟩
 have Bh:=iE.trans tr
 have Bj:=Gp.trans tr
 refine⟨_,rfl,_,_,_,_,rfl,.lst (Bh _ _ jy),BX K,_,rfl,dQ ?_⟩
 refine⟨_,rfl,kl,_,rfl,.inl (aM.of (Bh _ _ jy)),_,rfl,dy,_,rfl,.inl (aM.of (Bj _ _ bS)),rfl,_,rfl,pX (by rw[Fy,oN]) ?_⟩
 exact xg bP dy kl bad ps ds us s7 room _ _ _ _ _ ((s4.trans Bj) _ _ bH) (by omega) (by omega) gN (Bj _ _ bS) (jY.same Bj) (by omega) (fun d hd=>(fd d hd).1) (Bh _ _ jy) Fy fun i v aX=>by
  obtain⟨b,e,aa⟩:=acU i v aX
  exact⟨b,e,Bh _ _ aa⟩
end
theorem Xm {K:PySem.W.Frag}{mg:Str→Option Value}{a b c d:Addr}(E:tf K mg a b c d) (tb:exmOne K (.ref a) (.ref a)=some true) (Gg:exmOne K (.ref a) (.ref b)=some false) (ta:exmOne K (.ref a) (.ref c)=some false) (oX:exmOne K (.ref a) (.ref d)=some false)
  (Ra:exmOne K (.ref b) (.ref a)=some false) (vc:exmOne K (.ref b) (.ref b)=some true) (s_:exmOne K (.ref b) (.ref c)=some false) (oW:exmOne K (.ref b) (.ref d)=some false)
  (Q9:exmOne K (.ref c) (.ref a)=some false) (Q8:exmOne K (.ref c) (.ref b)=some false) (x6:exmOne K (.ref c) (.ref c)=some true) (oV:exmOne K (.ref c) (.ref d)=some false)
  (Q7:exmOne K (.ref d) (.ref a)=some false) (Q6:exmOne K (.ref d) (.ref b)=some false) (Q5:exmOne K (.ref d) (.ref c)=some false) (Bf:exmOne K (.ref d) (.ref d)=some true):w6 K mg a b c d:=by
 have ne:∀{x y:Addr},exmOne K (.ref x) (.ref x)=some true→exmOne K (.ref x) (.ref y)=some false→x≠y:=fun aj az z=>by
  subst z
  rw[aj]at az
  cases az
 have t:∀{x:Addr},exmOne K (.ref x) (.ref x)=some true→exmOne K (.ref x) (.ref x)=some (x == x):=fun h=>by rw[h,beq_self_eq_true]
 have f:∀{x y:Addr},x≠y→exmOne K (.ref x) (.ref y)=some false→exmOne K (.ref x) (.ref y)=some (x == y):=fun n h=>by rw[h,beq_eq_false_iff_ne.mpr n]
 refine⟨E,fun p aF q bk=>?_,?_⟩
 ·simp only[mem_cons,not_mem_nil,or_false]at aF bk
  rcases aF with rfl | rfl | rfl | rfl <;> rcases bk with rfl | rfl | rfl | rfl
  ·exact t tb
  ·exact f (ne tb Gg) Gg
  ·exact f (ne tb ta) ta
  ·exact f (ne tb oX) oX
  ·exact f (ne vc Ra) Ra
  ·exact t vc
  ·exact f (ne vc s_) s_
  ·exact f (ne vc oW) oW
  ·exact f (ne x6 Q9) Q9
  ·exact f (ne x6 Q8) Q8
  ·exact t x6
  ·exact f (ne x6 oV) oV
  ·exact f (ne Bf Q7) Q7
  ·exact f (ne Bf Q6) Q6
  ·exact f (ne Bf Q5) Q5
  ·exact t Bf
 ·simp[ne tb Gg,ne tb ta,ne tb oX,ne vc s_,ne vc oW,ne x6 oV]
theorem ma {K:PySem.W.Frag}{x q:Str}{st:Stmt}{f:Addr}{fd:FuncData}{a0:Str}(F:bU K x q st f fd) (h:∀fi eK kh mq kT oc lJ,bindArgs (PySem.W.fnOf x q (pL st) (iY st) (cR st) .none fi eK kh mq kT oc) ⟨[lJ],[]⟩=pure [(a0,lJ)]:=by intros;rfl):Binds K fd [a0] [] :=
 F.binds fun _ _ _ _ _ _ us aC=>match us,aC with | [_],_=>h ..
theorem eF {K:PySem.W.Frag}{x q:Str}{st:Stmt}{f:Addr}{fd:FuncData}{a0 a1:Str}(F:bU K x q st f fd) (h:∀fi eK kh mq kT oc lJ gM,bindArgs (PySem.W.fnOf x q (pL st) (iY st) (cR st) .none fi eK kh mq kT oc) ⟨[lJ,gM],[]⟩=pure [(a0,lJ),(a1,gM)]:=by intros;rfl):Binds K fd [a0,a1] [] :=
 F.binds fun _ _ _ _ _ _ us aC=>match us,aC with | [_,_],_=>h ..
theorem l_ {K:PySem.W.Frag}{x q:Str}{st:Stmt}{f:Addr}{fd:FuncData}{a0 a1 a2:Str}(F:bU K x q st f fd) (h:∀fi eK kh mq kT oc lJ gM gC,bindArgs (PySem.W.fnOf x q (pL st) (iY st) (cR st) .none fi eK kh mq kT oc) ⟨[lJ,gM,gC],[]⟩=pure [(a0,lJ),(a1,gM),(a2,gC)]:=by intros;rfl):Binds K fd [a0,a1,a2] [] :=
 F.binds fun _ _ _ _ _ _ us aC=>match us,aC with | [_,_,_],_=>h ..
theorem td {K:PySem.W.Frag}{x q:Str}{st:Stmt}{f:Addr}{fd:FuncData}{a0 a1 a2 jU:Str}(F:bU K x q st f fd) (h:∀fi eK kh mq kT oc lJ gM gC yp,bindArgs (PySem.W.fnOf x q (pL st) (iY st) (cR st) .none fi eK kh mq kT oc) ⟨[lJ,gM,gC,yp],[]⟩=pure [(a0,lJ),(a1,gM),(a2,gC),(jU,yp)]:=by intros;rfl):Binds K fd [a0,a1,a2,jU] [] :=
 F.binds fun _ _ _ _ _ _ us aC=>match us,aC with | [_,_,_,_],_=>h ..
theorem aby {K:PySem.W.Frag}{x q:Str}{st:Stmt}{f:Addr}{fd:FuncData}{a0 a1 a2 jU pk:Str}(F:bU K x q st f fd) (h:∀fi eK kh mq kT oc lJ gM gC yp RQ,bindArgs (PySem.W.fnOf x q (pL st) (iY st) (cR st) .none fi eK kh mq kT oc) ⟨[lJ,gM,gC,yp,RQ],[]⟩=pure [(a0,lJ),(a1,gM),(a2,gC),(jU,yp),(pk,RQ)]:=by intros;rfl):Binds K fd [a0,a1,a2,jU,pk] [] :=
 F.binds fun _ _ _ _ _ _ us aC=>match us,aC with | [_,_,_,_,_],_=>h ..
theorem all_mk {P:Program}{w:World}{K:PySem.W.Frag}{mg:Str→Option Value}{gw fZ ea jc g7 h4 jb f1 f2 gc f4 hk Sf Se f8 Sd QZ QY QX QW QV QU QT QS QO QN QM QL QK QJ QI QH QG QF QE QD QC QB QA Qz Qy Qx Qw Qv Qu Qt Qs Qq Qp Qo Qn Qm Ql Qk Qj Qi Qh Qg Qf Qe Qd:Addr}(aa2:mg "law"=some (.ref gw))
  (Rj:mg "Cellar"=some (.ref fZ))
  (Ri:mg "House"=some (.ref ea))
  (Rh:mg "NoDealing"=some (.ref jc))
  (Rg:mg "NoPage"=some (.ref g7))
  (Rf:mg "Taken"=some (.ref h4))
  (Rd:mg "NoRoom"=some (.ref jb))
  (cp:Meth K fZ "__init__" f1)
  (e8:∃d,bU K "__init__" "Cellar.__init__" DF f1 d)
  (cy:Meth K fZ "do_stroke" f2)
  (gu:∃d,bU K "do_stroke" "Cellar.do_stroke" EU f2 d)
  (fo:Meth K ea "__init__" gc)
  (qn:∃d,bU K "__init__" "House.__init__" DA gc d)
  (gs:Meth K ea "begin" f4)
  (mz:∃d,bU K "begin" "House.begin" DH f4 d)
  (i6:Meth K ea "put" hk)
  (nu:∃d,bU K "put" "House.put" Es hk d)
  (yy:Meth K ea "end" Sf)
  (vo:∃d,bU K "end" "House.end" Et Sf d)
  (R0:Meth K ea "drop" Se)
  (R5:∃d,bU K "drop" "House.drop" D5 Se d)
  (RZ:Meth K ea "look" f8)
  (R4:∃d,bU K "look" "House.look" D1 f8 d)
  (Ho:Meth K ea "carry" Sd)
  (R3:∃d,bU K "carry" "House.carry" DE Sd d)
  (Fo:Meth K ea "cut" QZ)
  (PB:∃d,bU K "cut" "House.cut" Ew QZ d)
  (AZ:Meth K ea "ask_dealing" QY)
  (PA:∃d,bU K "ask_dealing" "House.ask_dealing" Ea QY d)
  (AY:Meth K ea "ask_page" QX)
  (Pz:∃d,bU K "ask_page" "House.ask_page" D9 QX d)
  (OM:Meth K ea "ask_free" QW)
  (Py:∃d,bU K "ask_free" "House.ask_free" D_ QW d)
  (Fl:Meth K ea "ask_room" QV)
  (Px:∃d,bU K "ask_room" "House.ask_room" D8 QV d)
  (OL:Meth K ea "has_room" QU)
  (Pw:∃d,bU K "has_room" "House.has_room" D3 QU d)
  (OJ:Meth K ea "make_room" QT)
  (Pu:∃d,bU K "make_room" "House.make_room" Dw QT d)
  (Fj:Meth K ea "write_put" QS)
  (Pr:∃d,bU K "write_put" "House.write_put" C0 QS d)
  (xy:Meth K ea "make_stroke" QO)
  (Pq:∃d,bU K "make_stroke" "House.make_stroke" Dv QO d)
  (Fi:mg "behind"=some (.ref QN))
  (Pp:∃d,bU K "behind" "behind" C5 QN d)
  (OI:mg "needed_from"=some (.ref QM))
  (Po:∃d,bU K "needed_from" "needed_from" Du QM d)
  (OH:mg "last_put_places"=some (.ref QL))
  (Pn:∃d,bU K "last_put_places" "last_put_places" Dy QL d)
  (OG:mg "strokes_of"=some (.ref QK))
  (Pk:∃d,bU K "strokes_of" "strokes_of" Cb QK d)
  (OF:mg "answer"=some (.ref QJ))
  (Pj:∃d,bU K "answer" "answer" zL QJ d)
  (OE:mg "do_deed"=some (.ref QI))
  (Ph:∃d,bU K "do_deed" "do_deed" C4 QI d)
  (OD:mg "wanted"=some (.ref QH))
  (Pg:∃d,bU K "wanted" "wanted" DZ QH d)
  (OC:mg "up"=some (.ref QG))
  (Pf:∃d,bU K "up" "up" ET QG d)
  (OB:mg "came_up"=some (.ref QF))
  (Pe:∃d,bU K "came_up" "came_up" D7 QF d)
  (OA:mg "after_days"=some (.ref QE))
  (Pd:∃d,bU K "after_days" "after_days" DK QE d)
  (Oz:mg "strokes_of_day"=some (.ref QD))
  (Pc:∃d,bU K "strokes_of_day" "strokes_of_day" Eu QD d)
  (Fg:mg "_law_draw"=some (.ref QC))
  (Pb:∃d,bU K "_law_draw" "_law_draw" D6 QC d)
  (Ff:mg "_law_whole"=some (.ref QB))
  (Pa:∃d,bU K "_law_whole" "_law_whole" wo QB d)
  (Fe:mg "_law_at"=some (.ref QA))
  (O_:∃d,bU K "_law_at" "_law_at" EV QA d)
  (Ox:mg "_law_alike"=some (.ref Qz))
  (O9:∃d,bU K "_law_alike" "_law_alike" DI Qz d)
  (Ow:mg "_law_some_deeds"=some (.ref Qy))
  (O8:∃d,bU K "_law_some_deeds" "_law_some_deeds" kC Qy d)
  (Ov:mg "_law_pages_of"=some (.ref Qx))
  (O7:∃d,bU K "_law_pages_of" "_law_pages_of" Dt Qx d)
  (Ou:mg "_law_room_of"=some (.ref Qw))
  (O6:∃d,bU K "_law_room_of" "_law_room_of" D0 Qw d)
  (Ot:mg "_law_taker"=some (.ref Qv))
  (O5:∃d,bU K "_law_taker" "_law_taker" Dr Qv d)
  (Oq:mg "_law_refusal"=some (.ref Qu))
  (O4:∃d,bU K "_law_refusal" "_law_refusal" CD Qu d)
  (Oo:mg "_law_bound"=some (.ref Qt))
  (O3:∃d,bU K "_law_bound" "_law_bound" DG Qt d)
  (Om:mg "_law_put_again"=some (.ref Qs))
  (O2:∃d,bU K "_law_put_again" "_law_put_again" DJ Qs d)
  (Ol:mg "_law_needed"=some (.ref Qq))
  (O1:∃d,bU K "_law_needed" "_law_needed" C2 Qq d)
  (Oj:mg "_law_house_of"=some (.ref Qp))
  (O0:∃d,bU K "_law_house_of" "_law_house_of" Dz Qp d)
  (xx:mg "_law_stroke_in"=some (.ref Qo))
  (OZ:∃d,bU K "_law_stroke_in" "_law_stroke_in" C1 Qo d)
  (Fd:mg "_law_cut_in"=some (.ref Qn))
  (OY:∃d,bU K "_law_cut_in" "_law_cut_in" DC Qn d)
  (Fc:mg "_law_carry_in"=some (.ref Qm))
  (OX:∃d,bU K "_law_carry_in" "_law_carry_in" CF Qm d)
  (Oi:mg "_law_full"=some (.ref Ql))
  (OW:∃d,bU K "_law_full" "_law_full" D4 Ql d)
  (Fb:mg "_law_put_in"=some (.ref Qk))
  (OV:∃d,bU K "_law_put_in" "_law_put_in" Ds Qk d)
  (Oh:mg "_law_end_in"=some (.ref Qj))
  (OU:∃d,bU K "_law_end_in" "_law_end_in" DB Qj d)
  (Og:mg "_law_answered"=some (.ref Qi))
  (OT:∃d,bU K "_law_answered" "_law_answered" Co Qi d)
  (Of:mg "_law_kept_by"=some (.ref Qh))
  (OS:∃d,bU K "_law_kept_by" "_law_kept_by" D2 Qh d)
  (Oe:mg "_law_stroke_count"=some (.ref Qg))
  (OR:∃d,bU K "_law_stroke_count" "_law_stroke_count" BZ Qg d)
  (Od:mg "_law_days_of"=some (.ref Qf))
  (OQ:∃d,bU K "_law_days_of" "_law_days_of" wc Qf d)
  (Oc:mg "_law_count_by"=some (.ref Qe))
  (OP:∃d,bU K "_law_count_by" "_law_count_by" DD Qe d)
  (Ob:mg "law"=some (.ref Qd))
  (OO:∃d,bU K "law" "law" wN Qd d)
  (M3:PySem.W.plainGet K fZ Str.empty=true)
  (Nq:PySem.W.hasDictIn K fZ=true)
  (M0:PySem.W.plainOver K fZ=true)
  (MU:findIn K (.ref fZ) "__setattr__"=some (some (.builtin "object.__setattr__")))
  (Nh:PySem.W.makesIn K fZ=true)
  (Nj:keepIn K (.ref fZ)=true)
  (JD:findIn K (.ref fZ) "pages"=some none)
  (Lg:findIn K (.ref fZ) "log"=some none)
  (M1:PySem.W.plainGet K ea Str.empty=true)
  (Np:PySem.W.hasDictIn K ea=true)
  (MZ:PySem.W.plainOver K ea=true)
  (MT:findIn K (.ref ea) "__setattr__"=some (some (.builtin "object.__setattr__")))
  (Ng:PySem.W.makesIn K ea=true)
  (Ni:keepIn K (.ref ea)=true)
  (I2:findIn K (.ref ea) "cellar"=some none)
  (Km:findIn K (.ref ea) "desk"=some none)
  (Kh:findIn K (.ref ea) "room"=some none)
  (II:findIn K (.ref ea) "strokes"=some none)
  (I3:findIn K (.ref ea) "begins"=some none)
  (Kl:findIn K (.ref ea) "puts"=some none)
  (I1:findIn K (.ref ea) "takers"=some none)
  (JC:findIn K (.ref ea) "bound"=some none)
  (NI:excIn K jc rq "ValueError.__new__"=true)
  (NH:excIn K g7 rq "ValueError.__new__"=true)
  (NG:excIn K h4 rq "ValueError.__new__"=true)
  (NF:excIn K jb rq "ValueError.__new__"=true)
  (ME:exmOne K (.ref jc) (.ref jc)=some true)
  (MD:exmOne K (.ref jc) (.ref g7)=some false)
  (MC:exmOne K (.ref jc) (.ref h4)=some false)
  (MB:exmOne K (.ref jc) (.ref jb)=some false)
  (MA:exmOne K (.ref g7) (.ref jc)=some false)
  (Mz:exmOne K (.ref g7) (.ref g7)=some true)
  (My:exmOne K (.ref g7) (.ref h4)=some false)
  (Mx:exmOne K (.ref g7) (.ref jb)=some false)
  (Mw:exmOne K (.ref h4) (.ref jc)=some false)
  (Mv:exmOne K (.ref h4) (.ref g7)=some false)
  (Mu:exmOne K (.ref h4) (.ref h4)=some true)
  (Mt:exmOne K (.ref h4) (.ref jb)=some false)
  (Ms:exmOne K (.ref jb) (.ref jc)=some false)
  (Mr:exmOne K (.ref jb) (.ref g7)=some false)
  (Mq:exmOne K (.ref jb) (.ref h4)=some false)
  (Mp:exmOne K (.ref jb) (.ref jb)=some true)
  (Ls:mg "list"=none)
  (KD:mg "tuple"=none)
  (L8:mg "int"=none)
  (L4:mg "str"=none)
  (Lv:mg "bool"=none)
  (Ii:mg "isinstance"=none)
  (L7:mg "len"=none)
  (KG:mg "range"=none)
  (Iw:mg "enumerate"=none)
  (Lu:mg "dict"=none)
  (L3:mg "sum"=none)
  (B9:mg "reversed"=none)
  (L6:mg "max"=none)
  (L5:mg "min"=none)
  : ∃fd:FuncData,(∀(s:Shared) (v:Value),BindsTo s fd ⟨[v],[]⟩ [("_law_script",v)])∧∀base:Heap,K.In base→base.Ns mainGlobals mg→bp P w K mg base bW 12 gw fd Ae (z1 K):=by
 cases aa2.symm.trans Ob
 obtain⟨gg,H3⟩:=e8
 obtain⟨e9,H2⟩:=gu
 obtain⟨afg,SH⟩:=qn
 obtain⟨Sk,SG⟩:=mz
 obtain⟨BF,SE⟩:=nu
 obtain⟨afe,H0⟩:=vo
 obtain⟨afd,SD⟩:=R5
 obtain⟨afc,SA⟩:=R4
 obtain⟨afb,HZ⟩:=R3
 obtain⟨aeW,G4⟩:=PB
 obtain⟨aeV,Bq⟩:=PA
 obtain⟨aeU,Bp⟩:=Pz
 obtain⟨aeT,RH⟩:=Py
 obtain⟨aeS,G3⟩:=Px
 obtain⟨aeR,RG⟩:=Pw
 obtain⟨aeQ,RE⟩:=Pu
 obtain⟨aeP,G2⟩:=Pr
 obtain⟨aeO,yj⟩:=Pq
 obtain⟨aeN,yi⟩:=Pp
 obtain⟨aeM,G1⟩:=Po
 obtain⟨aeL,G0⟩:=Pn
 obtain⟨aeK,GZ⟩:=Pk
 obtain⟨aeJ,GY⟩:=Pj
 obtain⟨aeI,GX⟩:=Ph
 obtain⟨aeH,GW⟩:=Pg
 obtain⟨aeG,GV⟩:=Pf
 obtain⟨aeF,GU⟩:=Pe
 obtain⟨aeE,GS⟩:=Pd
 obtain⟨aeD,GR⟩:=Pc
 obtain⟨aeC,yh⟩:=Pb
 obtain⟨aeB,vg⟩:=Pa
 obtain⟨aeA,yg⟩:=O_
 obtain⟨aez,GQ⟩:=O9
 obtain⟨aey,GP⟩:=O8
 obtain⟨aex,GO⟩:=O7
 obtain⟨aew,GN⟩:=O6
 obtain⟨aev,GL⟩:=O5
 obtain⟨aeu,GK⟩:=O4
 obtain⟨aet,GJ⟩:=O3
 obtain⟨aes,GI⟩:=O2
 obtain⟨aer,GH⟩:=O1
 obtain⟨aeq,GG⟩:=O0
 obtain⟨aep,qf⟩:=OZ
 obtain⟨aeo,yf⟩:=OY
 obtain⟨aen,ye⟩:=OX
 obtain⟨aem,GF⟩:=OW
 obtain⟨ael,yd⟩:=OV
 obtain⟨aek,GD⟩:=OU
 obtain⟨aej,GC⟩:=OT
 obtain⟨aei,GB⟩:=OS
 obtain⟨aeh,GA⟩:=OR
 obtain⟨aeg,Gz⟩:=OQ
 obtain⟨aef,Gy⟩:=OP
 obtain⟨abx,RD⟩:=OO
 have ru:pG K mg fZ:=⟨⟨M3,Nq,M0,MU⟩,JD,Lg,  Rj⟩
 have Rr:tQ K fZ f1:=⟨Nh,cp.1,cp.2,Nj⟩
 have jn:iX K mg ea:=⟨⟨M1,Np,MZ,MT⟩,I2,Km,Kh,II,I3,Kl,I1,JC,  Ri⟩
 have abA:tQ K ea gc:=⟨Ng,fo.1,fo.2,Ni⟩
 have yU:tf K mg jc g7 h4 jb:=⟨Rh,Rg,Rf,Rd,NI,NH,NG,NF⟩
 have acT:w6 K mg jc g7 h4 jb:=Xm yU ME MD MC MB MA Mz My Mx Mw Mv Mu Mt Ms Mr Mq Mp
 have B:ff mg:=⟨Ls,KD,L8,L4,Lv,Ii,L7,KG,Iw,Lu⟩
 have lY:w7 mg:=⟨L3,B9⟩
 obtain⟨_,_,_,_,_,_,_,_,_,e,_,_⟩:=RD.ex
 refine⟨abx,fun s v=>by rw[e];exact .of_eq rfl,fun base _ _=>?_⟩
 have Ry:=Wd (P:=P) (w:=w) (mg:=mg) (base:=base) yh
 have abT:=Vf (P:=P) (w:=w) (mg:=mg) (base:=base) vg B
 have Rx:=X0 (P:=P) (w:=w) (mg:=mg) (base:=base) yg B
 have abL:=Vu (P:=P) (w:=w) (mg:=mg) (base:=base) GI
 have Bm:=Ui (P:=P) (w:=w) (mg:=mg) (base:=base) qf B
 have abM:=Vr (P:=P) (w:=w) (mg:=mg) (base:=base) GJ B lY
 have abO:=Vg (P:=P) (w:=w) (mg:=mg) (base:=base) GL B
 have abJ:=Vj (P:=P) (w:=w) (mg:=mg) (base:=base) GG B
 have abQ:=Vi (P:=P) (w:=w) (mg:=mg) (base:=base) GO B
 have abP:=V7 (P:=P) (w:=w) (mg:=mg) (base:=base) GN B
 have Sz:bp P w K mg base _ _ _ _ _ (zK fZ):=Vp H3 B ru
 have Sy:bp P w K mg base _ _ _ _ _ (Aa fZ):=XY H2 ru
 have ab5:bp P w K mg base _ _ _ _ _ (Dl fZ ea):=XX RG B jn ru
 have Gv:bp P w K mg base _ _ _ _ _ (wj fZ ea g7):=X2 Bp B jn yU
 have Gw:bp P w K mg base _ _ _ _ _ (wk fZ ea jc):=X4 Bq jn yU
 have ab6:bp P w K mg base _ _ _ _ _ (Dp fZ ea h4):=X3 RH jn yU
 have ab2:=V9 (P:=P) (w:=w) (mg:=mg) (base:=base) G0 B
 have abY:=V6 (P:=P) (w:=w) (mg:=mg) (base:=base) GW B lY
 have abE:=WZ (P:=P) (w:=w) (mg:=mg) (base:=base) GA B lY
 have abC:=Vo (P:=P) (w:=w) (mg:=mg) (base:=base) Gy B
 have abS:=Vt GQ B abT (ma vg) vg.bw Ff
 have abK:=Uj GH B abL (eF GI) GI.bw Om
 have Rv:=TG ye B Bm (eF qf) qf.bw xx
 have Ru:=Vh yd B Bm (eF qf) qf.bw xx
 have abN:=TF GK B abO (eF GL) GL.bw Ot
 have Bo:bp P w K mg base _ _ _ _ _ (uI fZ ea):=XU yj jn ru Sy (eF H2) cy
 have ab3:=Wb G1 B ab2 (ma G0) G0.bw OH
 have adb:bp P w K mg base _ _ _ _ _ (Dk fZ ea jc g7 h4 jb):=V8 SA jn Gv (eF Bp) AY
 have abR:=Vm GP B Ry (l_ yh) yh.bw Fg
 have abX:=XT GV B abY (eF GW) GW.bw OD
 have abF:=V_ (P:=P) (w:=w) (mg:=mg) (base:=base) GB B vg (ma vg) vg.bw Ff
 have Rw:=Vn yf B abK (td GH) GH.bw Ol Bm (eF qf) qf.bw xx
 have abH:=Vl GD B lY Bm (eF qf) qf.bw xx Ru (td yd) yd.bw Fb
 have RA:bp P w K mg base _ _ _ _ _ (z_ fZ ea):=XS G2 jn Bo (eF yj) xy
 have RC:bp P w K mg base _ _ _ _ _ (z3 fZ ea):=W5 G4 B jn ru Bo (eF yj) xy ab3 (td G1) G1.bw OI
 have Sw:bp P w K mg base _ _ _ _ _ (zJ fZ ea g7):=Vq HZ jn ru Bo (eF yj) xy Gv (eF Bp) AY
 have Sx:bp P w K mg base _ _ _ _ _ (z2 fZ ea jc g7 h4 jb):=W3 H0 B jn Gw (eF Bq) AZ Bo (eF yj) xy
 have adh:bp P w K mg base _ _ _ _ _ (CU fZ ea):=Vk SH B jn ru Rr Sz (l_ H3)
 have Rz:=Ul yi ru Rr Sz (l_ H3) Sy (eF H2) cy
 have abD:=Uk Gz B L6 Rx (eF yg) yg.bw Fe Ry (l_ yh) yh.bw Fg abR (eF GP) GP.bw Ow
 have abI:=Wa GF B abM (ma GJ) GJ.bw Oo Rv (eF ye) ye.bw Fc Rw (ma yf) yf.bw Fd
 have ab4:bp P w K mg base _ _ _ _ _ (CT fZ ea):=XW RE B jn Sw (eF HZ) Ho RC (ma G4) Fo
 have ade:bp P w K mg base _ _ _ _ _ (Dm fZ ea jc g7 h4 jb):=Wc SD B B9 jn Gw (eF Bq) AZ RA (td G2) Fj Sx (eF H0) yy
 have abW:=We GU Rz (l_ yi) yi.bw Fi abX (eF GV) GV.bw OC
 have abG:=Tg GC B abI (eF GF) GF.bw Oi abN (l_ GK) GK.bw Oq Ru (td yd) yd.bw Fb abH (eF GD) GD.bw Oh Rv (eF ye) ye.bw Fc Rw (ma yf) yf.bw Fd
 have RB:bp P w K mg base _ _ _ _ _ (zO fZ ea jb):=X1 G3 jn yU ab5 (eF RG) OL ab4 (ma RE) OJ
 have adg:bp P w K mg base _ _ _ _ _ (CW fZ ea jc g7 h4 jb):=Vs SG jn RB (eF G3) Fl
 have adf:bp P w K mg base _ _ _ _ _ (DX fZ ea jc g7 h4 jb):=W0 SE jn Gw (eF Bq) AZ Gv (eF Bp) AY ab6 (l_ RH) OM RB (eF G3) Fl RA (td G2) Fj
 have abZ:bp P w K mg base _ _ _ _ _ (Cz fZ ea jc g7 h4 jb):=XZ GX jn adg (ma SG) gs adb (eF SA) RZ adf (td SE) i6 Sx (eF H0) yy ade (eF SD) R0 Sw (eF HZ) Ho RC (ma G4) Fo
 have ab0:bp P w K mg base _ _ _ _ _ (CB fZ ea):=Um GY acT abZ (eF GX) GX.bw OE
 have ab1:=S5 GZ B jn abA adh (l_ SH) ab0 (eF GY) GY.bw OF
 have abU:=W4 GR ab1 (l_ GZ) GZ.bw OG
 have abV:=Vv GS abU (l_ GR) GR.bw Oz Rz (l_ yi) yi.bw Fi abW (l_ GU) GU.bw OB
 exact W2 RD B L5 Rx (eF yg) yg.bw Fe abC (ma Gy) Gy.bw Oc abP (ma GN) GN.bw Ou abQ (eF GO) GO.bw Ov abD (eF Gz) Gz.bw Od abV (l_ GS) GS.bw OA abS (eF GQ) GQ.bw Ox abJ (eF GG) GG.bw Oj abG (eF GC) GC.bw Og abE (ma GA) GA.bw Oe abF (aby GB) GB.bw Of
theorem walk {l:PySem.W.OpenLaw}{q:Program}{loose:List Str}{vD:(Str→Option Value)→Heap→Prop}{rO:World→Heap→Prop}{d:DefRec}{K:Params→PySem.W.Frag}(aR:l.most=some 63) (xT:d.params.defaults=[])
  (Hu:∀(w:World) (h:Heap),rO w h→(K w.params).In h)
  (F:∀(w:World) (mg:Str→Option Value) (gw:Addr) (h:Heap),(K w.params).In h→h.Ns mainGlobals mg→mg d.name=some (.ref gw) →
   ∃fd:FuncData,(∀(s:Shared) (u:Value),BindsTo s fd ⟨[u],[]⟩ [("_law_script",u)])∧∀base:Heap,(K w.params).In base→base.Ns mainGlobals mg→bp l.prog w (K w.params) mg base bW 12 gw fd Ae (z1 (K w.params))) :
  PySem.W.WalkO q loose vD rO l.row.toRowW d [] (fun f vs=>PySem.call f vs) :=
 L2.VM (n:=63) (k:=12) (x:="_law_script") (fp:=fun _=>bW) (sp:=fun w=>z1 (K w.params)) aR (by decide) xT ⟨rfl,by decide,by decide⟩ Hu F (fun _ _ a ns aC yJ hY=>⟨a,ns,rfl,hY,aC,fun _=>rfl⟩) fun _ _ _ _ _ z=>z
end Gs
open PySem PySem.W PyProof.Rows
namespace PySem.W.Fast
def tw12969830779594700821:=0
def tw3280135557779016896:=0
def tw3619446756820166000:=0
def tw13811832599886534509:=0
def tw5032766427966590507:=0
def tw1889972767939814030:=0
def tw9186912680526719758:=0
def tw1508447878178166896:=0
def tw10529617330126801613:=0
def tw8754897050542471726:=0
def tw15949316721407187843:=0
def tw3129501073818289608:=0
def tw8112646890864625609:=0
def tw3097940619772218069:=0
def tw17094328930039762410:=0
def tw10108695797744278022:=0
def tw12958008758621688413:=0
def tw4115269471050098663:=0
def tw11092076283301417683:=0
def tw14527921461143364247:=0
def tw3172077008605115049:=0
def tw17368232847491407368:=0
def tw5967951544366854125:=0
def tw10152960274568285157:=0
def tw8443358420206202566:=0
def tw6805145590585630646:=0
def tw6063042364995418769:=0
def tw17761336372681471112:=0
def tw15946273185477349847:=0
def tw3845883519692725716:=0
def tw3059263183039679902:=0
def tw14112039658997969629:=0
def tw15457862449543492688:=0
def tw12934567652866620344:=0
def tw2780946170002363847:=0
def tw10762496038681285469:=0
def tw4009811739780974772:=0
def tw4781839463521934099:=0
def tw15573704533512967007:=0
def tw2972532894462771892:=0
def tw9712952079005572:=0
def tw10352312257389468199:=0
def tw15393921045560711189:=0
def tw2584080402445625927:=0
def tw15630504640068859893:=0
def tw11666758529429436408:=0
def tw4583126055410531477:=0
def tw9058353407169195584:=0
def tw13499780422691624968:=0
def tw8566129330453922391:=0
def tw16009253238983348889:=0
def tw13418367976777551773:=0
def tw9157392758607253960:=0
def tw5359739807572861134:=0
def tw7748997367353849997:=0
def tw13223591253637997436:=0
def tw6162078370420128719:=0
def tw11771712525203797158:=0
def tw2093953012393643904:=0
def tw5118149258623202166:=0
def tw5362104664469089225:=0
def tw18297531580993222998:=0
def tw8456943694826436999:=0
def tw4017494801145988099:=0
def tw17129280819763609398:=0
def tw1068489721739758368:=0
def tw10241514989556345089:=0
def tw15968959762600996150:=0
def tw12461304152459087307:=0
def tw2817123966154178234:=0
def tw2936339064510564252:=0
def tw11679020074416348943:=0
def tw17112262542637056471:=0
def tw5951099349571229676:=0
def tw4323102128233230931:=0
def tw17288996715124402084:=0
def tw17750113529305297394:=0
def tw11970922211150766363:=0
def tw931225237021988073:=0
def tw3420649713174257348:=0
def tw3819618136291503232:=0
def tw12623592966442158848:=0
def tw11309442088781709559:=0
def tw2890330577121585158:=0
def tw7542053872073003098:=0
def tw1659099773382718059:=0
def tw15412550729408324132:=0
def tw14529991378722042937:=0
def tw5572522196933897163:=0
def tw8928935143447670862:=0
def tw13684592925305857525:=0
def tw814332746019283954:=0
def tw10292833656766923472:=0
def tw7815705916371687193:=0
def tw1844712508462714042:=0
def tw15286714735175055186:=0
def tw5632209804245007734:=0
def tw11645523207796990971:=0
def tw12794372660772951753:=0
def tw1380116818258457378:=0
def tw13237449306144772307:=0
def tw681132472345039727:=0
def tw3348857164206455808:=0
def tw13537206655265329893:=0
def tw15309075201173193804:=0
def tw6003918054467447152:=0
def tw18293529931394934927:=0
def tw10118981320297252736:=0
def tw8892884527126986959:=0
def tw16893153110283601589:=0
def tw1430196934542001237:=0
def tw12324297879503394395:=0
def tw1082948784401942367:=0
def tw17755124975902434898:=0
def tw12144319793849709844:=0
def tw14789324412853762278:=0
def tw9703673142670037191:=0
def tw4384821684242261621:=0
def tw16123758568120881153:=0
def tw266672992900184659:=0
def tw18262598337300154838:=0
def tw15810444499122932772:=0
def tw11933788426298455751:=0
def tw10424986971184124273:=0
def tw17408265600236018696:=0
def tw9249879674344938601:=0
def tw1278999962310368243:=0
def tw6128812257664955521:=0
def tw3397322873939394084:=0
def tw2488152607546165642:=0
def tw3900501853289571787:=0
def tw17402810081706571561:=0
def tw17171870894422394691:=0
def tw10629870745810539221:=0
def tw14773747869821213098:=0
def tw2300448355474573018:=0
def tw1309035059095123779:=0
def tw6124118185241764862:=0
def tw2513385777747467872:=0
def tw6899244668486338354:=0
def tw9933226980798175644:=0
def tw5576702984735081898:=0
def tw8322283527499461665:=0
def tw15575301575728631471:=0
def tw9590393982438435086:=0
def tw1819943684525409634:=0
def tw12123990907137531449:=0
def tw10889627967378394905:=0
def tw5178717794304697859:=0
def tw13371856411049033602:=0
def tw16708803455332900816:=0
def tw13171334335396666179:=0
def tw7672237187381198736:=0
def tw1956165702292664263:=0
def tw5230408302926017479:=0
def tw5140940044963048930:=0
def tw8927612778903166612:=0
def tw13712801844451981929:=0
def tw23714620093028903:=0
def tw13626450635536945323:=0
def tw13905132491111591472:=0
def tw10076589492520897041:=0
def tw14521123085249099497:=0
def tw11856663214952963262:=0
def tw12526438118469446396:=0
def tw4959722019699492854:=0
def tw6434642619663308433:=0
def tw6802721431867750653:=0
def tw18248434021027257620:=0
def tw5377138848332336737:=0
def tw11758963245851230523:=0
def tw7513962390551351511:=0
def tw15670007560076827792:=0
def tw7137148660120514273:=0
def tw10778963820938054005:=0
def tw14616653079583470641:=0
def tw13396717517280682644:=0
def tw4055349670955729935:=0
def tw9553439658347511456:=0
def tw14460368159341041303:=0
def tw8727051345596731369:=0
def tw11036287663941277870:=0
def tw5299090613359939539:=0
def tw13805265762875962163:=0
def tw11019290550806368930:=0
def tw13342644573497208775:=0
def tw14847386192765925415:=0
def tw12410761990780586059:=0
def tw4605588069574865529:=0
def tw9253055821120223096:=0
def tw16043902260273242077:=0
def tw4280657871870043212:=0
def tw9938455285734529770:=0
def tw11858261455054707093:=0
def tw6864881700777652573:=0
def tw15591102206266616658:=0
def tw6195544964767777907:=0
def tw17378369460474424090:=0
def tw13534419046731616505:=0
def tw18107055188574407956:=0
end PySem.W.Fast
set_option maxRecDepth 100000 in
set_option maxHeartbeats 0 in
theorem PySem.Challenge.cw_quillhouse_k11_whole_days_holds : PySem.Challenge.rw_quillhouse_k11_whole_days.Holds := by
 w_on;o_law;k_head;(case hw=>w_witness2)
 k_fill
 refine Gs.walk (l:=PySem.Challenge.rw_quillhouse_k11_whole_days) rfl rfl (fun w h Y=>PySem.W.kIn_of Y) ?F
 case F =>
  intro w mg gw h ov G xO
  refine' Gs.all_mk xO ?Rj ?Ri ?Rh ?Rg ?Rf ?Rd ?cp ?e8 ?cy ?gu ?fo ?qn ?gs ?mz ?i6 ?nu ?yy ?vo ?R0 ?R5 ?RZ ?R4 ?Ho ?R3 ?Fo ?PB ?AZ ?PA ?AY ?Pz ?OM ?Py ?Fl ?Px ?OL ?Pw ?OJ ?Pu ?Fj ?Pr ?xy ?Pq ?Fi ?Pp ?OI ?Po ?OH ?Pn ?OG ?Pk ?OF ?Pj ?OE ?Ph ?OD ?Pg ?OC ?Pf ?OB ?Pe ?OA ?Pd ?Oz ?Pc ?Fg ?Pb ?Ff ?Pa ?Fe ?O_ ?Ox ?O9 ?Ow ?O8 ?Ov ?O7 ?Ou ?O6 ?Ot ?O5 ?Oq ?O4 ?Oo ?O3 ?Om ?O2 ?Ol ?O1 ?Oj ?O0 ?xx ?OZ ?Fd ?OY ?Fc ?OX ?Oi ?OW ?Fb ?OV ?Oh ?OU ?Og ?OT ?Of ?OS ?Oe ?OR ?Od ?OQ ?Oc ?OP ?Ob ?OO ?M3 ?Nq ?M0 ?MU ?Nh ?Nj ?JD ?Lg ?M1 ?Np ?MZ ?MT ?Ng ?Ni ?I2 ?Km ?Kh ?II ?I3 ?Kl ?I1 ?JC ?NI ?NH ?NG ?NF ?ME ?MD ?MC ?MB ?MA ?Mz ?My ?Mx ?Mw ?Mv ?Mu ?Mt ?Ms ?Mr ?Mq ?Mp ?Ls ?KD ?L8 ?L4 ?Lv ?Ii ?L7 ?KG ?Iw ?Lu ?L3 ?B9 ?L6 ?L5
  all_goals first | k_is | exact PySem.W.mg_of ov G (by k_is) | exact PySem.W.mg_none_of ov G (by k_is) | exact⟨by k_is,by k_is,by k_is⟩ | exact⟨_,L2.Xl (by k_is) (by k_is) (by k_is)⟩ | skip
  all_goals first | k_exc | kts_exm | skip
