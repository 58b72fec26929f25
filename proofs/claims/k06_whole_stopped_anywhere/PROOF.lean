import PyProof.Rows.All
import Wide.All
import OpenK.AllK
import Wide.FinOn
import Lean
import PyProof.EqAt
import PyProof.EqKinds
import PyProof.TupleCall
import PyProof.NeKinds
import KE.KTryMore
import PySem.Challenge.RW_quillhouse_k06_whole_stopped_anywhere
set_option Elab.async false
set_option linter.all false
set_option maxRecDepth 100000
set_option maxHeartbeats 0
open List (any_append any_cons any_eq_true any_map append_assoc append_nil drop_length drop_succ_cons drop_zero filter_cons filter_sublist find?_cons find?_cons_of_neg find?_eq_none find?_some foldl_append foldl_cons getD_eq_getElem?_getD getElem?_append_left getElem?_append_right getElem?_eq_getElem getElem?_eq_none getElem?_map getElem?_of_mem getElem?_reverse getElem?_set_ne getElem?_set_self length_append length_cons length_drop length_filter_le length_map length_nil length_replicate length_reverse length_set length_singleton length_take lookup_cons map_append map_congr_left map_cons map_map map_nil mem_append mem_append_left mem_append_right mem_cons mem_cons_of_mem mem_cons_self mem_filter mem_filterMap mem_map mem_of_find?_eq_some mem_of_getElem? mem_of_mem_take mem_reverse mem_singleton nodup_append nodup_cons nodup_nil not_mem_nil of_mem_zip size_toArray sum_append sum_cons take_add_one take_length take_nil take_of_length_le)
open Nat (le_of_ble_eq_true le_of_eq le_of_lt le_refl le_succ le_succ_of_le le_trans lt_irrefl lt_of_le_of_lt lt_of_lt_of_le ne_of_gt ne_of_lt not_lt_zero sub_self sub_zero zero_add zero_le)
open PySem.W (emptyDict excIn exmOne findIn hideAll instObj keepIn kia_one kitOne)
open PySem.F (excBase_ValueError plainAttrs_list slot_dict_get)
open PySem.Heap (get?_push_of_some get?_push_size get?_update_other get?_update_self lt_size size_push)
open Bool (and_eq_true)
namespace L2
open PySem PySem.Spec PyProof.Rows
abbrev Key:=Sum Int Str
def tx:Key→Value→Bool
 | .inl k,v=>Value.isInt k v
 | .inr x,v=>Value.isStrOf x v
def XR (w:World):Key→Int
 | .inl k=>hashInt k
 | .inr x=>hashStr w x
theorem oe:∀{k:Key}{v:Value},tx k v=true→(∃i t,k=Sum.inl i∧v=Value.int i t)∨(∃x t,k=Sum.inr x∧v=Value.str x t)
 | .inl i,v,h=>by
  obtain⟨t,e⟩:=Value.isInt_shape (k:=i) (v:=v) h
  exact .inl ⟨i,t,rfl,e⟩
 | .inr x,v,h=>by
  obtain⟨t,e⟩:=Value.isStrOf_shape (x:=x) (v:=v) h
  exact .inr ⟨x,t,rfl,e⟩
theorem S4 (i:Int) (t:Tok):tx (.inl i) (.int i t)=true:=by simp[tx,Value.isInt]
theorem S3 (x:Str) (t:Tok):tx (.inr x) (.str x t)=true:=by simp[tx,Value.isStrOf]
theorem V4 (a b:Int):decide ((Sum.inl a:Key)=Sum.inl b)=(a == b):=by
 by_cases e:a=b
 ·subst e;simp
 ·have h:¬(Sum.inl a:Key)=Sum.inl b:=fun q=>e (Sum.inl.inj q)
  rw[decide_eq_false h]
  exact (beq_eq_false_iff_ne.mpr e).symm
theorem V1 (a b:Str):decide ((Sum.inr a:Key)=Sum.inr b)=decide (a=b):=by
 by_cases e:a=b
 ·subst e;simp
 ·have h:¬(Sum.inr a:Key)=Sum.inr b:=fun q=>e (Sum.inr.inj q)
  rw[decide_eq_false h,decide_eq_false e]
theorem V3 (a:Int) (b:Str):decide ((Sum.inl a:Key)=Sum.inr b)=false:=decide_eq_false (fun q=>nomatch q)
theorem V2 (a:Str) (b:Int):decide ((Sum.inr a:Key)=Sum.inl b)=false:=decide_eq_false (fun q=>nomatch q)
def hX (prog:Program) (w:World):PySem.KeyKind prog w Key where
 is:=tx
 hash:=XR w
 inj:=fun v a b bk aa=>by
  rcases oe bk with ⟨i,t,rfl,rfl⟩ | ⟨x,t,rfl,rfl⟩
  ·rcases oe aa with ⟨j,u,rfl,e⟩ | ⟨y,u,rfl,e⟩
   ·injection e with aH _;rw[aH]
   ·exact nomatch e
  ·rcases oe aa with ⟨j,u,rfl,e⟩ | ⟨y,u,rfl,e⟩
   ·exact nomatch e
   ·injection e with aH _;rw[aH]
 byValue:=fun k v h=>by
  rcases oe h with ⟨i,t,rfl,rfl⟩ | ⟨x,t,rfl,rfl⟩ <;> rfl
 pyHash:=fun aX h=>by
  rcases oe aX with ⟨i,t,rfl,rfl⟩ | ⟨x,t,rfl,rfl⟩
  ·exact wpAny_pyHash_int h
  ·exact wpAny_pyHash_str h
 eqBool:=fun bf aX h=>by
  rcases oe bf with ⟨i,t,rfl,rfl⟩ | ⟨x,t,rfl,rfl⟩
  ·rcases oe aX with ⟨j,u,rfl,rfl⟩ | ⟨y,u,rfl,rfl⟩
   ·rw[V4]at h;exact wpAny_eqBool_int h
   ·rw[V3]at h;exact SeqAt.EqAt.int_str i t y u _ _ _ _ h
  ·rcases oe aX with ⟨j,u,rfl,rfl⟩ | ⟨y,u,rfl,rfl⟩
   ·rw[V2]at h;exact SeqAt.EqAt.str_int x t j u _ _ _ _ h
   ·rw[V1]at h;exact wpAny_eqBool_str h
 «strs» := fun k x t v h=>by
  rcases oe h with ⟨i,u,rfl,e⟩ | ⟨y,u,rfl,e⟩
  ·exact nomatch e
  ·injection e with aH _
   subst aH
   cases v <;> rfl
theorem RY (prog:Program) (w:World) (i:Int) (t:Tok):(hX prog w).is (.inl i) (.int i t)=true:=S4 i t
theorem RX (prog:Program) (w:World) (x:Str) (t:Tok):(hX prog w).is (.inr x) (.str x t)=true:=S3 x t
inductive V where
 | cP | bV (b:Bool) | int (i:Int) | str (x:Str) | mT (b:Array UInt8) | qY (b:UInt64) | ref (a:Addr) | ty (n:String)
 deriving DecidableEq
def RelV:V→Value→Prop
 | .cP,u=>u=Value.none
 | .bV b,u=>u=Value.bool b
 | .int i,u=>∃t,u=Value.int i t
 | .str x,u=>∃t,u=Value.str x t
 | .mT b,u=>∃t,u=Value.bytes b t
 | .qY b,u=>∃t,u=Value.float b t
 | .ref a,u=>u=Value.ref a
 | .ty n,u=>u=Value.type n
abbrev Vals:List V→List Value→Prop:=Paired RelV
theorem Vals.length {xs:List V}{us:List Value}(r:Vals xs us):xs.length=us.length:=Paired.length r
theorem Vals.get:∀{xs:List V}{us:List Value}{i:Nat}{x:V},Vals xs us→xs[i]?=some x→∃u,us[i]?=some u∧RelV x u
 | _,_,_,_,.nil,e=>by simp at e
 | _,_,0,_,.cons r _,e=>by simp at e;subst e;exact⟨_,rfl,r⟩
 | _,_,i+1,x,.cons _ t,e=>by
  obtain⟨u,ak,az⟩:=Vals.get (i:=i) (x:=x) t (by simpa using e)
  exact⟨u,by simpa using ak,az⟩
theorem Vals.set {x:V}{u:Value}(r:RelV x u):∀{xs:List V}{us:List Value}(i:Nat),Vals xs us→Vals (xs.set i x) (us.set i u)
 | _,_,_,.nil=>.nil
 | _,_,0,.cons _ t=>.cons r t
 | _,_,i+1,.cons q t=>.cons q (Vals.set r i t)
theorem Vals.append:∀{xs ys:List V}{us ws:List Value},Vals xs us→Vals ys ws→Vals (xs++ys) (us++ws)
 | _,_,_,_,.nil,s=>s
 | _,_,_,_,.cons r t,s=>.cons r (Vals.append t s)
theorem Vals.take:∀{xs:List V}{us:List Value}(n:Nat),Vals xs us→Vals (xs.take n) (us.take n)
 | _,_,0,_=>.nil
 | _,_,_+1,.nil=>.nil
 | _,_,n+1,.cons r t=>.cons r (Vals.take n t)
theorem Vals.drop:∀{xs:List V}{us:List Value}(n:Nat),Vals xs us→Vals (xs.drop n) (us.drop n)
 | _,_,0,r=>r
 | _,_,_+1,.nil=>.nil
 | _,_,n+1,.cons _ t=>Vals.drop n t
def iU:Option V→Option Value→Prop
 | some v,some u=>RelV v u
 | none,none=>True
 | _,_=>False
def fX {κ:Type}:List (κ × V)→List (κ × Value)→Prop:=Paired fun (p:κ × V) (q:κ × Value)=>p.1=q.1∧RelV p.2 q.2
def eo:Key→V
 | .inl i=>.int i
 | .inr x=>.str x
inductive fp where
 | lst (xs:List V)
 | tup (xs:List V)
 | bS (kvs:List (Key × V)) | gJ (kvs:List (List Key × V))
 | set (S:Int→Bool) (n:Nat)
 | ins (C dx:Addr) (bP:List (Str × V))
 | own (x:Addr)
 | AI (bP:List (Str × V))
 | met (f x:Addr)
 | j6 (lo aL:Int)
 | jF (o:Obj) (u:fp)
 | qI (ps:Array Value)
 | ext (φ:Heap→Prop)
abbrev ao:=Addr→Option fp
def upd (H:ao) (a:Addr) (o:fp):ao:=fun b=>if b=a then some o else H b
theorem aR {H:ao}{a:Addr}{o:fp}:upd H a o a=some o:=by unfold upd;rw[if_pos rfl]
theorem aA {H:ao}{a b:Addr}{o:fp}(h:b≠a):upd H a o b=H b:=by unfold upd;rw[if_neg h]
theorem rv {H:ao}{a:Addr}{o u:fp}:upd (upd H a o) a u=upd H a u:=by
 funext b;unfold upd;split <;> rfl
theorem dv {H:ao}{a b:Addr}{o u:fp}(h:H a=some o) (h':H b=some u) (d:o≠u):a≠b:=by
 intro e;subst e;rw[h]at h';exact d (Option.some.inj h')
theorem cB {H:ao}{a b:Addr}{o:fp}(h:H a=some o) (h':H b=none):a≠b:=by
 intro e;subst e;rw[h]at h';cases h'
section
variable (P:Program) (w:World)
def fM (H:ao) (h:Heap) (a:Addr):fp→Prop
 | .lst xs=>xs.length≤sizeLine∧∃(its:List Value) (n:Nat),Vals xs its∧h.get? a=some { cls:=.type "list",data:=.seq its.toArray n }
 | .tup xs=>xs.length≤sizeLine∧∃its:List Value,Vals xs its∧IsTup h a its.toArray
 | .bS kvs=>kvs.length≤sizeLine∧(a == sysModules)=false∧∃vs,fX kvs vs∧h.DictOf (hX P w) a vs
 | .gJ kvs=>kvs.length≤sizeLine∧(a == sysModules)=false∧∃xs:List (List Key × Addr × Value),
   Paired (fun (p:List Key × V) (q:List Key × Addr × Value)=>p.1=q.1∧H q.2.1=some (.tup (p.1.map eo))∧RelV p.2 q.2.2) kvs xs ∧
   ∃o aB cp,h.get? a=some o∧o.ExactDict∧o.data=.dict aB cp∧aB.toList=xs.map (entryOfKey (tupleKind (hX P w)))∧(xs.map (·.1)).Nodup
 | .set S n=>h.SetOf (intKind P w) a S n
 | .ins C dx bP=>H dx=some (.own a)∧bP.length≤1000∧dx≠a∧h.get? a=some (instObj C dx) ∧
   ∃ei,h.Ns1 dx ei∧(∀f,iU (bP.lookup f) (ei f))∧PySem.Within ei (bP.map (·.1))
 | .own _=>∃o,h.get? a=some o
 | .AI bP=>∃ei,h.Ns1 a ei∧∀f,iU (bP.lookup f) (ei f)
 | .j6 lo aL=>∃t u v,h.get? a=some { cls:=.type "range",data:=.fields #[.int lo t,.int aL u,.int 1 v] }
 | .jF o u=>h.get? a=some o∧fM H h a u
 | .qI ps=>h.get? a=some { cls:=.none,data:=.fields ps }
 | .met f x=>h.get? a=some (PySem.W.methodObj (.ref f) (.ref x))
 | .ext φ=>φ h∧(∃o,h.get? a=some o)∧∀ak az:Heap,φ ak→(∀o,ak.get? a=some o→az.get? a=some o)→φ az
def e_ (H:ao) (h:Heap):Prop:=∀a o,H a=some o→fM P w H h a o
end
section
variable {P:Program}{w:World}{H af:ao}{h h':Heap}{a:Addr}{o:fp}
theorem fM.lt (x:fM P w H h a o):a<h.objs.size:=by
 cases o with
 | lst xs=>obtain⟨_,_,_,_,e⟩:=x;exact lt_size e
 | tup xs=>obtain⟨_,_,_,p⟩:=x;exact p.lt
 | bS kvs=>obtain⟨_,_,_,_,o,_,_,e,_⟩:=x;exact lt_size e
 | gJ kvs=>obtain⟨_,_,_,_,o,_,_,e,_⟩:=x;exact lt_size e
 | set S n=>obtain⟨o,_,_,_,e,_⟩:=x;exact lt_size e
 | ins C dx bP=>obtain⟨_,_,_,e,_⟩:=x;exact lt_size e
 | own y=>obtain⟨_,e⟩:=x;exact lt_size e
 | AI bP=>obtain⟨_,⟨_,_,_,e,_⟩,_⟩:=x;exact lt_size e
 | j6 lo aL=>obtain⟨_,_,_,e⟩:=x;exact lt_size e
 | jF bY u=>obtain⟨e,_⟩:=x;exact lt_size e
 | qI ps=>exact lt_size (show h.get? a=some _ from x)
 | met f y=>exact lt_size (show h.get? a=some _ from x)
 | ext φ=>obtain⟨_,⟨_,e⟩,_⟩:=x;exact lt_size e
theorem Paired.DW {α β:Type}{F G:α→β→Prop}:∀{QE:List α}{QD:List β},Paired F QE QD→(∀a b,F a b→G a b)→Paired G QE QD
 | _,_,.nil,_=>.nil
 | _,_,.cons r t,f=>.cons (f _ _ r) (Paired.DW t f)
theorem fM.j2 (x:fM P w H h a o) (k:∀b u,(b=a∨H b=some (.own a))→h.get? b=some u→h'.get? b=some u)
  (aC:∀b,H b=some (.own a)→af b=some (.own a)) (aZ:∀b xs,H b=some (.tup xs)→af b=some (.tup xs)):fM P w af h' a o:=by
 induction o with
 | lst xs=>obtain⟨z,its,n,r,e⟩:=x;exact⟨z,its,n,r,k _ _ (.inl rfl) e⟩
 | tup xs=>obtain⟨z,its,r,bY,e,c⟩:=x;exact⟨z,its,r,bY,k _ _ (.inl rfl) e,c⟩
 | bS kvs=>obtain⟨z,y,vs,r,bY,aB,cp,e,c⟩:=x;exact⟨z,y,vs,r,bY,aB,cp,k _ _ (.inl rfl) e,c⟩
 | gJ kvs =>
  obtain⟨z,y,xs,r,bY,aB,cp,e,c⟩:=x
  exact⟨z,y,xs,Paired.DW r fun p q z=>⟨z.1,aZ _ _ z.2.1,z.2.2⟩,bY,aB,cp,k _ _ (.inl rfl) e,c⟩
 | set S n=>obtain⟨bY,aB,cp,t,e,c⟩:=x;exact⟨bY,aB,cp,t,k _ _ (.inl rfl) e,c⟩
 | ins C dx bP =>
  obtain⟨d,z,ne,e,ei,⟨e8,aB,cp,aM,c⟩,r⟩:=x
  exact⟨aC _ d,z,ne,k _ _ (.inl rfl) e,ei,⟨e8,aB,cp,k _ _ (.inr d) aM,c⟩,r⟩
 | own y=>obtain⟨bY,e⟩:=x;exact⟨bY,k _ _ (.inl rfl) e⟩
 | AI bP=>obtain⟨ei,⟨e8,aB,cp,e,c⟩,r⟩:=x;exact⟨ei,⟨e8,aB,cp,k _ _ (.inl rfl) e,c⟩,r⟩
 | j6 lo aL=>obtain⟨t,u,v,e⟩:=x;exact⟨t,u,v,k _ _ (.inl rfl) e⟩
 | jF bY u cC=>obtain⟨e,q⟩:=x;exact⟨k _ _ (.inl rfl) e,cC q⟩
 | qI ps =>
  have e:h.get? a=some { cls:=.none,data:=.fields ps }:=x
  show h'.get? a=some { cls:=.none,data:=.fields ps }
  exact k a _ (.inl rfl) e
 | met f y =>
  have e:h.get? a=some (PySem.W.methodObj (.ref f) (.ref y)):=x
  show h'.get? a=some (PySem.W.methodObj (.ref f) (.ref y))
  exact k a _ (.inl rfl) e
 | ext φ=>obtain⟨p,⟨o,e⟩,st⟩:=x;exact⟨st _ _ p fun o q=>k _ _ (.inl rfl) q,⟨o,k _ _ (.inl rfl) e⟩,st⟩
theorem e_.lt (x:e_ P w H h) (e:H a=some o):a<h.objs.size:=(x a o e).lt
theorem e_.fresh (x:e_ P w H h) (e:h.objs.size≤a):H a=none:=by
 cases q:H a with
 | none=>rfl
 | some u=>exact absurd (lt_of_lt_of_le (x.lt q) e) (lt_irrefl _)
theorem e_.kept (x:e_ P w H h) (k:∀b u,h.get? b=some u→h'.get? b=some u):e_ P w H h':=fun a o e =>
 (x a o e).j2 (fun b u _ q=>k b u q) (fun _ q=>q) fun _ _ q=>q
theorem e_.laid (x:e_ P w H h) (k:∀b u,h.get? b=some u→h'.get? b=some u) (aF:h.objs.size≤a) (new:fM P w (upd H a o) h' a o):e_ P w (upd H a o) h':=fun b u e=>by
 have aP:=x.fresh aF
 by_cases aa:b=a
 ·subst aa;rw[aR]at e;cases e;exact new
 ·rw[aA aa]at e
  exact (x b u e).j2 (fun c v _ q=>k c v q) (fun c q=>by rw[aA (cB q aP)];exact q) fun c xs q=>by rw[aA (cB q aP)];exact q
end
def n_ (H:ao) (a:Addr) (u:fp):Prop:=H a=some u∨∃o,H a=some (.jF o u)
theorem n_.ok {P:Program}{w:World}{H:ao}{h:Heap}{a:Addr}{u:fp}(r:n_ H a u) (x:e_ P w H h):fM P w H h a u:=by
 rcases r with r | ⟨o,r⟩
 ·exact x a u r
 ·obtain⟨_,q⟩:=x a _ r
  exact q
def wV:Option fp→Prop
 | some (.lst _)=>True
 | some (.bS _)=>True
 | some (.gJ _)=>True
 | some (.set _ _)=>True
 | some (.ins _ _ _)=>True
 | some (.ext _)=>True
 | _=>False
section
variable {P:Program}{w:World}{H:ao}{h h':Heap}{x e:Addr}{fl:fp}
theorem e_.write (ok:e_ P w H h) (lA:wV (H x)) (he:e=x∨H e=some (.own x)) (k:∀b u,b≠e→h.get? b=some u→h'.get? b=some u) (qU:∃u,h'.get? e=some u)
  (new:fM P w (upd H x fl) h' x fl):e_ P w (upd H x fl) h':=fun b u q=>by
 have L0:∀c y,H c=some (.own y)→c≠x:=fun c y r z=>by subst z;rw[r]at lA;exact lA
 have XG:∀c xs,H c=some (.tup xs)→c≠x:=fun c xs r z=>by subst z;rw[r]at lA;exact lA
 by_cases aa:b=x
 ·subst aa;rw[aR]at q;cases q;exact new
 ·rw[aA aa]at q
  by_cases hbe:b=e
  ·have oY:H b=some (.own x):=by
    rcases he with z | z
    ·exact absurd (hbe.trans z) aa
    ·rw[hbe];exact z
   rw[q]at oY;cases oY
   obtain⟨v,aX⟩:=qU
   exact⟨v,by rw[hbe];exact aX⟩
  ·refine (ok b u q).j2 (fun c v ai r=>k c v ?_ r) (fun c r=>by rw[aA (L0 c b r)];exact r) fun c xs r=>by rw[aA (XG c xs r)];exact r
   rcases ai with rfl | ai
   ·exact hbe
   ·rintro rfl
    rcases he with z | z
    ·exact L0 c b ai z
    ·rw[ai]at z;cases z;exact aa rfl
end
structure hk (bP ex:List Addr) (H af:ao) (h h':Heap):Prop where
 keep:∀b o,h.get? b=some o→H b=none→b∉bP→b∉ex→h'.get? b=some o
 slot:∀b o,h.get? b=some o→H b=none→b∈bP→b∉ex→∃dz,h'.get? b=some { o with slots:=dz }
 free:∀b o,h.get? b=some o→H b=none→b∉ex→af b=none
 there:∀b o,h.get? b=some o→b∉ex→∃fl,h'.get? b=some fl
 pA:∀b xs,H b=some (.tup xs)→af b=some (.tup xs)
 oA:∀b o u,H b=some (.jF o u)→af b=some (.jF o u)
 pB:∀b ps,H b=some (.qI ps)→∃more,af b=some (.qI (ps++more))
section
variable {bP t8 ex ac1:List Addr}{H H1 ay:ao}{h ak az h':Heap}{a x e:Addr}{o:fp}
theorem hk.any (u:hk bP ex H H1 h ak) {b:Addr}{bY:Obj}(q:h.get? b=some bY) (n:H b=none) (bh:b∉ex):∃dz,ak.get? b=some { bY with slots:=dz }:=by
 by_cases aa:b∈bP
 ·exact u.slot b bY q n aa bh
 ·exact⟨bY.slots,u.keep b bY q n aa bh⟩
theorem hk.kept (k:∀b u,h.get? b=some u→h'.get? b=some u):hk bP ex H H h h' :=
 ⟨fun b bY q _ _ _=>k b bY q,fun b bY q _ _ _=>⟨bY.slots,k b bY q⟩,fun _ _ _ n _=>n,fun b bY q _=>⟨bY,k b bY q⟩,fun _ _ q=>q,fun _ _ _ q=>q,fun _ ps q=>⟨#[],by rw[q];simp⟩⟩
theorem hk.refl:hk bP ex H H h h:=hk.kept fun _ _ q=>q
theorem hk.laid (k:∀b u,h.get? b=some u→h'.get? b=some u) (aF:h.objs.size≤a) (aP:H a=none):hk bP ex H (upd H a o) h h' where
 keep:=fun b u q _ _ _=>k b u q
 slot:=fun b u q _ _ _=>⟨u.slots,k b u q⟩
 free:=fun b u q n _=>by rw[aA (ne_of_lt (lt_of_lt_of_le (lt_size q) aF))];exact n
 there:=fun b u q _=>⟨u,k b u q⟩
 pA:=fun b xs q=>by rw[aA (cB q aP)];exact q
 oA:=fun b u xs q=>by rw[aA (cB q aP)];exact q
 pB:=fun b ps q=>⟨#[],by rw[aA (cB q aP),q];simp⟩
theorem hk.write (lA:wV (H x)) (he:e=x∨H e=some (.own x)) (k:∀b u,b≠e→h.get? b=some u→h'.get? b=some u) (qU:∃u,h'.get? e=some u):hk bP ex H (upd H x o) h h':=by
 have bh:∀b,H b=none→b≠x:=fun b n z=>by subst z;rw[n]at lA;exact lA
 have aa:∀b,H b=none→b≠e:=fun b n z=>by
  subst z
  rcases he with r | r
  ·exact bh b n r
  ·rw[n]at r;cases r
 have hm:∀b u,H b=some u→¬wV (some u)→b≠x:=fun b u q nm z=>by subst z;rw[q]at lA;exact nm lA
 refine⟨fun b u q n _ _=>k b u (aa b n) q,fun b u q n _ _=>⟨u.slots,k b u (aa b n) q⟩,fun b u q n _=>by rw[aA (bh b n)];exact n,fun b u q _=>?_,
  fun b xs q=>by rw[aA (hm b _ q fun z=>z)];exact q,fun b u xs q=>by rw[aA (hm b _ q fun z=>z)];exact q,fun b ps q=>⟨#[],by rw[aA (hm b _ q fun z=>z),q];simp⟩⟩
 by_cases hbe:b=e
 ·subst hbe;exact qU
 ·exact⟨u,k b u hbe q⟩
end
def zV (h:Heap) (H:ao):List Addr:=(List.range h.objs.size).filter fun a=>(H a).isSome
def pG (h:Heap) (H:ao):Heap:=hideAll h (zV h H)
theorem S9 (h:Heap) (H:ao):(pG h H).objs.size=h.objs.size:=PySem.W.hideAll_size _ _
theorem Uq {h:Heap}{H:ao}{b:Addr}{o:Obj}(e:h.get? b=some o) (n:H b=none):(pG h H).get? b=some o :=
 PySem.W.hideAll_get _ e fun hm=>by
  have q:(H b).isSome=true:=(mem_filter.mp hm).2
  rw[n]at q;simp at q
theorem Va {h:Heap}{H:ao}{b:Addr}{o:Obj}(e:(pG h H).get? b=some o):h.get? b=some o∧H b=none:=by
 have cX:h.get? b=some o:=PySem.W.of_hideAll (zV h H) e
 refine⟨cX,?_⟩
 cases q:H b with
 | none=>rfl
 | some x =>
  have hm:b∈zV h H:=mem_filter.mpr ⟨List.mem_range.mpr (lt_size cX),by simp[q]⟩
  have z:(pG h H).get? b=none:=PySem.W.hideAll_none (zV h H) hm
  rw[z]at e;cases e
structure Mod (K:PySem.W.Frag) (mg:Str→Option Value) (base:Heap):Prop where
 tU:K.In base
 glob:base.Ns mainGlobals mg
 blt:∃m4,base.Ns builtinsNs m4∧∀x:Str,x≠"__name__"→m4 x=bootBuiltins x
 nolimit:base.NoLimit
structure bI where
 prog:Program
 w:World
 K:PySem.W.Frag
 mg:Str→Option Value
 base:Heap
 A:Around
 N:List Str
 fP:Shared
 xZ:ao
 env:Env
 outer:List Env
 stack:List Env
 ex:List Addr
 fn:Str→Bool
 calm:Bool
 bK:List (Addr × Obj)
 dN:Value→Shared→Prop
def gO (l:List Env):List Addr:=l.filterMap (·.frame)
abbrev bI.bP (X:bI):List Addr:=gO X.outer
def Ff (sc:Scope) (x:Str):Prop:=sc.names.lookup x=some .local∨sc.names.lookup x=some .cell∨sc.names.lookup x=some .free
def Loc (sc:Scope) (x:Str):Prop:=sc.names.lookup x=some .local∨sc.names.lookup x=some .cell
def Look (env:Env) (h:Heap) (m:Str→Option Value) (x:Str) (u:Value):Prop :=
 (env.kindOf x=some .local∧m x=some u)∨((env.kindOf x=some .cell∨env.kindOf x=some .free)∧∃c,env.cells.lookup x=some c∧h.IsCell c (some u))
structure bI.Ok (X:bI):Prop where
 mod:Mod X.K X.mg X.base
 kind:X.env.scope.kind=.function
 glob:X.env.globals=mainGlobals
 blt:X.env.builtins=builtinsNs
 above:X.fP.heap.objs.size≤X.env.locals
 inj:∀x y c,X.env.cells.lookup x=some c→X.env.cells.lookup y=some c→x=y
 has:∀x,(X.env.kindOf x=some .cell∨X.env.kindOf x=some .free)→∃c,X.env.cells.lookup x=some c
 pU:∀x c,X.fn x=true→X.env.cells.lookup x=some c→X.fP.heap.objs.size≤c
 hd:X.calm=true→X.A.handled=none
 frames:X.A.frames=some X.stack
 nC:X.stack=X.outer∨(X.stack=X.env::X.outer∧X.env.frame=some X.env.locals)
 pS:∀b∈X.ex,b≠X.env.locals∧∀x c,X.env.cells.lookup x=some c→c≠b
 bs:∀b o,X.base.get? b=some o→X.fP.heap.get? b=some o∧X.xZ b=none
 ll:X.base.objs.size≤X.fP.heap.objs.size
 nv:∀b o,X.base.get? b=some o→b∉X.ex
 qE:∀b∈X.ex,b∉X.bP
 j5:X.fP.heap.FunFrames X.base X.outer
 nN:∀b∈X.bP,X.xZ b=none
structure Inv (X:bI) (pins:List (Addr × Obj)) (σ:List (Option V)) (H:ao) (s:Shared):Prop where
 ok:X.Ok
 os:s.os=X.fP.os
 bare:AllBare s.gens
 base:hk X.bP X.ex X.xZ H X.fP.heap s.heap
 loc:∃m,s.heap.Ns X.env.locals m∧∀(i:Nat) (x:Str) (v:V),X.N[i]?=some x→σ[i]?=some (some v)→Ff X.env.scope x→∃u,RelV v u∧Look X.env s.heap m x u
 cell:∀x c,X.env.cells.lookup x=some c→∃v,s.heap.IsCell c v
 free:H X.env.locals=none
 jz:∀x c,X.env.cells.lookup x=some c→H c=none
 pin:∀p∈X.bK++pins,s.heap.get? p.1=some p.2∧H p.1=none∧p.1≠X.env.locals∧p.1∉X.bP∧∀v,p.2.data≠.cell v
 bG:e_ X.prog X.w H s.heap
 len:σ.length=X.N.length
section
variable {X:bI}{pins:List (Addr × Obj)}{σ:List (Option V)}{H af:ao}{s:Shared}{h':Heap}
theorem bI.Ok.XI (ok:X.Ok) {b:Addr}{o:Obj}(e:X.base.get? b=some o):b∉X.bP:=fun aa=>by
 have:=(ok.j5.mem aa).1
 rw[e]at this;cases this
theorem Inv.bs (I:Inv X pins σ H s):∀b o,X.base.get? b=some o→s.heap.get? b=some o∧H b=none:=fun b o e =>
 ⟨I.base.keep b o (I.ok.bs b o e).1 (I.ok.bs b o e).2 (I.ok.XI e) (I.ok.nv b o e),I.base.free b o (I.ok.bs b o e).1 (I.ok.bs b o e).2 (I.ok.nv b o e)⟩
theorem Inv.hp (I:Inv X pins σ H s):∀b o,X.base.get? b=some o→s.heap.get? b=some o:=fun b o e=>(I.bs b o e).1
theorem Inv.mod (I:Inv X pins σ H s):Mod X.K X.mg X.base:=I.ok.mod
theorem Inv.gN (I:Inv X pins σ H s):X.K.In s.heap:=I.ok.mod.tU.keeps I.hp
theorem Inv.lt (I:Inv X pins σ H s):X.env.locals<s.heap.objs.size:=let ⟨_,aP,_⟩:=I.loc;aP.lt
theorem Inv.e7 (I:Inv X pins σ H s):X.fP.heap.objs.size≤s.heap.objs.size:=le_trans I.ok.above (le_of_lt I.lt)
theorem Inv.XH (I:Inv X pins σ H s) {a:Addr}(h:s.heap.objs.size≤a):a∉X.bP:=fun aa=>by
 obtain⟨_,o,aC,_⟩:=I.ok.j5.mem aa
 exact absurd (lt_of_lt_of_le (lt_size aC) (le_trans I.e7 h)) (lt_irrefl _)
theorem Inv.r_ (I:Inv X pins σ H s):∀x c,X.env.cells.lookup x=some c→c≠X.env.locals:=fun x c e z=>by
 obtain⟨v,o,aC,hd⟩:=I.cell x c e
 obtain⟨m,⟨fl,aB,cp,nI,EW,_⟩,_⟩:=I.loc
 rw[z,nI]at aC;cases aC;rw[EW]at hd;cases hd
theorem Inv.j5 (I:Inv X pins σ H s):s.heap.FunFrames X.base X.outer:=by
 have all:∀(l:List Env),(∀b∈gO l,b∈X.bP)→X.fP.heap.FunFrames X.base l→s.heap.FunFrames X.base l:=by
  intro l
  induction l with
  | nil=>intro _ _;trivial
  | cons env r cC =>
   intro aY aE
   obtain⟨aS,⟨L,o,hf,aP,aC,hd⟩,aD⟩:=aE
   have eS:L∈X.bP:=aY L (by unfold gO;rw[List.filterMap_cons,hf];exact mem_cons_self)
   obtain⟨dz,e⟩:=I.base.slot L o aC (I.ok.nN L eS) eS fun z=>I.ok.qE L z eS
   exact⟨aS,⟨L,_,hf,aP,e,hd⟩,cC (fun b aa=>aY b (by unfold gO;rw[List.filterMap_cons,hf];exact mem_cons_of_mem _ aa)) aD⟩
 exact all X.outer (fun _ aa=>aa) I.ok.j5
theorem Inv.stack (I:Inv X pins σ H s):s.heap.FunFrames X.base X.stack:=by
 rcases I.ok.nC with e | ⟨e,hf⟩
 ·rw[e];exact I.j5
 ·rw[e]
  obtain⟨m,aP,_⟩:=I.loc
  refine .cons (by rw[I.ok.kind];decide) hf aP ?_ I.j5
  exact Heap.get?_none_of_le (le_trans I.ok.ll I.ok.above)
theorem Inv.tn (I:Inv X pins σ H s):∀b∈gO X.stack,b∈X.env.locals::X.bP:=fun b aa=>by
 rcases I.ok.nC with e | ⟨e,hf⟩
 ·rw[e]at aa;exact mem_cons_of_mem _ aa
 ·rw[e]at aa
  unfold gO at aa
  rw[List.filterMap_cons,hf]at aa
  exact aa
theorem Inv.u4 (I:Inv X pins σ H s):∀b∈gO X.stack,H b=none:=fun b aa=>by
 rcases mem_cons.mp (I.tn b aa) with e | aa
 ·rw[e];exact I.free
 ·obtain⟨_,o,aC,_⟩:=I.ok.j5.mem aa
  exact I.base.free b o aC (I.ok.nN b aa) fun z=>I.ok.qE b z aa
theorem Inv.step {g':Array GenState}{t':Nat}{d':Drawn}{ch:List Addr}(I:Inv X pins σ H s)
  (kI:∀b∈ch,(b∈X.ex∨X.fP.heap.objs.size≤b)∧b≠X.env.locals∧(∀x c,X.env.cells.lookup x=some c→c≠b)∧∀p∈X.bK++pins,p.1≠b)
  (keep:∀b o,b≠X.env.locals→b∉X.bP→b∉ch→s.heap.get? b=some o→H b=none→h'.get? b=some o)
  (slot:∀b o,b≠X.env.locals→b∈X.bP→b∉ch→s.heap.get? b=some o→H b=none→∃dz,h'.get? b=some { o with slots:=dz }) (free:∀b o,b∉ch→s.heap.get? b=some o→H b=none→af b=none)
  (there:∀b o,b∉ch→s.heap.get? b=some o→∃fl,h'.get? b=some fl)
  (pA:∀b xs,H b=some (.tup xs)→af b=some (.tup xs)) (oA:∀b o u,H b=some (.jF o u)→af b=some (.jF o u)) (pB:∀b ps,H b=some (.qI ps)→∃more,af b=some (.qI (ps++more)))
  (ns:∀m,s.heap.Ns X.env.locals m→h'.Ns X.env.locals m) (bG:e_ X.prog X.w af h') (cF:AllBare g') :
  Inv X pins σ af { s with heap:=h',gens:=g',drawn:=d',toks:=t' }:=by
 have z_:∀b o,X.fP.heap.get? b=some o→b≠X.env.locals:=fun b o e=>ne_of_lt (lt_of_lt_of_le (lt_size e) I.ok.above)
 have Aa:∀b o,X.fP.heap.get? b=some o→b∉X.ex→b∉ch:=fun b o e bh aa=>by
  rcases (kI b aa).1 with z | z
  ·exact bh z
  ·exact absurd (lt_of_lt_of_le (lt_size e) z) (lt_irrefl _)
 have cellK:∀x c,X.env.cells.lookup x=some c→∀v,s.heap.IsCell c v→h'.IsCell c v:=fun x c e v ⟨o,aC,hd⟩=>by
  have mO:c∉ch:=fun z=>(kI c z).2.2.1 x c e rfl
  by_cases ai:c∈X.bP
  ·obtain⟨dz,q⟩:=slot c o (I.r_ x c e) ai mO aC (I.jz x c e)
   exact⟨_,q,hd⟩
  ·exact⟨o,keep c o (I.r_ x c e) ai mO aC (I.jz x c e),hd⟩
 refine⟨I.ok,I.os,cF,⟨fun b o e n aa bh=>?_,fun b o e n aa bh=>?_,fun b o e n bh=>?_,fun b o e bh=>?_,fun b xs e=>pA b xs (I.base.pA b xs e),fun b o xs e=>oA b o xs (I.base.oA b o xs e),fun b ps e=>?_⟩,?_,fun x c e=>?_,?_,fun x c e=>?_,fun p aF=>?_,bG,I.len⟩
 ·exact keep b o (z_ b o e) aa (Aa b o e bh) (I.base.keep b o e n aa bh) (I.base.free b o e n bh)
 ·obtain⟨dz,aH⟩:=I.base.slot b o e n aa bh
  obtain⟨D9,aM⟩:=slot b _ (z_ b o e) aa (Aa b o e bh) aH (I.base.free b o e n bh)
  exact⟨D9,aM⟩
 ·obtain⟨fl,aH⟩:=I.base.there b o e bh
  exact free b fl (Aa b o e bh) aH (I.base.free b o e n bh)
 ·obtain⟨fl,aH⟩:=I.base.there b o e bh
  exact there b fl (Aa b o e bh) aH
 ·obtain⟨cn,aH⟩:=I.base.pB b ps e
  obtain⟨cu,aM⟩:=pB b _ aH
  exact⟨cn++cu,by rw[aM,Array.append_assoc]⟩
 ·obtain⟨m,aP,aE⟩:=I.loc
  refine⟨m,ns m aP,fun i x v aH aM bT=>?_⟩
  obtain⟨u,r,l⟩:=aE i x v aH aM bT
  refine⟨u,r,?_⟩
  rcases l with l | ⟨k,c,e,z⟩
  ·exact .inl l
  ·exact .inr ⟨k,c,e,cellK x c e _ z⟩
 ·obtain⟨v,z⟩:=I.cell x c e
  exact⟨v,cellK x c e v z⟩
 ·obtain⟨m,⟨o,_,_,aC,_⟩,_⟩:=I.loc
  exact free _ o (fun z=>(kI _ z).2.1 rfl) aC I.free
 ·obtain⟨v,o,aC,hd⟩:=I.cell x c e
  exact free c o (fun z=>(kI c z).2.2.1 x c e rfl) aC (I.jz x c e)
 ·obtain⟨e,n,ne,kP,d⟩:=I.pin p aF
  have mO:p.1∉ch:=fun z=>(kI p.1 z).2.2.2 p aF rfl
  exact⟨keep p.1 p.2 ne kP mO e n,free p.1 p.2 mO e n,ne,kP,d⟩
theorem Inv.un {t':Nat}(I:Inv X pins σ H s) (u:hk X.bP [] H af s.heap h') (bG:e_ X.prog X.w af h'):Inv X pins σ af { s with heap:=h',toks:=t' }:=by
 obtain⟨m,⟨o,aB,cp,aC,r⟩,_⟩:=id I.loc
 obtain⟨dz,eS⟩:=u.any aC I.free (by simp)
 exact I.step (g':=s.gens) (d':=s.drawn) (ch:=[]) (fun _ z=>nomatch z) (fun b o _ aa _ e n=>u.keep b o e n aa (by simp)) (fun b o _ aa _ e n=>u.slot b o e n aa (by simp)) (fun b o _ e n=>u.free b o e n (by simp)) (fun b o _ e=>u.there b o e (by simp)) u.pA u.oA u.pB (fun fG hm=>by
  obtain⟨fl,wL,E9,nI,fR⟩:=hm
  rw[aC]at nI;cases nI
  exact⟨_,wL,E9,eS,fR⟩) bG I.bare
theorem Inv.call {g':Array GenState}{t':Nat}{d':Drawn}{ch:List Addr}(I:Inv X pins σ H s) (u:hk (gO X.stack) ch H af s.heap h') (bG:e_ X.prog X.w af h') (cF:AllBare g')
  (kI:∀b∈ch,(b∈X.ex∨X.fP.heap.objs.size≤b)∧b≠X.env.locals∧(∀x c,X.env.cells.lookup x=some c→c≠b)∧∀p∈X.bK++pins,p.1≠b) :
  Inv X pins σ af { s with heap:=h',gens:=g',drawn:=d',toks:=t' }:=by
 obtain⟨m,⟨o,aB,cp,aC,r⟩,_⟩:=id I.loc
 obtain⟨dz,eS⟩:=u.any aC I.free fun z=>(kI _ z).2.1 rfl
 exact I.step (ch:=ch) kI (fun b o eS aa ai e n=>u.keep b o e n (fun z=>(mem_cons.mp (I.tn b z)).elim eS aa) ai) (fun b o _ _ ai e n=>u.any e n ai) (fun b o ai e n=>u.free b o e n ai) (fun b o ai e=>u.there b o e ai) u.pA u.oA u.pB (fun fG hm=>by
  obtain⟨fl,wL,E9,nI,fR⟩:=hm
  rw[aC]at nI;cases nI
  exact⟨_,wL,E9,eS,fR⟩) bG cF
theorem Inv.turned {t':Nat}{it:Addr}(I:Inv X pins σ H s) (k:∀b o,b≠it→s.heap.get? b=some o→h'.get? b=some o) (aP:H it=none) (eS:it≠X.env.locals)
  (ak:it∈X.ex∨X.fP.heap.objs.size≤it) (az:∀x c,X.env.cells.lookup x=some c→c≠it) (cz:∀p∈X.bK++pins,p.1≠it):Inv X pins σ H { s with heap:=h',toks:=t' }:=by
 have z9:∀b u,H b=some u→b≠it:=fun b u e z=>by rw[z,aP]at e;cases e
 refine I.step (g':=s.gens) (d':=s.drawn) (ch:=[it]) (fun b aa=>?_) (fun b o _ _ ai e _=>k b o (fun z=>ai (by simp[z])) e) (fun b o _ _ ai e _=>⟨o.slots,k b o (fun z=>ai (by simp[z])) e⟩) (fun _ _ _ _ n=>n)
  (fun b o ai e=>⟨o,k b o (fun z=>ai (by simp[z])) e⟩) (fun _ _ e=>e) (fun _ _ _ e=>e) (fun b ps e=>⟨#[],by rw[e];simp⟩) (fun m hm=>?_) (fun b u e=>?_) I.bare
 ·have e:b=it:=by simpa using aa
  subst e
  exact⟨ak,eS,az,cz⟩
 ·obtain⟨o,aB,cp,aC,r⟩:=hm
  exact⟨o,aB,cp,k _ o (Ne.symm eS) aC,r⟩
 ·refine (I.bG b u e).j2 (fun c v ai q=>k c v ?_ q) (fun _ q=>q) fun _ _ q=>q
  rcases ai with z | z
  ·rw[z];exact z9 b u e
  ·exact z9 c _ z
theorem Inv.tok (I:Inv X pins σ H s) (t:Nat):Inv X pins σ H { s with toks:=t }:=I.un (h':=s.heap) (t':=t) hk.refl I.bG
theorem Inv.kept {t':Nat}(I:Inv X pins σ H s) (k:∀b u,s.heap.get? b=some u→h'.get? b=some u):Inv X pins σ H { s with heap:=h',toks:=t' }:=I.un (hk.kept k) (I.bG.kept k)
theorem Inv.laid {a:Addr}{o:fp}{t':Nat}(I:Inv X pins σ H s) (k:∀b u,s.heap.get? b=some u→h'.get? b=some u) (aF:s.heap.objs.size≤a) (new:fM X.prog X.w (upd H a o) h' a o) :
  Inv X pins σ (upd H a o) { s with heap:=h',toks:=t' }:=I.un (hk.laid k aF (I.bG.fresh aF)) (I.bG.laid k aF new)
theorem Inv.write {x e:Addr}{o:fp}{t':Nat}(I:Inv X pins σ H s) (lA:wV (H x)) (he:e=x∨H e=some (.own x)) (k:∀b u,b≠e→s.heap.get? b=some u→h'.get? b=some u) (qU:∃u,h'.get? e=some u)
  (new:fM X.prog X.w (upd H x o) h' x o):Inv X pins σ (upd H x o) { s with heap:=h',toks:=t' }:=I.un (hk.write lA he k qU) (I.bG.write lA he k qU new)
theorem Inv.JV {K6:List (Addr × Obj)}(I:Inv X pins σ H s) (h:∀p∈K6,s.heap.get? p.1=some p.2∧H p.1=none∧p.1≠X.env.locals∧p.1∉X.bP∧∀v,p.2.data≠.cell v):Inv X K6 σ H s :=
 ⟨I.ok,I.os,I.bare,I.base,I.loc,I.cell,I.free,I.jz,fun p aF=>(mem_append.mp aF).elim (fun z=>I.pin p (mem_append_left _ z)) (h p),I.bG,I.len⟩
theorem Jh {N:List Str}(f_:N.Nodup) {i j:Nat}{x:Str}(a:N[i]?=some x) (b:N[j]?=some x):i=j:=by
 obtain⟨ak,aH⟩:=List.getElem?_eq_some_iff.mp a
 obtain⟨az,aM⟩:=List.getElem?_eq_some_iff.mp b
 exact (List.getElem_inj f_).mp (aH.trans aM.symm)
theorem BK {M:Model}{A:Around}{E:Value→Shared→Prop}{i:Nat}{x:Str}{v:V}{u:Value}{Q:Unit→Shared→Prop}(I:Inv X pins σ H s) (f_:X.N.Nodup) (aL:X.N[i]?=some x) (bh:Loc X.env.scope x) (r:RelV v u)
  (h:∀aJ,Inv X pins (σ.set i (some v)) H aJ→(∃a,Heap.SameBut a s.heap aJ.heap∧(a=X.env.locals∨X.env.cells.lookup x=some a))→Q () aJ) (hf:X.fn x=true∨X.env.scope.names.lookup x=some .local:=by first | exact .inl rfl | exact .inr rfl | assumption):wpAny M A (storeName X.env x u) Q E s:=by
 obtain⟨m,aP,aE⟩:=id I.loc
 have X8:(X.env.scope.kind == .class || (X.env.scope.kind == .module && X.env.locals != X.env.globals))=false:=by rw[I.ok.kind];rfl
 have Ox:i<σ.length:=by rw[I.len];exact (List.getElem?_eq_some_iff.mp aL).1
 have r_:=I.r_
 have tracked:∀{a:Addr} {h':Heap},(∃o,s.heap.get? a=some o∧H a=none)→Heap.SameBut a s.heap h'→e_ X.prog X.w H h':=fun {a h'} bk aY b bY e=>by
  obtain⟨_,_,kA⟩:=bk
  refine (I.bG b bY e).j2 (fun c en ai q=>(aY.2 c ?_).trans q) (fun _ q=>q) fun _ _ q=>q
  rintro rfl
  rcases ai with rfl | ai
  ·rw[kA]at e;cases e
  ·rw[kA]at ai;cases ai
 rcases bh with aS | aS
 ·refine wpAny_storeName_local aS aP (fun h' ZF aY=>?_) X8
  obtain⟨Gm,_,_,Zw,_⟩:=id aP
  refine h _ ⟨I.ok,I.os,I.bare,⟨fun b o e n aa bh=>?_,fun b o e n aa bh=>?_,I.base.free,fun b o e bh=>?_,I.base.pA,I.base.oA,I.base.pB⟩,⟨_,ZF,fun j y l0 aH aM bT=>?_⟩,fun y c e=>?_,I.free,I.jz,fun p aF=>?_,tracked ⟨Gm,Zw,I.free⟩ aY,by simpa using I.len⟩ ⟨_,aY,.inl rfl⟩
  ·exact (aY.2 b (ne_of_lt (lt_of_lt_of_le (lt_size e) I.ok.above))).trans (I.base.keep b o e n aa bh)
  ·obtain⟨dz,aH⟩:=I.base.slot b o e n aa bh
   exact⟨dz,(aY.2 b (ne_of_lt (lt_of_lt_of_le (lt_size e) I.ok.above))).trans aH⟩
  ·obtain⟨fl,aH⟩:=I.base.there b o e bh
   exact⟨fl,(aY.2 b (ne_of_lt (lt_of_lt_of_le (lt_size e) I.ok.above))).trans aH⟩
  ·by_cases di:j=i
   ·subst di
    rw[aL]at aH;cases aH
    rw[getElem?_set_self Ox]at aM
    cases aM
    exact⟨u,r,.inl ⟨aS,by simp⟩⟩
   ·rw[getElem?_set_ne (Ne.symm di)]at aM
    obtain⟨oV,fR,q⟩:=aE j y l0 aH aM bT
    refine⟨oV,fR,?_⟩
    rcases q with ⟨k,e⟩ | ⟨k,c,e,z⟩
    ·refine .inl ⟨k,?_⟩
     have:y≠x:=fun e=>di (Jh f_ aH (e ▸ aL))
     simp[this,e]
    ·exact .inr ⟨k,c,e,z.sameBut aY (r_ y c e)⟩
  ·obtain⟨en,z⟩:=I.cell y c e
   exact⟨en,z.sameBut aY (r_ y c e)⟩
  ·obtain⟨e,n,ne,kP,d⟩:=I.pin p aF
   exact⟨(aY.2 p.1 ne).trans e,n,ne,kP,d⟩
 ·have EV:X.fn x=true:=by
   rcases hf with z | z
   ·exact z
   ·rw[z]at aS;cases aS
  obtain⟨c,ai⟩:=I.ok.has x (.inl aS)
  obtain⟨en,z⟩:=I.cell x c ai
  refine wpAny_storeName_cell I.ok.kind aS ai z (fun h' OH aY=>?_)
  obtain⟨m1,Ot,XZ⟩:=id z
  refine h { s with heap:=h' } ⟨I.ok,I.os,I.bare,⟨fun b o e n aa bh=>?_,fun b o e n aa bh=>?_,I.base.free,fun b o e bh=>?_,I.base.pA,I.base.oA,I.base.pB⟩,⟨m,aP.sameBut aY (Ne.symm (r_ x c ai)),fun j y l0 aH aM bT=>?_⟩,fun y fJ e=>?_,I.free,I.jz,fun p aF=>?_,tracked ⟨m1,Ot,I.jz x c ai⟩ aY,by simpa using I.len⟩ ⟨c,aY,.inr ai⟩
  ·exact (aY.2 b (ne_of_lt (lt_of_lt_of_le (lt_size e) (I.ok.pU x c EV ai)))).trans (I.base.keep b o e n aa bh)
  ·obtain⟨dz,aH⟩:=I.base.slot b o e n aa bh
   exact⟨dz,(aY.2 b (ne_of_lt (lt_of_lt_of_le (lt_size e) (I.ok.pU x c EV ai)))).trans aH⟩
  ·obtain⟨fl,aH⟩:=I.base.there b o e bh
   exact⟨fl,(aY.2 b (ne_of_lt (lt_of_lt_of_le (lt_size e) (I.ok.pU x c EV ai)))).trans aH⟩
  ·by_cases di:j=i
   ·subst di
    rw[aL]at aH;cases aH
    rw[getElem?_set_self Ox]at aM
    cases aM
    exact⟨u,r,.inr ⟨.inl aS,c,ai,OH⟩⟩
   ·rw[getElem?_set_ne (Ne.symm di)]at aM
    obtain⟨oV,fR,q⟩:=aE j y l0 aH aM bT
    refine⟨oV,fR,?_⟩
    rcases q with q | ⟨k,fJ,e,iX⟩
    ·exact .inl q
    ·refine .inr ⟨k,fJ,e,iX.sameBut aY ?_⟩
     rintro rfl
     exact di (Jh f_ aH (I.ok.inj _ _ _ e ai ▸ aL))
  ·by_cases OF:fJ=c
   ·subst OF;exact⟨_,OH⟩
   ·obtain⟨eB,dW⟩:=I.cell y fJ e
    exact⟨eB,dW.sameBut aY OF⟩
  ·obtain⟨e,n,ne,kP,d⟩:=I.pin p aF
   refine⟨(aY.2 p.1 ?_).trans e,n,ne,kP,d⟩
   intro q
   rw[q,Ot]at e
   have oY:m1=p.2:=Option.some.inj e
   exact d en (by rw[←oY];exact XZ)
theorem I6 {M:Model}{A:Around}{E:Value→Shared→Prop}{i:Nat}{x:Str}{v:V}{u:Value}{Q:Unit→Shared→Prop}(I:Inv X pins σ H s) (f_:X.N.Nodup) (aL:X.N[i]?=some x) (bh:Loc X.env.scope x) (r:RelV v u)
  (h:∀aJ,Inv X pins (σ.set i (some v)) H aJ→Q () aJ) (hf:X.fn x=true∨X.env.scope.names.lookup x=some .local:=by first | exact .inl rfl | exact .inr rfl | assumption):wpAny M A (storeName X.env x u) Q E s :=
 BK I f_ aL bh r (fun aJ fo _=>h aJ fo) hf
theorem Inv.zl {aJ:Shared}{ch:List Addr}(I:Inv X pins σ H s) (aC:aJ.os=s.os) (u:hk (gO X.stack) ch H af s.heap aJ.heap) (bG:e_ X.prog X.w af aJ.heap) (cF:AllBare aJ.gens)
  (kI:∀b∈ch,(b∈X.ex∨X.fP.heap.objs.size≤b)∧b≠X.env.locals∧(∀x c,X.env.cells.lookup x=some c→c≠b)∧∀p∈X.bK++pins,p.1≠b):Inv X pins σ af aJ:=by
 obtain⟨h',g',d',t',fl⟩:=aJ
 have e:fl=s.os:=aC
 subst e
 exact I.call (g':=g') (t':=t') (d':=d') u bG cF kI
end
abbrev hj:=Value→Option Addr→ao→Prop
abbrev St:=List (Option V)
abbrev cD:=V→ao→Prop
abbrev TE:=St→ao→cD→Prop
abbrev TT:=St→ao→(Bool→ao→Prop)→Prop
abbrev iK:=St→ao→(List V→ao→Prop)→Prop
structure Ends where
 da:St→ao→Prop
 l3:cD
 hp:St→ao→Prop:=fun _ _=>False
 fc:St→ao→Prop:=fun _ _=>False
abbrev fW:=Ends→St→ao→Prop
def hr (X:bI) (pins:List (Addr × Obj)) (σ:St) (Q:cD) (u:Value) (aJ:Shared):Prop:=∃v af,Inv X pins σ af aJ∧RelV v u∧Q v af
def Q9 (X:bI) (pins:List (Addr × Obj)) (σ:St) (Q:Bool→ao→Prop) (b:Bool) (aJ:Shared):Prop:=∃af,Inv X pins σ af aJ∧Q b af
def ab7 (X:bI) (pins:List (Addr × Obj)) (σ:St) (Q:List V→ao→Prop) (us:List Value) (aJ:Shared):Prop:=∃vs af,Inv X pins σ af aJ∧Vals vs us∧Q vs af
def qc (X:bI) (pins:List (Addr × Obj)) (D:Ends) (f:Flow) (aJ:Shared):Prop :=
 match f with
 | .next=>∃bA af,Inv X pins bA af aJ∧D.da bA af
 | .brk=>∃bA af,Inv X pins bA af aJ∧D.hp bA af
 | .cont=>∃bA af,Inv X pins bA af aJ∧D.fc bA af
 | .ret u=>∃v bA af,Inv X pins bA af aJ∧RelV v u∧D.l3 v af
def b9 (X:bI) (e:Expr) (t:TE):Prop :=
 ∀(pins:List (Addr × Obj)) (s:Shared) (σ:St) (H:ao) (Q:cD),Inv X pins σ H s→t σ H Q→wpAny (model X.prog X.w) X.A (eval e X.env) (hr X pins σ Q) X.dN s
def gQ (X:bI) (e:Expr) (t:TT):Prop :=
 ∀(pins:List (Addr × Obj)) (s:Shared) (σ:St) (H:ao) (Q:Bool→ao→Prop),Inv X pins σ H s→t σ H Q→wpAny (model X.prog X.w) X.A (isTrue e X.env (eval e X.env)) (Q9 X pins σ Q) X.dN s
def rj (X:bI) (e:Expr) (t:TT):Prop :=
 ∀(whole:Sem Value) (pins:List (Addr × Obj)) (s:Shared) (σ:St) (H:ao) (Q:Bool→ao→Prop),Inv X pins σ H s→t σ H Q→wpAny (model X.prog X.w) X.A (isTrue e X.env whole) (Q9 X pins σ Q) X.dN s
theorem rj.pt {X:bI}{e:Expr}{t:TT}(h:rj X e t):gQ X e t:=h _
def mh (X:bI) (aB:List Expr) (t:iK):Prop :=
 ∀(pos:Pos) (pins:List (Addr × Obj)) (s:Shared) (σ:St) (H:ao) (Q:List V→ao→Prop),Inv X pins σ H s→t σ H Q→wpAny (model X.prog X.w) X.A (spliced (backTo pos (starEach aB X.env))) (ab7 X pins σ Q) X.dN s
def kp (X:bI) (st:Stmt) (t:fW):Prop :=
 ∀(pins:List (Addr × Obj)) (s:Shared) (σ:St) (H:ao) (D:Ends),Inv X pins σ H s→t D σ H→wpAny (model X.prog X.w) X.A (exec st X.env) (qc X pins D) X.dN s
def hC (X:bI) (st:List Stmt) (t:fW):Prop :=
 ∀(pins:List (Addr × Obj)) (s:Shared) (σ:St) (H:ao) (D:Ends),Inv X pins σ H s→t D σ H→wpAny (model X.prog X.w) X.A (execs st X.env) (qc X pins D) X.dN s
theorem bU {α:Type}{t:Sem α}{Q uE:α→Shared→Prop}{M:Model}{A:Around}{E:Value→Shared→Prop}{s:Shared}(h:wpAny M A t Q E s) (p6:∀a s,Q a s→uE a s):wpAny M A t uE E s:=wpAny_mono h p6 fun _ _ x=>x
section
variable {X:bI}
theorem bin {a b:Expr}{dh dG:TE}(bk:b9 X a dh) (aa:b9 X b dG) {pins:List (Addr × Obj)}{s:Shared}{σ:St}{H:ao}{R:V→V→ao→Prop}(I:Inv X pins σ H s) (h:dh σ H fun x H1=>dG σ H1 fun y ay=>R x y ay)
  {α:Type} {Q:α→Shared→Prop} {f:Value→Value→Sem α}
  (hf:∀v u s2 x y ay,Inv X pins σ ay s2→RelV x v→RelV y u→R x y ay→wpAny (model X.prog X.w) X.A (f v u) Q X.dN s2) :
  wpAny (model X.prog X.w) X.A (eval a X.env) (fun v dn=>wpAny (model X.prog X.w) X.A (eval b X.env) (fun u iB=>wpAny (model X.prog X.w) X.A (f v u) Q X.dN iB) X.dN dn) X.dN s:=by
 refine bU (bk pins s σ H _ I h) fun v s1 ⟨x,H1,a3,bz,bx⟩=>?_
 refine bU (aa pins s1 σ H1 _ a3 bx) fun u s2 ⟨y,ay,cL,b3,aW⟩=>?_
 exact hf v u s2 x y ay cL bz b3 aW
def Lw (i:Nat):TE:=fun σ H Q=>∃v,σ[i]?=some (some v)∧Q v H
def AN (v:V):TE:=fun _ H Q=>Q v H
theorem VL {i:Nat}{x:Str}{pos:Pos}(f_:X.N[i]?=some x) (aX:Ff X.env.scope x) (hd:(x == ("__debug__":Str))=false:=by decide) (k_:(x == ("__classdict__":Str))=false:=by decide):b9 X (.Name x pos) (Lw i):=by
 intro pins s σ H Q I h
 obtain⟨v,e,h⟩:=h
 obtain⟨m,aP,aE⟩:=I.loc
 obtain⟨u,r,l⟩:=aE i x v f_ e aX
 have fin:hr X pins σ Q u s:=⟨v,H,I,r,h⟩
 rcases l with ⟨aS,hm⟩ | ⟨aS,c,ai,ow⟩
 ·exact wpAny_Name (wpAny_loadName_local I.ok.kind aS aP hm fin) hd
 ·rcases aS with aS | aS
  ·exact wpAny_Name (wpAny_loadName_cell I.ok.kind aS ai ow fin) hd
  ·exact wpAny_Name (wpAny_loadName_free I.ok.kind aS ai ow fin k_) hd
theorem aV {i j pos}:b9 X (.Constant (.int i) j pos) (AN (.int i)):=fun _ _ _ H _ I h=>wpAny_Constant_int ⟨.int i,H,I.tok _,⟨_,rfl⟩,h⟩
theorem ir {b j pos}:b9 X (.Constant (.bool b) j pos) (AN (.bV b)):=fun _ _ _ H _ I h=>Constant_bool ⟨.bV b,H,I,rfl,h⟩
theorem bB {x j pos}:b9 X (.Constant (.str x) j pos) (AN (.str x)):=fun _ _ _ H _ I h=>Calls.Constant_str ⟨.str x,H,I.tok _,⟨_,rfl⟩,h⟩
def lK (X:bI) (x:Str):Prop:=X.env.kindOf x=some .globalImplicit
theorem yP {E:Value→Shared→Prop}{pins:List (Addr × Obj)}{s:Shared}{σ:St}{H:ao}{x:Str}{u:Value}{pos:Pos}{Q:Value→Shared→Prop}(I:Inv X pins σ H s) (cF:lK X x) (hm:X.mg x=some u) (h:Q u s)
  (hd:(x == ("__debug__":Str))=false:=by decide):wpAny (model X.prog X.w) X.A (eval (.Name x pos) X.env) Q E s :=
 Calls.Name_function_global I.ok.kind cF (Calls.loadGlobal_global (by rw[I.ok.glob];exact I.mod.glob.keeps I.hp) hm h) hd
theorem qv {E:Value→Shared→Prop}{pins:List (Addr × Obj)}{s:Shared}{σ:St}{H:ao}{x:Str}{u:Value}{pos:Pos}{Q:Value→Shared→Prop}(I:Inv X pins σ H s) (cF:lK X x) (hm:X.mg x=none) (aX:bootBuiltins x=some u) (h:Q u s)
  (aP:x≠"__name__":=by decide) (hd:(x == ("__debug__":Str))=false:=by decide):wpAny (model X.prog X.w) X.A (eval (.Name x pos) X.env) Q E s:=by
 obtain⟨m4,ak,az⟩:=I.mod.blt
 exact Calls.Name_function_global I.ok.kind cF (Calls.loadGlobal_builtin (by rw[I.ok.glob];exact I.mod.glob.keeps I.hp) hm (by rw[I.ok.blt];exact ak.keeps I.hp) ((az x aP).trans aX) h) hd
theorem iP {x:Str}{v:V}{u:Value}{pos:Pos}(cF:lK X x) (hm:X.mg x=none) (aX:bootBuiltins x=some u) (r:RelV v u) (aP:x≠"__name__":=by decide) (hd:(x == ("__debug__":Str))=false:=by decide):b9 X (.Name x pos) (AN v) :=
 fun _ _ _ H _ I h=>qv I cF hm aX ⟨v,H,I,r,h⟩ aP hd
variable {a b:Expr}{dh dG:TE}{pos:Pos}
def GV (X:bI) (op:CmpOp) (a b:Expr) (t:TE):Prop :=
 ∀(pins:List (Addr × Obj)) (s:Shared) (σ:St) (H:ao) (Q:cD),Inv X pins σ H s→t σ H Q →
  wpAny (model X.prog X.w) X.A (eval a X.env) (fun v dn=>wpAny (model X.prog X.w) X.A (eval b X.env) (fun u iB=>wpAny (model X.prog X.w) X.A (compareOp op v u) (hr X pins σ Q) X.dN iB) X.dN dn) X.dN s
def Qs (t:TE):TT:=fun σ H Q=>t σ H fun x H1=>∃c,x=.bV c∧Q c H1
theorem tp {op:CmpOp}{t:TE}(h:GV X op a b t) (ak:behindInMarks op b=false:=by first | exact ace _ (by decide) (by decide) | rfl):gQ X (.Compare a [op] [b] pos) (Qs t):=by
 intro pins s σ H Q I hw
 refine wpAny_isTrue_Compare1 (bU (h pins s σ H _ I hw) fun v s1 ak=>bU ak fun u s2 az=>bU az fun c s3 ⟨x,H1,a3,bz,bx⟩=>?_) ak
 obtain⟨d,rfl,q⟩:=bx
 cases bz
 exact wpAny_truthy_bool ⟨H1,a3,q⟩
theorem g8 {e:Expr}{t:TE}(h:b9 X e t) (he:∀whole,isTrue e X.env whole=(do let v ← whole;standAt e.pos;holding [v] (truthy v)):=by intro _;rfl):gQ X e (Qs t):=by
 intro pins s σ H Q I hw
 refine isTrue_plain (bU (h pins s σ H _ I hw) fun v s1 ⟨x,H1,a3,bz,bx⟩=>?_) (he _)
 obtain⟨d,rfl,q⟩:=bx
 cases bz
 exact wpAny_truthy_bool ⟨H1,a3,q⟩
variable {kM pJ:TT}{rest:List Expr}
def Lz (t u:TT):TT:=fun σ H Q=>t σ H fun c H1=>if c=true then u σ H1 Q else Q false H1
def zW (t u:TT):TT:=fun σ H Q=>t σ H fun c H1=>if c=true then Q true H1 else u σ H1 Q
def W8 (t:TT):TT:=fun σ H Q=>t σ H fun c H1=>Q (!c) H1
theorem pw_and1 (bk:gQ X a kM):rj X (.BoolOp .And [a] pos) kM:=by
 intro w7 pins s σ H Q I h
 refine isTrue_and (bU (bk pins s σ H Q I h) fun c s1 e=>?_)
 cases c with
 | true=>exact isTrue_and_nil e
 | false=>exact e
theorem pw_or1 (bk:gQ X a kM):rj X (.BoolOp .Or [a] pos) kM:=by
 intro w7 pins s σ H Q I h
 refine isTrue_or (bU (bk pins s σ H Q I h) fun c s1 e=>?_)
 cases c with
 | false=>exact isTrue_or_nil e
 | true=>exact e
theorem pw_and (bk:gQ X a kM) (aa:rj X (.BoolOp .And (b::rest) pos) pJ):rj X (.BoolOp .And (a::b::rest) pos) (Lz kM pJ):=by
 intro w7 pins s σ H Q I h
 refine isTrue_and (bU (bk pins s σ H _ I h) fun c s1 ⟨H1,a3,bx⟩=>?_)
 cases c with
 | true=>exact aa w7 pins s1 σ H1 Q a3 bx
 | false=>exact⟨H1,a3,bx⟩
theorem pw_or (bk:gQ X a kM) (aa:rj X (.BoolOp .Or (b::rest) pos) pJ):rj X (.BoolOp .Or (a::b::rest) pos) (zW kM pJ):=by
 intro w7 pins s σ H Q I h
 refine isTrue_or (bU (bk pins s σ H _ I h) fun c s1 ⟨H1,a3,bx⟩=>?_)
 cases c with
 | true=>exact⟨H1,a3,bx⟩
 | false=>exact aa w7 pins s1 σ H1 Q a3 bx
theorem jb (bk:gQ X a kM):gQ X (.UnaryOp .Not a pos) (W8 kM):=by
 intro pins s σ H Q I h
 exact isTrue_not (bk pins s σ H (fun c H1=>Q (!c) H1) I h)
def Wu (dh dG:TE):TE:=fun σ H Q=>dh σ H fun x H1=>∃c,x=.bV c∧if c=true then dG σ H1 Q else Q (.bV false) H1
def Wk (dh:TE):TE:=fun σ H Q=>dh σ H fun x H1=>∃c,x=.bV c∧Q (.bV (!c)) H1
theorem qu {op} {t:TE}(h:b9 X a t):b9 X (.BoolOp op [a] pos) t:=fun pins s σ H Q I hw=>BoolOp_one (h pins s σ H Q I hw)
theorem mD (bk:b9 X a dh) (aa:b9 X (.BoolOp .And (b::rest) pos) dG):b9 X (.BoolOp .And (a::b::rest) pos) (Wu dh dG):=by
 intro pins s σ H Q I h
 refine BoolOp_and (bU (bk pins s σ H _ I h) fun v s1 ⟨x,H1,a3,bz,bx⟩=>?_)
 obtain⟨c,rfl,bx⟩:=bx
 cases bz
 refine wpAny_truthy_bool ?_
 cases c with
 | true=>exact aa pins s1 σ H1 Q a3 bx
 | false=>exact⟨.bV false,H1,a3,rfl,bx⟩
theorem KJ (bk:b9 X a dh):b9 X (.UnaryOp .Not a pos) (Wk dh):=by
 intro pins s σ H Q I h
 refine UnaryOp_ (bU (bk pins s σ H _ I h) fun v s1 ⟨x,H1,a3,bz,bx⟩=>?_)
 obtain⟨c,rfl,bx⟩:=bx
 cases bz
 exact not_of (wpAny_truthy_bool ⟨.bV (!c),H1,a3,rfl,bx⟩)
end
def aO (K:PySem.W.Frag) (H:ao) (a:Addr) (xs:List V):Prop :=
 n_ H a (.lst xs) ∨
  ∃(o:Obj) (its:Array Value) (n:Nat),K.lookup a=some o∧o.cls=.type "list"∧o.dict=none∧o.data=.seq its n∧its.size≤sizeLine∧Vals xs its.toList
def aG (K:PySem.W.Frag) (H:ao) (a:Addr) (xs:List V):Prop :=
 n_ H a (.tup xs) ∨
  ∃(o:Obj) (its:Array Value) (n:Nat),K.lookup a=some o∧o.cls=.type "tuple"∧o.data=.seq its n∧its.size≤sizeLine∧Vals xs its.toList
def Yd:Value→Option V
 | .none=>some .cP
 | .bool b=>some (.bV b)
 | .int i _=>some (.int i)
 | .str x _=>some (.str x)
 | .bytes b _=>some (.mT b)
 | .float b _=>some (.qY b)
 | .ref a=>some (.ref a)
 | .type n=>some (.ty n)
 | _=>none
theorem RelV.abs {x:V}{u:Value}(r:RelV x u):Yd u=some x:=by
 cases x with
 | cP=>cases r;rfl
 | bV _=>cases r;rfl
 | int _=>obtain⟨t,rfl⟩:=r;rfl
 | str _=>obtain⟨t,rfl⟩:=r;rfl
 | mT _=>obtain⟨t,rfl⟩:=r;rfl
 | qY _=>obtain⟨t,rfl⟩:=r;rfl
 | ref _=>cases r;rfl
 | ty _=>cases r;rfl
theorem RelV.inj {x y:V}{u:Value}(r:RelV x u) (q:RelV y u):x=y:=Option.some.inj (r.abs.symm.trans q.abs)
theorem Vals.inj:∀{xs ys:List V}{us:List Value},Vals xs us→Vals ys us→xs=ys
 | _,_,_,.nil,.nil=>rfl
 | _,_,_,.cons r t,.cons fR t'=>by rw[r.inj fR,Vals.inj t t']
section
variable {X:bI}{pins:List (Addr × Obj)}{σ:St}{H:ao}{s:Shared}{a:Addr}{xs ys:List V}
theorem aO.of {K:PySem.W.Frag}(h:H a=some (.lst xs)):aO K H a xs:=.inl (.inl h)
theorem aG.of {K:PySem.W.Frag}(h:H a=some (.tup xs)):aG K H a xs:=.inl (.inl h)
theorem Inv.list (I:Inv X pins σ H s) (h:aO X.K H a xs):∃its:List Value,Vals xs its∧PlainL s.heap a its.toArray∧xs.length≤sizeLine:=by
 rcases h with h | ⟨o,its,n,aS,ai,hd,aY,hz,r⟩
 ·obtain⟨z,its,n,r,e⟩:=h.ok I.bG
  exact⟨its,r,⟨_,n,e,rfl,rfl,rfl⟩,z⟩
 ·refine⟨its.toList,r,⟨o,n,I.gN a o aS,ai,hd,by simpa using aY⟩,?_⟩
  have e:=r.length
  simp only[Array.length_toList]at e
  omega
theorem Inv.tuple (I:Inv X pins σ H s) (h:aG X.K H a xs):∃its:List Value,Vals xs its∧IsTup s.heap a its.toArray∧xs.length≤sizeLine:=by
 rcases h with h | ⟨o,its,n,aS,ai,aY,hz,r⟩
 ·obtain⟨z,its,r,p⟩:=h.ok I.bG
  exact⟨its,r,p,z⟩
 ·refine⟨its.toList,r,⟨o,I.gN a o aS,ai,n,by simpa using aY⟩,?_⟩
  have e:=r.length
  simp only[Array.length_toList]at e
  omega
theorem Inv.B5 (I:Inv X pins σ H s) (h:aO X.K H a xs) (h':aO X.K H a ys):xs=ys:=by
 obtain⟨its,r,⟨o,n,e,_,_,d⟩,_⟩:=I.list h
 obtain⟨its',fR,⟨fl,jP,cX,_,_,d'⟩,_⟩:=I.list h'
 rw[e]at cX;cases cX
 rw[d]at d'
 injection d' with fV _
 have:its=its':=by simpa using congrArg Array.toList fV
 subst this
 exact r.inj fR
theorem Inv.Su (I:Inv X pins σ H s) (h:aG X.K H a xs) (h':aG X.K H a ys):xs=ys:=by
 obtain⟨its,r,⟨o,e,_,n,d⟩,_⟩:=I.tuple h
 obtain⟨its',fR,⟨fl,cX,_,jP,d'⟩,_⟩:=I.tuple h'
 rw[e]at cX;cases cX
 rw[d]at d'
 injection d' with fV _
 have:its=its':=by simpa using congrArg Array.toList fV
 subst this
 exact r.inj fR
end
abbrev bI.mF (X:bI) (E:Value→Shared→Prop):bI:={ X with dN:=E }
abbrev bI.mK (X:bI):bI:=X.mF fun _ _=>False
theorem bI.Ok.mF {X:bI}(ok:X.Ok) (E:Value→Shared→Prop):(X.mF E).Ok :=
 ⟨ok.mod,ok.kind,ok.glob,ok.blt,ok.above,ok.inj,ok.has,ok.pU,ok.hd,ok.frames,ok.nC,ok.pS,ok.bs,ok.ll,ok.nv,ok.qE,ok.j5,ok.nN⟩
theorem bI.Ok.pk {X:bI}{E:Value→Shared→Prop}(ok:(X.mF E).Ok):X.Ok :=
 ⟨ok.mod,ok.kind,ok.glob,ok.blt,ok.above,ok.inj,ok.has,ok.pU,ok.hd,ok.frames,ok.nC,ok.pS,ok.bs,ok.ll,ok.nv,ok.qE,ok.j5,ok.nN⟩
section
variable {X:bI}{pins:List (Addr × Obj)}{σ:St}{H:ao}{s:Shared}{E:Value→Shared→Prop}
theorem Inv.mF (I:Inv X pins σ H s) (E:Value→Shared→Prop):Inv (X.mF E) pins σ H s:=⟨I.ok.mF E,I.os,I.bare,I.base,I.loc,I.cell,I.free,I.jz,I.pin,I.bG,I.len⟩
theorem Inv.pk (I:Inv (X.mF E) pins σ H s):Inv X pins σ H s:=⟨I.ok.pk,I.os,I.bare,I.base,I.loc,I.cell,I.free,I.jz,I.pin,I.bG,I.len⟩
theorem qc.pk {D:Ends}{f:Flow}{aJ:Shared}(h:qc (X.mF E) pins D f aJ):qc X pins D f aJ:=by
 cases f with
 | next=>obtain⟨bA,af,I,q⟩:=h;exact⟨bA,af,I.pk,q⟩
 | brk=>obtain⟨bA,af,I,q⟩:=h;exact⟨bA,af,I.pk,q⟩
 | cont=>obtain⟨bA,af,I,q⟩:=h;exact⟨bA,af,I.pk,q⟩
 | ret u=>obtain⟨v,bA,af,I,r,q⟩:=h;exact⟨v,bA,af,I.pk,r,q⟩
theorem hC.mK {st:List Stmt}{t:fW}(h:hC X.mK st t):hC X st t:=fun pins s σ H D I hw =>
 wpAny_mono (h pins s σ H D (I.mF _) hw) (fun _ _ q=>q.pk) fun _ _ z=>False.elim z
end
section
variable {X:bI}{st:Stmt}{rest:List Stmt}{t u:fW}{e:Expr}{b2:TE}{pos:Pos}
def Wl:fW:=fun D σ H=>D.da σ H
def W6 (t u:fW):fW:=fun D σ H=>t { D with da:=u D } σ H
theorem dk:hC X [] Wl:=fun _ _ σ H _ I h=>wpAny_execs_nil ⟨σ,H,I,h⟩
theorem bq (ak:kp X st t) (az:hC X rest u):hC X (st::rest) (W6 t u):=by
 intro pins s σ H D I h
 refine wpAny_execs_cons (bU (ak pins s σ H { D with da:=u D } I h) fun f s1 q=>?_)
 cases f with
 | next =>
  obtain⟨bA,af,fo,q⟩:=q
  exact az pins s1 bA af D fo q
 | ret v=>exact q
 | brk=>exact q
 | cont=>exact q
theorem bg (ak:kp X st t):hC X [st] t:=by
 intro pins s σ H D I h
 refine wpAny_execs_cons (bU (ak pins s σ H D I h) fun f s1 q=>?_)
 cases f with
 | next=>exact wpAny_execs_nil q
 | ret v=>exact q
 | brk=>exact q
 | cont=>exact q
theorem Inv.quiet {pins:List (Addr × Obj)}{σ:St}{H:ao}{s:Shared}(I:Inv X pins σ H s):interactive X.env=false:=by simp[interactive,I.ok.kind]
def Wn (b2:TE):fW:=fun D σ H=>b2 σ H fun _ H1=>D.da σ H1
theorem dH (he:b9 X e b2) (aY:swapsWith e none pos.line X.env=pure false:=by rfl):kp X (.Expr e pos) (Wn b2):=by
 intro pins s σ H D I h
 exact wpAny_Expr_any (bU (he pins s σ H _ I h) fun v s1 ⟨x,H1,a3,bz,bx⟩=>⟨σ,H1,a3,bx⟩) I.quiet aY
def W7 (b2:TE):fW:=fun D σ H=>b2 σ H D.l3
theorem c_ (he:b9 X e b2):kp X (.Return (some e) pos) (W7 b2):=by
 intro pins s σ H D I h
 exact wpAny_Return_some (bU (he pins s σ H _ I h) fun v s1 ⟨x,H1,a3,bz,bx⟩=>⟨x,σ,H1,a3,bz,bx⟩)
def W_ (c:TT) (t u:fW):fW:=fun D σ H=>c σ H fun b H1=>if b=true then t D σ H1 else u D σ H1
theorem cI {c:Expr}{a b:List Stmt}{oW:TT}(ai:gQ X c oW) (bk:hC X a t) (aa:hC X b u):kp X (.If c a b pos) (W_ oW t u):=by
 intro pins s σ H D I h
 refine wpAny_If (bU (ai pins s σ H _ I h) fun d s1 ⟨H1,a3,bx⟩=>?_)
 cases d with
 | true=>exact bk pins s1 σ H1 D a3 bx
 | false=>exact aa pins s1 σ H1 D a3 bx
end
abbrev h_:=V→St→ao→(St→ao→Prop)→Prop
abbrev q3:=List V→St→ao→(St→ao→Prop)→Prop
def o8 (X:bI) (target:Expr) (t:h_):Prop :=
 ∀(pins:List (Addr × Obj)) (s:Shared) (σ:St) (H:ao) (v:V) (u:Value) (Q:St→ao→Prop),Inv X pins σ H s→RelV v u→t v σ H Q →
  wpAny (model X.prog X.w) X.A (assign target X.env u) (fun _ aJ=>∃bA af,Inv X pins bA af aJ∧Q bA af) X.dN s
def wU (X:bI) (aQ:List Expr) (t:q3):Prop :=
 ∀(pins:List (Addr × Obj)) (s:Shared) (σ:St) (H:ao) (vs:List V) (us:List Value) (Q:St→ao→Prop),Inv X pins σ H s→Vals vs us→t vs σ H Q →
  wpAny (model X.prog X.w) X.A (assignInOrder ((assignEach aQ X.env).map (·.2)) us) (fun _ aJ=>∃bA af,Inv X pins bA af aJ∧Q bA af) X.dN s
abbrev D3:=V→V→V→ao→(ao→Prop)→Prop
def Mm (X:bI) (t:D3):Prop :=
 ∀(pins:List (Addr × Obj)) (s:Shared) (σ:St) (H:ao) (o i v:V) (b0 i1 u:Value) (Q:ao→Prop),Inv X pins σ H s→RelV o b0→RelV i i1→RelV v u→t o i v H Q →
  wpAny (model X.prog X.w) X.A (setItem b0 i1 u) (fun _ aJ=>∃af,Inv X pins σ af aJ∧Q af) X.dN s
section
variable {X:bI}{pos:Pos}
def vv (i:Nat):h_:=fun v σ H Q=>Q (σ.set i (some v)) H
theorem ff {i:Nat}{x:Str}(f_:X.N.Nodup) (aL:X.N[i]?=some x) (bh:Loc X.env.scope x) (hf:X.fn x=true∨X.env.scope.names.lookup x=some .local:=by first | exact .inl rfl | exact .inr rfl | assumption):o8 X (.Name x pos) (vv i):=by
 intro pins s σ H v u Q I r h
 exact wpAny_assign_Name (I6 I f_ aL bh r (fun aJ fo=>⟨_,H,fo,h⟩) hf)
def Mg:q3:=fun vs σ H Q=>vs=[]∧Q σ H
def DB (t:h_) (u:q3):q3:=fun vs σ H Q=>∃v r,vs=v::r∧t v σ H fun bA af=>u r bA af Q
theorem pd:wU X [] Mg:=by
 intro pins s σ H vs us Q I r h
 obtain⟨e,h⟩:=h
 subst e
 cases r
 exact assignInOrder_nil ⟨σ,H,I,h⟩
theorem ja {e:Expr}{aB:List Expr}{t:h_}{u:q3}(ak:o8 X e t) (az:wU X aB u)
  (aY:(assignEach (e::aB) X.env).map (·.2)=assign e X.env::(assignEach aB X.env).map (·.2):=by rfl):wU X (e::aB) (DB t u):=by
 intro pins s σ H vs us Q I r h
 obtain⟨v,adW,aH,h⟩:=h
 subst aH
 cases r with
 | cons r p0 =>
  rw[aY]
  refine assignInOrder_cons (bU (ak pins s σ H _ _ _ I r h) fun _ s1 ⟨jH,H1,a3,bx⟩=>?_)
  exact az pins s1 jH H1 _ _ Q a3 p0 bx
def D1 (K:PySem.W.Frag) (n:Nat) (t:q3):h_:=fun v σ H Q=>∃a xs,v=.ref a∧aG K H a xs∧xs.length=n∧t xs σ H Q
theorem pq {aB:List Expr}{k:Nat}{t:q3}{n:Nat}(ai:X.calm=true) (h:wU X aB t)
  (aP:(assignEach aB X.env).length=n:=by rfl) (iz:(assignEach aB X.env).findIdx? (·.1)=none:=by rfl):o8 X (.Tuple aB k pos) (D1 X.K n t):=by
 intro pins s σ H v u Q I r hw
 obtain⟨a,xs,aH,bo,aE,hw⟩:=hw
 subst aH
 cases r
 obtain⟨its,bL,aZ,hz⟩:=I.tuple bo
 refine assign_Tuple_tuple (I.ok.hd ai) aZ (by simp[aP,←aE,bL.length]) iz fun h' bh=>?_
 have a3:Inv X pins σ H { s with heap:=h' }:=I.kept (t':=s.toks) fun b o e=>bh b o (ne_of_lt (lt_size e)) e
 exact h pins _ σ H xs _ Q a3 (by simpa using bL) hw
def X9 (to AL:TE) (t:D3):h_:=fun v σ H Q=>to σ H fun o H1=>AL σ H1 fun i ay=>t o i v ay fun aT=>Q σ aT
theorem rB {o i:Expr}{to AL:TE}{t:D3}(aC:b9 X o to) (aL:b9 X i AL) (aY:Mm X t)
  (bk:∀v,assign (.Subscript o i pos) X.env v=(do
   let b0 ← holding [v] (eval o X.env)
   let i1 ← holding [v,b0] (eval i X.env)
   standAt pos
   holding [v,b0,i1] (setItem b0 i1 v)
   release [v,b0,i1] []):=by intro _;rfl):o8 X (.Subscript o i pos) (X9 to AL t):=by
 intro pins s σ H v u Q I r h
 rw[bk]
 refine wpAny_bind (wpAny_holding (bU (aC pins s σ H _ I h) fun b0 s1 ⟨x,H1,a3,bz,bx⟩=>?_))
 refine wpAny_bind (wpAny_holding (bU (aL pins s1 σ H1 _ a3 bx) fun i1 s2 ⟨y,ay,cL,b3,aW⟩=>?_))
 refine wpAny_bind (wpAny_standAt (wpAny_bind (wpAny_holding (bU (aY pins s2 σ ay x y v b0 i1 u _ cL bz b3 r aW) fun _ s3 ⟨aT,cA,fE⟩=>?_))))
 exact wpAny_release ⟨σ,aT,cA,fE⟩
def Ly (b2:TE) (g:h_):fW:=fun D σ H=>b2 σ H fun x H1=>g x σ H1 D.da
theorem oq {er e:Expr}{b2:TE}{g:h_}(he:b9 X e b2) (cF:o8 X er g) (aY:swapsWithSole [er] e pos.line X.env=pure false:=by rfl) (hw:swappedStores [er] e X.env=pure none:=by rfl)
  (ak:(assignEach [er] X.env).map (·.2)=[assign er X.env]:=by rfl):kp X (.Assign [er] e pos) (Ly b2 g):=by
 intro pins s σ H D I h
 refine wpAny_Assign_stores (bU (he pins s σ H _ I h) fun v s1 ⟨x,H1,a3,bz,bx⟩=>?_) aY hw
 rw[ak]
 exact bU (cF pins s1 σ H1 x v _ a3 bz bx) fun _ s2 q=>q
theorem dc {i:Nat}{x:Str}{e:Expr}{b2:TE}{pos':Pos}(f_:X.N.Nodup) (aL:X.N[i]?=some x) (bh:Loc X.env.scope x) (he:b9 X e b2) (aY:swapsWith e (some (.Name x pos')) pos.line X.env=pure false:=by rfl) (hf:X.fn x=true∨X.env.scope.names.lookup x=some .local:=by first | exact .inl rfl | exact .inr rfl | assumption) :
  kp X (.Assign [.Name x pos'] e pos) (Ly b2 (vv i)):=by
 intro pins s σ H D I h
 refine wpAny_Assign_Name (bU (he pins s σ H _ I h) fun v s1 ⟨y,H1,a3,bz,bx⟩=>?_) aY
 exact I6 a3 f_ aL bh bz (fun s2 cL=>⟨_,H1,cL,bx⟩) hf
end
section
variable {X:bI}{pos:Pos}
def Vs (c:TT) (dG:fW):fW:=fun D σ H=>∃W:Nat→St→ao→Prop,(∃m,W m σ H)∧∀m σ H,W m σ H →
 c σ H fun b H1=>if b=true then ∃N:St→ao→Prop,(∀bA af,N bA af→∃fG,fG<m∧W fG bA af)∧dG { D with da:=N,fc:=N,hp:=D.da } σ H1 else D.da σ H1
theorem TN {c:Expr}{body:List Stmt}{oW:TT}{dG:fW}(aF:PassesOwn (model X.prog X.w) X.A X.env X.dN) (ai:gQ X c oW) (aa:hC X body dG):kp X (.While c body [] pos) (Vs oW dG):=by
 intro pins s σ H D I h
 obtain⟨W,⟨m0,pY⟩,turn⟩:=h
 refine wpAny_While (codeAny_whileLoop (fun n aJ=>∃bA af,Inv X pins bA af aJ∧W n bA af) ?_ m0 ⟨σ,H,I,pY⟩)
 rintro n s1 ⟨jH,H1,a3,e6⟩
 refine wpAny_passesOwn aF (bU (ai pins s1 jH H1 _ a3 (turn n jH H1 e6)) fun b s2 ⟨ay,cL,aW⟩=>?_)
 cases b with
 | true =>
  obtain⟨N,f_,aW⟩:=aW
  rw[if_pos rfl]
  refine wpAny_passesOwn aF (bU (aa pins s2 jH ay _ cL aW) fun f s3 fE=>?_)
  cases f with
  | next =>
   obtain⟨nT,aT,cA,eO⟩:=fE
   obtain⟨fG,hm,jk⟩:=f_ nT aT eO
   exact⟨fG,hm,nT,aT,cA,jk⟩
  | cont =>
   obtain⟨nT,aT,cA,eO⟩:=fE
   obtain⟨fG,hm,jk⟩:=f_ nT aT eO
   exact⟨fG,hm,nT,aT,cA,jk⟩
  | brk=>exact fE
  | ret v=>exact fE
 | false =>
  rw[if_neg Bool.false_ne_true]
  exact wpAny_execs_nil ⟨jH,ay,cL,aW⟩
end
structure jW where
 go:Nat→ao→Prop
 nB:Nat→ao→V→ao→Prop
 stop:Nat→ao→Prop
def lQ (X:bI) (pins:List (Addr × Obj)) (H:ao) (b:Addr):Prop :=
 H b=none∧b≠X.env.locals∧b∉X.bP∧(b∈X.ex∨X.fP.heap.objs.size≤b)∧(∀x c,X.env.cells.lookup x=some c→c≠b)∧∀p∈X.bK++pins,p.1≠b
theorem Inv.rS {X:bI}{pins:List (Addr × Obj)}{σ:St}{H af:ao}{s:Shared}{b:Addr}(I:Inv X pins σ H s) (aa:s.heap.objs.size≤b) (aP:af b=none):lQ X pins af b:=by
 refine⟨aP,ne_of_gt (lt_of_lt_of_le I.lt aa),I.XH aa,.inr (le_trans I.e7 aa),fun x c e z=>?_,fun p aF z=>?_⟩
 ·obtain⟨v,q⟩:=I.cell x c e
  exact absurd (lt_of_lt_of_le q.lt (by rw[z];exact aa)) (lt_irrefl _)
 ·exact absurd (lt_of_lt_of_le (lt_size (I.pin p aF).1) (by rw[z];exact aa)) (lt_irrefl _)
structure Turn (P:Program) (w:World) (K:PySem.W.Frag) (er:Expr) (J:jW) (bJ:List Addr) (it:Addr) (ek:Nat→Heap→Prop):Prop where
 mem:it∈bJ
 obj:∀i h,ek i h→∀b∈bJ,∃o,h.get? b=some o∧∀v,o.data≠.cell v
 keep:∀i h h',ek i h→(∀b∈bJ,∀o,h.get? b=some o→h'.get? b=some o)→ek i h'
 item:∀(X:bI),X.prog=P→X.w=w→X.K=K→X.calm=true→∀(i:Nat) (pins:List (Addr × Obj)) (s:Shared) (σ:St) (H:ao) (E:Value→Shared→Prop),Inv X pins σ H s→(∀b∈bJ,lQ X pins H b)→ek i s.heap→J.go i H →
  wpAny (model P w) X.A (pyNext (.ref it)) (fun r s1=>∃u,r=some u ∧
   wpAny (model P w) X.A (letOwnedTupleGo er (.ref it) u) (fun _ s2=>∃x af,Inv X pins σ af s2∧RelV x u∧J.nB i H x af∧ek (i+1) s2.heap∧∀b∈bJ,af b=none) E s1) E s
 done:∀(X:bI),X.prog=P→X.w=w→X.K=K→X.calm=true→∀(i:Nat) (pins:List (Addr × Obj)) (s:Shared) (σ:St) (H:ao) (E:Value→Shared→Prop),Inv X pins σ H s→(∀b∈bJ,lQ X pins H b)→ek i s.heap→J.stop i H →
  wpAny (model P w) X.A (pyNext (.ref it)) (fun r s1=>r=none∧Inv X pins σ H s1) E s
 self:∀(A:Around) (i:Nat) (s:Shared) (Q:Value→Shared→Prop) (E:Value→Shared→Prop),ek i s.heap→Q (.ref it) s→wpAny (model P w) A (pyIter (.ref it)) Q E s
abbrev TI:=St→ao→(jW→ao→Prop)→Prop
def P1 (X:bI) (pins:List (Addr × Obj)) (σ:St) (er:Expr) (R:jW→ao→Prop) (tV:Value) (s2:Shared):Prop :=
 ∃(it:Addr) (bJ:List Addr) (ek:Nat→Heap→Prop) (J:jW) (af:ao),tV=.ref it∧Inv X pins σ af s2∧Turn X.prog X.w X.K er J bJ it ek∧ek 0 s2.heap∧(∀b∈bJ,lQ X pins af b)∧R J af
def o7 (X:bI) (er iter:Expr) (gh:TI):Prop :=
 ∀(pins:List (Addr × Obj)) (s:Shared) (σ:St) (H:ao) (R:jW→ao→Prop),Inv X pins σ H s→gh σ H R →
  wpAny (model X.prog X.w) X.A (eval iter X.env) (fun v s1=>wpAny (model X.prog X.w) X.A (pyIter v) (P1 X pins σ er R) X.dN s1) X.dN s
theorem zj {M:Model}{A:Around}{E:Value→Shared→Prop}{s:Shared}{er:Expr}{it:Addr}{u:Value}{o:Obj}{n:String}{vs:Array Value}{Q:Unit→Shared→Prop}(aC:s.heap.get? it=some o) (ai:o.cls=.type n) (hd:o.data=.fields vs)
  (aP:["enumerate","zip","dict_itemiterator","dict_reverseitemiterator","odict_iterator","itertools.zip_longest","itertools.pairwise"].contains n=false) (p6:Q () s):wpAny M A (letOwnedTupleGo er (.ref it) u) Q E s:=by
 unfold letOwnedTupleGo
 cases er <;> first
  | exact wpAny_pure p6
  | (cases u <;> first
    | exact wpAny_pure p6
    | (refine wpAny_bind (wpAny_load aC ?_);rw[ai,hd];show wpAny M A (if (["enumerate","zip","dict_itemiterator","dict_reverseitemiterator","odict_iterator","itertools.zip_longest","itertools.pairwise"].contains n && vs[0]? == some (rawInt _))=true then _ else _) Q E s;rw[if_neg (by intro h;rw[aP,Bool.false_and]at h;cases h)];exact wpAny_pure p6))
def oS (K:PySem.W.Frag) (a:Addr):jW :=
 ⟨fun i H=>∃xs x,aO K H a xs∧xs[i]?=some x,fun i H x af=>af=H∧∀xs,aO K H a xs→xs[i]?=some x,fun i H=>∃xs,aO K H a xs∧xs.length≤i⟩
def wZ (K:PySem.W.Frag) (a:Addr):jW :=
 ⟨fun i H=>∃xs x,aG K H a xs∧xs[i]?=some x,fun i H x af=>af=H∧∀xs,aG K H a xs→xs[i]?=some x,fun i H=>∃xs,aG K H a xs∧xs.length≤i⟩
def sd (lo:Int) (n:Nat):jW:=⟨fun i _=>i<n,fun i H x af=>af=H∧x=.int (lo+i),fun i _=>n≤i⟩
theorem Sq {P:Program}{w:World}{K:PySem.W.Frag}{er:Expr}(a it:Addr):Turn P w K er (oS K a) [it] it (fun i h=>h.IsListIter it a i) where
 mem:=by simp
 obj:=fun i h st b aa=>by
  have e:b=it:=by simpa using aa
  subst e
  obtain⟨o,e,c,d⟩:=st
  exact⟨o,e,fun v z=>by rw[d]at z;cases z⟩
 keep:=fun i h h' st k=>st.at fun o e=>k it (by simp) o e
 item:=by
  intro X gP hw hK ai i pins s σ H E I hf st cF
  subst gP hw hK
  obtain⟨xs,x,bo,bh⟩:=cF
  obtain⟨its,bL,p,hz⟩:=I.list bo
  obtain⟨u,bf,eF⟩:=bL.get bh
  obtain⟨f0,f1,f2,fy,f4,gk⟩:=hf it (by simp)
  refine wpAny_pyNext_list_item st p.isList (x:=u) (by simpa using bf) fun h' gK jJ=>?_
  have a3:Inv X pins σ H { s with heap:=h' }:=I.turned (t':=s.toks) (fun b o aa e=>(jJ.2 b aa).trans e) f0 f1 fy f4 gk
  obtain⟨o,e,c,d⟩:=id gK
  exact⟨u,rfl,zj (s:={ s with heap:=h' }) e c d (by decide) ⟨x,H,a3,eF,⟨rfl,fun ys ck=>by rw[I.B5 ck bo];exact bh⟩,gK,fun b aa=>(hf b aa).1⟩⟩
 done:=by
  intro X gP hw hK ai i pins s σ H E I hf st cF
  subst gP hw hK
  obtain⟨xs,bo,bh⟩:=cF
  obtain⟨its,bL,p,hz⟩:=I.list bo
  obtain⟨f0,f1,f2,fy,f4,gk⟩:=hf it (by simp)
  have aE:=bL.length
  exact wpAny_pyNext_list_end (I.ok.hd ai) st p.isList (by simp;omega) fun h' ea=>⟨rfl,I.turned (t':=s.toks) (fun b o aa e=>ea b o aa e) f0 f1 fy f4 gk⟩
 self:=fun _ _ _ _ _ st h=>wpAny_pyIter_listiter st h
theorem R7 {P:Program}{w:World}{K:PySem.W.Frag}{er:Expr}(a it:Addr):Turn P w K er (wZ K a) [it] it (fun i h=>h.IsTupleIter it a i) where
 mem:=by simp
 obj:=fun i h st b aa=>by
  have e:b=it:=by simpa using aa
  subst e
  obtain⟨o,e,c,d⟩:=st
  exact⟨o,e,fun v z=>by rw[d]at z;cases z⟩
 keep:=fun i h h' st k=>st.at fun o e=>k it (by simp) o e
 item:=by
  intro X gP hw hK ai i pins s σ H E I hf st cF
  subst gP hw hK
  obtain⟨xs,x,bo,bh⟩:=cF
  obtain⟨its,bL,p,hz⟩:=I.tuple bo
  obtain⟨u,bf,eF⟩:=bL.get bh
  obtain⟨f0,f1,f2,fy,f4,gk⟩:=hf it (by simp)
  refine wpAny_pyNext_tuple_item st (show s.heap.IsTuple a its.toArray from p) (x:=u) (by simpa using bf) fun h' gK jJ=>?_
  have a3:Inv X pins σ H { s with heap:=h' }:=I.turned (t':=s.toks) (fun b o aa e=>(jJ.2 b aa).trans e) f0 f1 fy f4 gk
  obtain⟨o,e,c,d⟩:=id gK
  exact⟨u,rfl,zj (s:={ s with heap:=h' }) e c d (by decide) ⟨x,H,a3,eF,⟨rfl,fun ys ck=>by rw[I.Su ck bo];exact bh⟩,gK,fun b aa=>(hf b aa).1⟩⟩
 done:=by
  intro X gP hw hK ai i pins s σ H E I hf st cF
  subst gP hw hK
  obtain⟨xs,bo,bh⟩:=cF
  obtain⟨its,bL,p,hz⟩:=I.tuple bo
  obtain⟨f0,f1,f2,fy,f4,gk⟩:=hf it (by simp)
  have aE:=bL.length
  exact wpAny_pyNext_tuple_end (I.ok.hd ai) st (show s.heap.IsTuple a its.toArray from p) (by simp;omega) fun h' ea=>⟨rfl,I.turned (t':=s.toks) (fun b o aa e=>ea b o aa e) f0 f1 fy f4 gk⟩
 self:=fun _ _ _ _ _ st h=>wpAny_pyIter_tupleiter st h
theorem R8 {P:Program}{w:World}{K:PySem.W.Frag}{er:Expr}(it:Addr) (lo:Int) (n:Nat):Turn P w K er (sd lo n) [it] it (fun i h=>IsRangeIter h it (lo+(i:Nat) * 1) ((n:Int) - (i:Nat)) 1) where
 mem:=by simp
 obj:=fun i h st b aa=>by
  have e:b=it:=by simpa using aa
  subst e
  exact⟨_,st,fun v z=>by
   have iX:Data.fields _=Data.cell v:=z
   cases iX⟩
 keep:=fun i h h' st k=>k it (by simp) _ st
 item:=by
  intro X gP hw hK ai i pins s σ H E I hf st cF
  subst gP hw hK
  obtain⟨f0,f1,f2,fy,f4,gk⟩:=hf it (by simp)
  have W:=Walks.range (prog:=X.prog) (w:=X.w) (I.ok.hd ai) it lo 1 n
  refine W.item i s _ _ cF st fun v h' bF aX gK p4=>?_
  obtain⟨t,rfl⟩:=aX
  have a3:Inv X pins σ H { s with heap:=h',toks:=bF }:=I.turned (fun b o aa e=>p4 b o (by simpa using aa) e) f0 f1 fy f4 gk
  refine⟨_,rfl,zj (s:={ s with heap:=h',toks:=bF }) (n:="range_iterator") gK rfl rfl (by decide) ⟨.int (lo+i),H,a3,⟨t,?_⟩,⟨rfl,rfl⟩,gK,fun b aa=>(hf b aa).1⟩⟩
  rw[Int.mul_one]
 done:=by
  intro X gP hw hK ai i pins s σ H E I hf st cF
  subst gP hw hK
  obtain⟨f0,f1,f2,fy,f4,gk⟩:=hf it (by simp)
  exact wpAny_pyNext_range_end (I.ok.hd ai) st (by have:n≤i:=cF;omega) fun h' ea=>⟨rfl,I.turned (t':=s.toks) (fun b o aa e=>ea b o aa e) f0 f1 fy f4 gk⟩
 self:=fun _ _ _ _ _ st h=>wpAny_pyIter_rangeiter st h
section
variable {X:bI}{er:Expr}
def WT (K:PySem.W.Frag) (h3:TE):TI:=fun σ H R=>h3 σ H fun x H1=>∃a,x=.ref a∧(∃xs,aO K H1 a xs)∧R (oS K a) H1
def XS (K:PySem.W.Frag) (h3:TE):TI:=fun σ H R=>h3 σ H fun x H1=>∃a,x=.ref a∧(∃xs,aG K H1 a xs)∧R (wZ K a) H1
theorem ku {l:Expr}{h3:TE}(aE:b9 X l h3):o7 X er l (WT X.K h3):=by
 intro pins s σ H R I h
 refine bU (aE pins s σ H _ I h) fun v s1 ⟨x,H1,a3,bz,bx⟩=>?_
 obtain⟨a,e,⟨xs,bo⟩,q⟩:=bx
 subst e
 cases bz
 obtain⟨its,bL,p,hz⟩:=a3.list bo
 refine wpAny_pyIter_list p.isList ?_
 refine⟨s1.heap.objs.size,[s1.heap.objs.size],_,_,H1,rfl,a3.kept (t':=s1.toks) fun b o e=>get?_push_of_some _ e,Sq a _,⟨_,get?_push_size _ rfl,rfl,rfl⟩,fun b aa=>?_,q⟩
 have e:b=s1.heap.objs.size:=by simpa using aa
 subst e
 exact a3.rS (le_refl _) (a3.bG.fresh (le_refl _))
theorem KG {l:Expr}{h3:TE}(aE:b9 X l h3):o7 X er l (XS X.K h3):=by
 intro pins s σ H R I h
 refine bU (aE pins s σ H _ I h) fun v s1 ⟨x,H1,a3,bz,bx⟩=>?_
 obtain⟨a,e,⟨xs,bo⟩,q⟩:=bx
 subst e
 cases bz
 obtain⟨its,bL,p,hz⟩:=a3.tuple bo
 refine wpAny_pyIter_tuple (show s1.heap.IsTuple a its.toArray from p) ?_
 refine⟨s1.heap.objs.size,[s1.heap.objs.size],_,_,H1,rfl,a3.kept (t':=s1.toks) fun b o e=>get?_push_of_some _ e,R7 a _,⟨_,get?_push_size _ rfl,rfl,rfl⟩,fun b aa=>?_,q⟩
 have e:b=s1.heap.objs.size:=by simpa using aa
 subst e
 exact a3.rS (le_refl _) (a3.bG.fresh (le_refl _))
theorem TH {pins:List (Addr × Obj)}{σ:St}{H:ao}{s:Shared}{R:jW→ao→Prop}{E:Value→Shared→Prop}{lo aL:Int}{t u v:Tok}{bF:Nat}(I:Inv X pins σ H s) (ak : -(2 ^ 62)≤lo) (az:lo<2 ^ 62) (cz : -(2 ^ 62)≤aL) (dA:aL<2 ^ 62)
  (q:R (sd lo (aL - lo).toNat) H):wpAny (model X.prog X.w) X.A (pyIter (.ref s.heap.objs.size)) (P1 X pins σ er R) E { s with heap:=s.heap.push { cls:=.type "range",data:=.fields #[.int lo t,.int aL u,.int 1 v] },toks:=bF }:=by
 refine wpAny_pyIter_range (IsRange.new ..) (small_one ak az cz dA) ?_
 have a3:Inv X pins σ H { s with heap:=s.heap.push { cls:=.type "range",data:=.fields #[.int lo t,.int aL u,.int 1 v] },toks:=bF }:=I.kept fun b o e=>get?_push_of_some _ e
 refine⟨(s.heap.push { cls:=.type "range",data:=.fields #[.int lo t,.int aL u,.int 1 v] }).objs.size,[(s.heap.push { cls:=.type "range",data:=.fields #[.int lo t,.int aL u,.int 1 v] }).objs.size],_,_,H,rfl,
  a3.kept (t':=bF) fun b o e=>get?_push_of_some _ e,R8 _ lo (aL - lo).toNat,?_,fun b aa=>?_,q⟩
 ·have aH:lo+((0:Nat):Int) * 1=lo:=by simp
  have aM:(((aL - lo).toNat:Nat):Int) - ((0:Nat):Int)=Builtin.Range.rangeSize lo aL 1:=by rw[rangeSize_one];split <;> omega
  show IsRangeIter _ _ (lo+((0:Nat):Int) * 1) ((((aL - lo).toNat:Nat):Int) - ((0:Nat):Int)) 1
  rw[aH,aM]
  exact get?_push_size _ rfl
 ·have e:b=(s.heap.push { cls:=.type "range",data:=.fields #[.int lo t,.int aL u,.int 1 v] }).objs.size:=by simpa using aa
  subst e
  exact a3.rS (le_refl _) (a3.bG.fresh (le_refl _))
def WS (dh:iK):TI:=fun σ H R=>dh σ H fun vs H1=>∃j:Int,vs=[.int j] ∧ -(2 ^ 62)≤j∧j<2 ^ 62∧R (sd 0 j.toNat) H1
theorem s_ {a:Expr}{dh:iK}{p pos:Pos}(cF:lK X "range") (hm:X.mg "range"=none) (bk:mh X [a] dh) (aY:starEach [a] X.env=[(false,eval a X.env)]:=by rfl):o7 X er (.Call (.Name "range" p) [a] [] pos) (WS dh):=by
 intro pins s σ H R I h
 refine Call_ (qv I cF hm boot_range (PyProof.Rows.callWith_type1 (bU (bk pos pins s σ H _ I h) fun us s1 ⟨vs,H1,a3,bz,bx⟩=>?_) aY rfl))
 obtain⟨j,e,bx,aW,q⟩:=bx
 subst e
 cases bz with
 | cons r p0 =>
  cases p0
  obtain⟨t,rfl⟩:=r
  exact call_range_1 (TH a3 (by omega) (by omega) bx aW (by simpa using q))
def Xa (gh:TI) (g:h_) (dG:fW):fW:=fun D σ H=>gh σ H fun J H1=>∃W:Nat→Nat→St→ao→Prop,(∃m,W 0 m σ H1)∧∀i m σ H,W i m σ H →
 (J.stop i H∧D.da σ H)∨(J.go i H∧∃N:St→ao→Prop,(∀bA af,N bA af→∃fG,fG<m∧W (i+1) fG bA af)∧∀x af,J.nB i H x af→g x σ af fun gs ay=>dG { D with da:=N,fc:=N,hp:=D.da } gs ay)
def tr (bJ:List Addr) (h:Heap):List (Addr × Obj):=bJ.filterMap fun b=>(h.get? b).map fun o=>(b,o)
theorem qm {bJ:List Addr}{h:Heap}{b:Addr}{o:Obj}(aa:b∈bJ) (e:h.get? b=some o):(b,o)∈tr bJ h:=mem_filterMap.mpr ⟨b,aa,by rw[e];rfl⟩
theorem SV {bJ:List Addr}{h:Heap}{p:Addr × Obj}(aF:p∈tr bJ h):p.1∈bJ∧h.get? p.1=some p.2:=by
 obtain⟨b,aa,e⟩:=mem_filterMap.mp aF
 cases q:h.get? b with
 | none=>rw[q]at e;cases e
 | some o =>
  rw[q]at e
  have cX:(b,o)=p:=Option.some.inj e
  subst cX
  exact⟨aa,q⟩
theorem Inv.pinned {pins:List (Addr × Obj)}{σ:St}{H:ao}{s:Shared}{bJ:List Addr}(I:Inv X pins σ H s) (hf:∀b∈bJ,lQ X pins H b) (aC:∀b∈bJ,∃o,s.heap.get? b=some o∧∀v,o.data≠.cell v):Inv X (pins++tr bJ s.heap) σ H s :=
 I.JV fun p aF=>(mem_append.mp aF).elim (fun z=>I.pin p (mem_append_right _ z)) fun z=>by
  obtain⟨aa,e⟩:=SV z
  obtain⟨f0,f1,f2,_⟩:=hf p.1 aa
  obtain⟨o,cX,d⟩:=aC p.1 aa
  rw[e]at cX;cases cX
  exact⟨e,f0,f1,f2,d⟩
theorem Inv.tc {pins pl:List (Addr × Obj)}{σ:St}{H:ao}{s:Shared}(I:Inv X (pins++pl) σ H s):Inv X pins σ H s:=I.JV fun p aF=>I.pin p (mem_append_right _ (mem_append_left _ aF))
theorem hP {iter:Expr}{body:List Stmt}{gh:TI}{g:h_}{dG:fW}{pos:Pos}(aF:PassesOwn (model X.prog X.w) X.A X.env X.dN) (ai:X.calm=true) (aL:o7 X er iter gh) (cF:o8 X er g) (aa:hC X body dG)
  (aY:∀x,foldedSetIterable iter X.env x=pure x:=by intro _;rfl):kp X (.For er iter body [] pos) (Xa gh g dG):=by
 intro pins s σ H D I h
 refine wpAny_For (bU (aL pins s σ H _ I h) fun v s1 ak=>bU ak fun tV s2 az=>?_) aY
 obtain⟨it,bJ,ek,J,ay,e,cL,T,pL,f2,W,⟨m0,pY⟩,turn⟩:=az
 subst e
 have kB:∀{af:ao},(∀b∈bJ,af b=none)→∀b∈bJ,lQ X pins af b:=fun aP b aa=>⟨aP b aa,(f2 b aa).2⟩
 refine codeAny_forLoop_any (fun n aJ=>∃i bA af,Inv X pins bA af aJ∧ek i aJ.heap∧(∀b∈bJ,af b=none)∧W i n bA af) ?_ m0 ⟨0,σ,ay,cL,pL,fun b aa=>(f2 b aa).1,pY⟩
 rintro n s3 ⟨i,nT,aT,cA,kE,oM,jk⟩
 rcases turn i n nT aT jk with ⟨stop,Gj⟩ | ⟨go,N,f_,step⟩
 ·refine wpAny_passesOwn aF (bU (T.done X rfl rfl rfl ai i pins s3 nT aT X.dN cA (kB oM) kE stop) fun r s4 ⟨aD,jY⟩=>?_)
  subst aD
  exact wpAny_execs_nil ⟨nT,aT,jY,Gj⟩
 ·refine wpAny_passesOwn aF (bU (T.item X rfl rfl rfl ai i pins s3 nT aT X.dN cA (kB oM) kE go) fun r s4 ⟨u,aD,dA⟩=>?_)
  subst aD
  refine wpAny_passesOwn aF (bU dA fun _ s5 ⟨x,dC,qd,l4,sl,kD,r7⟩=>?_)
  have se:=qd.pinned (kB r7) (T.obj _ _ kD)
  refine wpAny_passesOwn aF (bU (cF _ s5 nT dC x u _ se l4 (step x dC sl)) fun _ l1 ⟨AG,ed,sQ,xh⟩=>?_)
  refine wpAny_passesOwn aF (bU (aa _ l1 AG ed _ sQ xh) fun f hE nX=>?_)
  have again:∀{nS:St} {dQ:ao},Inv X (pins++tr bJ s5.heap) nS dQ hE→N nS dQ→∃m,m<n∧∃i bA af,Inv X pins bA af hE∧ek i hE.heap∧(∀b∈bJ,af b=none)∧W i m bA af:=fun {nS dQ} jX g0=>by
   obtain⟨fG,hm,pX⟩:=f_ nS dQ g0
   refine⟨fG,hm,i+1,nS,dQ,jX.tc,T.keep _ _ _ kD fun b aa o e=>(jX.pin (b,o) (mem_append_right _ (mem_append_right _ (qm aa e)))).1,fun b aa=>?_,pX⟩
   obtain⟨o,e,d⟩:=T.obj _ _ kD b aa
   exact (jX.pin (b,o) (mem_append_right _ (mem_append_right _ (qm aa e)))).2.1
  cases f with
  | next=>obtain⟨nS,dQ,jX,g0⟩:=nX;exact again jX g0
  | cont=>obtain⟨nS,dQ,jX,g0⟩:=nX;exact again jX g0
  | brk=>obtain⟨nS,dQ,jX,nX⟩:=nX;exact⟨nS,dQ,jX.tc,nX⟩
  | ret v=>obtain⟨aa5,nS,dQ,jX,aa8,nX⟩:=nX;exact⟨aa5,nS,dQ,jX.tc,aa8,nX⟩
end
theorem ng {K:PySem.W.Frag}{a:Addr}{xs:List V}{g:h_}{dG:fW}{D:Ends}{σ:St}{H:ao}(Pv:Nat→St→ao→Prop) (h0:Pv 0 σ H) (aE:∀i σ H,i≤xs.length→Pv i σ H→aO K H a xs)
  (aY:∀i x σ H,xs[i]?=some x→Pv i σ H→g x σ H fun gs ay=>dG { D with da:=Pv (i+1),fc:=Pv (i+1),hp:=D.da } gs ay) (hd:∀σ H,Pv xs.length σ H→D.da σ H) :
  ∃W:Nat→Nat→St→ao→Prop,(∃m,W 0 m σ H)∧∀i m σ H,W i m σ H →
   ((oS K a).stop i H∧D.da σ H)∨((oS K a).go i H∧∃N:St→ao→Prop,(∀bA af,N bA af→∃fG,fG<m∧W (i+1) fG bA af)∧∀x af,(oS K a).nB i H x af→g x σ af fun gs ay=>dG { D with da:=N,fc:=N,hp:=D.da } gs ay):=by
 refine⟨fun i m σ H=>m=xs.length - i∧i≤xs.length∧Pv i σ H,⟨xs.length,by simp,zero_le _,h0⟩,?_⟩
 rintro i m σ H ⟨rfl,aL,p⟩
 have q:=aE i σ H aL p
 by_cases c8:i<xs.length
 ·refine .inr ⟨⟨xs,xs[i],q,by simp[c8]⟩,Pv (i+1),fun bA af eg=>⟨xs.length - (i+1),by omega,rfl,c8,eg⟩,fun x af y=>?_⟩
  obtain⟨e,y⟩:=y
  subst e
  exact aY i x σ _ (y xs q) p
 ·have e:i=xs.length:=by omega
  subst e
  exact .inl ⟨⟨xs,q,le_refl _⟩,hd σ H p⟩
theorem yQ {K:PySem.W.Frag}{a:Addr}{xs:List V}{g:h_}{dG:fW}{D:Ends}{σ:St}{H:ao}(Pv:Nat→St→ao→Prop) (h0:Pv 0 σ H) (aE:∀i σ H,i≤xs.length→Pv i σ H→aG K H a xs)
  (aY:∀i x σ H,xs[i]?=some x→Pv i σ H→g x σ H fun gs ay=>dG { D with da:=Pv (i+1),fc:=Pv (i+1),hp:=D.da } gs ay) (hd:∀σ H,Pv xs.length σ H→D.da σ H) :
  ∃W:Nat→Nat→St→ao→Prop,(∃m,W 0 m σ H)∧∀i m σ H,W i m σ H →
   ((wZ K a).stop i H∧D.da σ H)∨((wZ K a).go i H∧∃N:St→ao→Prop,(∀bA af,N bA af→∃fG,fG<m∧W (i+1) fG bA af)∧∀x af,(wZ K a).nB i H x af→g x σ af fun gs ay=>dG { D with da:=N,fc:=N,hp:=D.da } gs ay):=by
 refine⟨fun i m σ H=>m=xs.length - i∧i≤xs.length∧Pv i σ H,⟨xs.length,by simp,zero_le _,h0⟩,?_⟩
 rintro i m σ H ⟨rfl,aL,p⟩
 have q:=aE i σ H aL p
 by_cases c8:i<xs.length
 ·refine .inr ⟨⟨xs,xs[i],q,by simp[c8]⟩,Pv (i+1),fun bA af eg=>⟨xs.length - (i+1),by omega,rfl,c8,eg⟩,fun x af y=>?_⟩
  obtain⟨e,y⟩:=y
  subst e
  exact aY i x σ _ (y xs q) p
 ·have e:i=xs.length:=by omega
  subst e
  exact .inl ⟨⟨xs,q,le_refl _⟩,hd σ H p⟩
theorem uU {lo:Int}{n:Nat}{g:h_}{dG:fW}{D:Ends}{σ:St}{H:ao}(Pv:Nat→St→ao→Prop) (h0:Pv 0 σ H)
  (aY:∀i σ H,i<n→Pv i σ H→g (.int (lo+i)) σ H fun gs ay=>dG { D with da:=Pv (i+1),fc:=Pv (i+1),hp:=D.da } gs ay) (hd:∀σ H,Pv n σ H→D.da σ H) :
  ∃W:Nat→Nat→St→ao→Prop,(∃m,W 0 m σ H)∧∀i m σ H,W i m σ H →
   ((sd lo n).stop i H∧D.da σ H)∨((sd lo n).go i H∧∃N:St→ao→Prop,(∀bA af,N bA af→∃fG,fG<m∧W (i+1) fG bA af)∧∀x af,(sd lo n).nB i H x af→g x σ af fun gs ay=>dG { D with da:=N,fc:=N,hp:=D.da } gs ay):=by
 refine⟨fun i m σ H=>m=n - i∧i≤n∧Pv i σ H,⟨n,by simp,zero_le _,h0⟩,?_⟩
 rintro i m σ H ⟨rfl,aL,p⟩
 by_cases c8:i<n
 ·refine .inr ⟨c8,Pv (i+1),fun bA af eg=>⟨n - (i+1),by omega,rfl,c8,eg⟩,fun x af y=>?_⟩
  obtain⟨e,y⟩:=y
  subst e y
  exact aY i σ _ c8 p
 ·have e:i=n:=by omega
  subst e
  exact .inl ⟨le_refl _,hd σ H p⟩
abbrev jV:=V→V→ao→cD→Prop
def hD (X:bI) (f:Value→Value→Sem Value) (r:jV):Prop :=
 ∀(pins:List (Addr × Obj)) (s:Shared) (σ:St) (H:ao) (x y:V) (v u:Value) (Q:cD),Inv X pins σ H s→RelV x v→RelV y u→r x y H Q →
  wpAny (model X.prog X.w) X.A (f v u) (hr X pins σ Q) X.dN s
def Fg (X:bI) (f:Value→Sem Value) (r:V→ao→cD→Prop):Prop :=
 ∀(pins:List (Addr × Obj)) (s:Shared) (σ:St) (H:ao) (x:V) (v:Value) (Q:cD),Inv X pins σ H s→RelV x v→r x H Q →
  wpAny (model X.prog X.w) X.A (f v) (hr X pins σ Q) X.dN s
def nt (X:bI) (f:Value) (r:List V→ao→cD→Prop):Prop :=
 ∀(pins:List (Addr × Obj)) (s:Shared) (σ:St) (H:ao) (xs:List V) (us:List Value) (Q:cD),Inv X pins σ H s→Vals xs us→r xs H Q →
  wpAny (model X.prog X.w) X.A (call f us) (hr X pins σ Q) X.dN s
def zX (r:jV) (dh dG:TE):TE:=fun σ H Q=>dh σ H fun x H1=>dG σ H1 fun y ay=>r x y ay Q
def Yp (r:V→ao→cD→Prop) (dh:TE):TE:=fun σ H Q=>dh σ H fun x H1=>r x H1 Q
def xe (C:Int→Int→Prop) (g:Int→Int→V):jV:=fun x y H Q=>∃i j,x=.int i∧y=.int j∧C i j∧Q (g i j) H
def qL (g:Int→Int→V):jV:=fun x y H Q=>∃i j,x=.int i∧y=.int j∧Q (g i j) H
def Qx (g:Int→V):V→ao→cD→Prop:=fun x H Q=>∃i,x=.int i∧Q (g i) H
section
variable {X:bI}{a b c:Expr}{dh dG oW:TE}{pos:Pos}
theorem D2 (bk:b9 X a dh) (aa:b9 X b dG) {pins:List (Addr × Obj)}{s:Shared}{σ:St}{H:ao}{R:V→V→ao→Prop}(I:Inv X pins σ H s)
  (h:dh σ H fun x H1=>dG σ H1 fun y ay=>R x y ay) {Q:Value→Shared→Prop} {f:Value→Value→Sem Value}
  (hf:∀v u s2 x y ay,Inv X pins σ ay s2→RelV x v→RelV y u→R x y ay→wpAny (model X.prog X.w) X.A (f v u) Q X.dN s2) :
  wpAny (model X.prog X.w) X.A (eval a X.env) (fun v dn=>wpAny (model X.prog X.w) X.A (eval b X.env) (fun u iB=>wpAny (model X.prog X.w) X.A (f v u) Q X.dN iB) X.dN dn) X.dN s:=by
 refine bU (bk pins s σ H _ I h) fun v s1 ⟨x,H1,a3,bz,bx⟩=>?_
 refine bU (aa pins s1 σ H1 _ a3 bx) fun u s2 ⟨y,ay,cL,b3,aW⟩=>?_
 exact hf v u s2 x y ay cL bz b3 aW
theorem dg {op:Operator}{r:jV}(aC:hD X (binaryOp op) r) (bk:b9 X a dh) (aa:b9 X b dG):b9 X (.BinOp a op b pos) (zX r dh dG):=by
 intro pins s σ H Q I h
 exact wpAny_BinOp (D2 bk aa I h fun v u s2 x y ay cL bH bQ q=>aC pins s2 σ ay x y v u Q cL bH bQ q)
theorem tv {op:UnaryOp}{r:V→ao→cD→Prop}(aC:Fg X (unaryOp op) r) (bk:b9 X a dh):b9 X (.UnaryOp op a pos) (Yp r dh):=by
 intro pins s σ H Q I h
 exact UnaryOp_ (bU (bk pins s σ H _ I h) fun v s1 ⟨x,H1,a3,bz,bx⟩=>aC pins s1 σ H1 x v Q a3 bz bx)
theorem z4 {f:Value→Value→Sem Value}{C:Int→Int→Prop}{g:Int→Int→Int}
  (rule:∀(i j:Int) (t u:Tok) (s:Shared) (Q:Value→Shared→Prop) (E:Value→Shared→Prop),C i j→Q (.int (g i j) s.toks) { s with toks:=s.toks+1 }→wpAny (model X.prog X.w) X.A (f (.int i t) (.int j u)) Q E s) :
  hD X f (xe C fun i j=>.int (g i j)):=by
 intro pins s σ H x y v u Q I bH bQ h
 obtain⟨i,j,rfl,rfl,ai,q⟩:=h
 obtain⟨t,rfl⟩:=bH
 obtain⟨t',rfl⟩:=bQ
 exact rule i j t t' s _ _ ai ⟨.int (g i j),H,I.tok _,⟨_,rfl⟩,q⟩
theorem LU {f:Value→Value→Sem Value}{g:Int→Int→Int}
  (rule:∀(i j:Int) (t u:Tok) (s:Shared) (Q:Value→Shared→Prop) (E:Value→Shared→Prop),Q (.int (g i j) s.toks) { s with toks:=s.toks+1 }→wpAny (model X.prog X.w) X.A (f (.int i t) (.int j u)) Q E s) :
  hD X f (qL fun i j=>.int (g i j)):=by
 intro pins s σ H x y v u Q I bH bQ h
 obtain⟨i,j,rfl,rfl,q⟩:=h
 obtain⟨t,rfl⟩:=bH
 obtain⟨t',rfl⟩:=bQ
 exact rule i j t t' s _ _ ⟨.int (g i j),H,I.tok _,⟨_,rfl⟩,q⟩
theorem zu {f:Value→Value→Sem Value}{g:Int→Int→Bool}
  (rule:∀(i j:Int) (t u:Tok) (s:Shared) (Q:Value→Shared→Prop) (E:Value→Shared→Prop),Q (.bool (g i j)) s→wpAny (model X.prog X.w) X.A (f (.int i t) (.int j u)) Q E s) :
  hD X f (qL fun i j=>.bV (g i j)):=by
 intro pins s σ H x y v u Q I bH bQ h
 obtain⟨i,j,rfl,rfl,q⟩:=h
 obtain⟨t,rfl⟩:=bH
 obtain⟨t',rfl⟩:=bQ
 exact rule i j t t' s _ _ ⟨.bV (g i j),H,I,rfl,q⟩
def Yh (i j:Int):Prop:=0<j∧j<1073741824
def Yg (i j:Int):Prop:=0≤j∧j≤1000000∧i.natAbs<2 ^ 64
def D7 (i j:Int):Prop:=(-(2 ^ 64)<i∧i<2 ^ 64)∨(-(2 ^ 64)<j∧j<2 ^ 64)
theorem D7.ok {i j:Int}(h:D7 i j):IntMulOk i j:=by
 rcases h with ⟨ak,az⟩ | ⟨ak,az⟩
 ·exact .of_left (intBits_le_64 ak az)
 ·exact .of_right (intBits_le_64 ak az)
theorem ht:hD X (binaryOp .Add) (qL fun i j=>.int (i+j)):=LU fun _ _ _ _ _ _ _ q=>add_int q
theorem rC:hD X (binaryOp .Sub) (qL fun i j=>.int (i - j)):=LU fun _ _ _ _ _ _ _ q=>sub_int q
theorem yW:hD X (binaryOp .Mult) (xe D7 fun i j=>.int (i * j)):=z4 fun _ _ _ _ _ _ _ ai q=>mul_int q ai.ok
theorem u6:hD X (binaryOp .FloorDiv) (xe Yh fun i j=>.int (i / j)):=z4 fun i j _ _ _ _ _ ai q=>by
 have ak:(0:Int)<j:=ai.1
 have az:j<1073741824:=ai.2
 exact floordiv_int (by omega) (by rw[Int.fdiv_eq_ediv_of_nonneg i (by omega)];exact q) (.inl (PyProof.noPylong_small (by omega)))
theorem jw:hD X (binaryOp .Mod) (xe (fun _ j=>0<j) fun i j=>.int (i % j)):=z4 fun i j _ _ _ _ _ ai q=>by
 have ak:(0:Int)<j:=ai
 exact mod_int' (by omega) (by rw[Int.fmod_eq_emod_of_nonneg i (by omega)];exact q)
theorem yV:hD X (binaryOp .Pow) (xe Yg fun i j=>.int (i ^ j.toNat)):=z4 fun _ _ _ _ _ _ _ ai q=>pow_int_small ai.1 ai.2.1 ai.2.2 q
theorem Yl {f:Value→Sem Value}{g:Int→Int}
  (rule:∀(i:Int) (t:Tok) (s:Shared) (Q:Value→Shared→Prop) (E:Value→Shared→Prop),Q (.int (g i) s.toks) { s with toks:=s.toks+1 }→wpAny (model X.prog X.w) X.A (f (.int i t)) Q E s) :
  Fg X f (Qx fun i=>.int (g i)):=by
 intro pins s σ H x v Q I bH h
 obtain⟨i,rfl,q⟩:=h
 obtain⟨t,rfl⟩:=bH
 exact rule i t s _ _ ⟨.int (g i),H,I.tok _,⟨_,rfl⟩,q⟩
theorem tk:Fg X (unaryOp .USub) (Qx fun i=>.int (-i)):=Yl fun _ _ _ _ _ q=>neg_int q
end
def LF:V→V→Bool
 | .cP,.cP=>true | .cP,.int _=>true | .int _,.cP=>true | .cP,.bV _=>true | .bV _,.cP=>true | .cP,.str _=>true | .str _,.cP=>true
 | .int _,.int _=>true | .bV _,.bV _=>true | .str _,.str _=>true | .mT _,.mT _=>true
 | .int _,.str _=>true | .str _,.int _=>true | .bV _,.str _=>true | .str _,.bV _=>true
 | _,_=>false
def Yz:jV:=fun x y H Q=>LF x y=true∧Q (.bV (decide (x=y))) H
def Yy:jV:=fun x y H Q=>LF x y=true∧Q (.bV (!decide (x=y))) H
theorem J6 {i j:Int}:decide (V.int i=V.int j)=(i == j):=by
 rw[Bool.eq_iff_iff]
 simp
theorem KU {i j:Bool}:decide (V.bV i=V.bV j)=(i == j):=by
 rw[Bool.eq_iff_iff]
 simp
theorem J5 {i j:Str}:decide (V.str i=V.str j)=(i == j):=by
 rw[Bool.eq_iff_iff]
 simp
theorem J7 {i j:Array UInt8}:decide (V.mT i=V.mT j)=(i.toList == j.toList):=by
 rw[Bool.eq_iff_iff]
 cases i
 cases j
 simp
section
variable {X:bI}{a b c:Expr}{dh dG oW:TE}{pos:Pos}
theorem gf {pins:List (Addr × Obj)}{σ:St}{H:ao}{s:Shared}{Q:cD}{k hh:Bool}(I:Inv X pins σ H s) (q:Q (.bV k) H) (e:k=hh):hr X pins σ Q (.bool hh) s:=by
 subst e
 exact⟨.bV k,H,I,rfl,q⟩
theorem dJ:hD X (compareOp .Eq) Yz:=by
 intro pins s σ H x y v u Q I bH bQ h
 obtain⟨aY,q⟩:=h
 cases x with
 | cP =>
  cases bH
  cases y with
  | cP=>cases bQ;exact PySem.EqNone.eq_none_none (gf I q (by simp))
  | bV j=>cases bQ;exact PySem.EqNone.eq_none_bool (gf I q (by simp))
  | int j=>obtain⟨t',rfl⟩:=bQ;exact PySem.EqNone.eq_none_int (gf I q (by simp))
  | str j=>obtain⟨t',rfl⟩:=bQ;exact PySem.EqNone.eq_none_str (gf I q (by simp))
  | _=>exact absurd (show false=true from aY) Bool.false_ne_true
 | bV i =>
  cases bH
  cases y with
  | cP=>cases bQ;exact PySem.EqNone.eq_bool_none (gf I q (by simp))
  | bV j=>cases bQ;exact eq_bool (gf I q KU)
  | str j=>obtain⟨t',rfl⟩:=bQ;exact PySem.EqMixed.eq_bool_str (gf I q (by simp))
  | _=>exact absurd (show false=true from aY) Bool.false_ne_true
 | int i =>
  obtain⟨t,rfl⟩:=bH
  cases y with
  | cP=>cases bQ;exact PySem.EqNone.eq_int_none (gf I q (by simp))
  | int j=>obtain⟨t',rfl⟩:=bQ;exact eq_int (gf I q J6)
  | str j=>obtain⟨t',rfl⟩:=bQ;exact PySem.EqMixed.eq_int_str (gf I q (by simp))
  | _=>exact absurd (show false=true from aY) Bool.false_ne_true
 | str i =>
  obtain⟨t,rfl⟩:=bH
  cases y with
  | cP=>cases bQ;exact PySem.EqNone.eq_str_none (gf I q (by simp))
  | bV j=>cases bQ;exact PySem.EqMixed.eq_str_bool (gf I q (by simp))
  | int j=>obtain⟨t',rfl⟩:=bQ;exact PySem.EqMixed.eq_str_int (gf I q (by simp))
  | str j=>obtain⟨t',rfl⟩:=bQ;exact eq_str (gf I q J5)
  | _=>exact absurd (show false=true from aY) Bool.false_ne_true
 | mT i =>
  obtain⟨t,rfl⟩:=bH
  cases y with
  | mT j=>obtain⟨t',rfl⟩:=bQ;exact PySem.W.eq_bytes (gf I q J7)
  | _=>exact absurd (show false=true from aY) Bool.false_ne_true
 | _=>cases y <;> exact absurd (show false=true from aY) Bool.false_ne_true
theorem kY:hD X (compareOp .NotEq) Yy:=by
 intro pins s σ H x y v u Q I bH bQ h
 obtain⟨aY,q⟩:=h
 cases x with
 | cP =>
  cases bH
  cases y with
  | cP=>cases bQ;exact PySem.EqNone.ne_none_none (gf I q (by simp))
  | bV j=>cases bQ;exact PySem.EqNone.ne_none_bool (gf I q (by simp))
  | int j=>obtain⟨t',rfl⟩:=bQ;exact PySem.EqNone.ne_none_int (gf I q (by simp))
  | str j=>obtain⟨t',rfl⟩:=bQ;exact PySem.EqNone.ne_none_str (gf I q (by simp))
  | _=>exact absurd (show false=true from aY) Bool.false_ne_true
 | bV i =>
  cases bH
  cases y with
  | cP=>cases bQ;exact PySem.EqNone.ne_bool_none (gf I q (by simp))
  | bV j=>cases bQ;exact ne_bool (gf I q (congrArg not KU))
  | str j=>obtain⟨t',rfl⟩:=bQ;exact PySem.EqMixed.ne_bool_str (gf I q (by simp))
  | _=>exact absurd (show false=true from aY) Bool.false_ne_true
 | int i =>
  obtain⟨t,rfl⟩:=bH
  cases y with
  | cP=>cases bQ;exact PySem.EqNone.ne_int_none (gf I q (by simp))
  | int j=>obtain⟨t',rfl⟩:=bQ;exact ne_int (gf I q (congrArg not J6))
  | str j=>obtain⟨t',rfl⟩:=bQ;exact PySem.EqMixed.ne_int_str (gf I q (by simp))
  | _=>exact absurd (show false=true from aY) Bool.false_ne_true
 | str i =>
  obtain⟨t,rfl⟩:=bH
  cases y with
  | cP=>cases bQ;exact PySem.EqNone.ne_str_none (gf I q (by simp))
  | bV j=>cases bQ;exact PySem.EqMixed.ne_str_bool (gf I q (by simp))
  | int j=>obtain⟨t',rfl⟩:=bQ;exact PySem.EqMixed.ne_str_int (gf I q (by simp))
  | str j=>obtain⟨t',rfl⟩:=bQ;exact ne_str (gf I q (congrArg not J5))
  | _=>exact absurd (show false=true from aY) Bool.false_ne_true
 | mT i =>
  obtain⟨t,rfl⟩:=bH
  cases y with
  | mT j=>obtain⟨t',rfl⟩:=bQ;exact PySem.W.ne_bytes (gf I q (congrArg not J7))
  | _=>exact absurd (show false=true from aY) Bool.false_ne_true
 | _=>cases y <;> exact absurd (show false=true from aY) Bool.false_ne_true
theorem qw:hD X (compareOp .Lt) (qL fun i j=>.bV (decide (i<j))):=zu fun _ _ _ _ _ _ _ q=>lt_int q
theorem K7:hD X (compareOp .LtE) (qL fun i j=>.bV (decide (i≤j))):=zu fun _ _ _ _ _ _ _ q=>le_int q
theorem rE:hD X (compareOp .Gt) (qL fun i j=>.bV (decide (j<i))):=zu fun _ _ _ _ _ _ _ q=>gt_int q
theorem ze:hD X (compareOp .GtE) (qL fun i j=>.bV (decide (j≤i))):=zu fun _ _ _ _ _ _ _ q=>ge_int q
theorem cc (b:Expr) {op:CmpOp}(h:op≠.In:=by decide) (az:op≠.NotIn:=by decide):behindInMarks op b=false:=by
 have aH:(op == CmpOp.In)=false:=by cases op <;> first | rfl | exact absurd rfl h
 have aM:(op == CmpOp.NotIn)=false:=by cases op <;> first | rfl | exact absurd rfl az
 cases b <;> simp[behindInMarks,aH,aM]
theorem iO {op:CmpOp}{r:jV}(aC:hD X (compareOp op) r) (bk:b9 X a dh) (aa:b9 X b dG) (hm:behindInMarks op b=false):b9 X (.Compare a [op] [b] pos) (zX r dh dG):=by
 intro pins s σ H Q I h
 exact wpAny_Compare1 (D2 bk aa I h fun v u s2 x y ay cL bH bQ q=>aC pins s2 σ ay x y v u Q cL bH bQ q) hm
def Wi (t:TE):TT:=fun σ H Q=>t σ H fun x af=>∃k,x=.bV k∧Q k af
theorem cM {op:CmpOp}{r:jV}(aC:hD X (compareOp op) r) (bk:b9 X a dh) (aa:b9 X b dG) (hm:behindInMarks op b=false):gQ X (.Compare a [op] [b] pos) (Wi (zX r dh dG)):=by
 intro pins s σ H Q I h
 refine wpAny_isTrue_Compare1 (bU (bk pins s σ H _ I h) fun v s1 ⟨x,H1,a3,bz,bx⟩=>bU (aa pins s1 σ H1 _ a3 bx) fun u s2 ⟨y,ay,cL,b3,aW⟩ =>
  bU (aC pins s2 σ ay x y v u _ cL bz b3 aW) fun c s3 ⟨z,aT,cA,h4,k,e,fE⟩=>?_) hm
 subst e
 cases h4
 exact wpAny_truthy_bool ⟨aT,cA,fE⟩
theorem yY:(sizeLine:Nat)<2 ^ 63:=by rw[sizeLine_eq];decide
theorem vals1 {x:V}{us:List Value}(r:Vals [x] us):∃u,us=[u]∧RelV x u:=by
 cases r with
 | cons bz b3=>cases b3;exact⟨_,rfl,bz⟩
theorem IU:nt X (.type "int") (fun xs H Q=>(∃i,xs=[.int i]∧Q (.int i) H)∨∃k,xs=[.bV k]∧Q (.int (if k then 1 else 0)) H):=by
 intro pins s σ H xs us Q I r h
 rcases h with ⟨i,rfl,q⟩ | ⟨k,rfl,q⟩
 ·obtain⟨u,rfl,t,rfl⟩:=vals1 r
  exact call_int_int ⟨.int i,H,I,⟨_,rfl⟩,q⟩
 ·obtain⟨u,rfl,bz⟩:=vals1 r
  cases bz
  exact call_int_bool ⟨.int (if k then 1 else 0),H,I.tok _,⟨_,rfl⟩,q⟩
end
structure rT (h:Heap) (x dx C:Addr) (ei:Str→Option Value):Prop where
 obj:h.get? x=some (instObj C dx)
 ns:h.Ns1 dx ei
 ne:dx≠x
theorem S1 {h:Heap}{dx:Addr}{ei:Str→Option Value}(n:h.Ns1 dx ei):∃e8,h.get? dx=some e8∧∀name,PySem.W.lookIn name e8=some (ei name):=by
 obtain⟨o,aB,cp,aC,hd,aS,_,hm⟩:=n
 refine⟨o,aC,fun name=>?_⟩
 have e:=hm name
 unfold nsFind findBy at e
 rw[←Array.find?_toList]at e
 unfold PySem.W.lookIn
 rw[hd]
 dsimp only
 split
 ·rename_i y q
  rw[q]at e
  exact congrArg some e
 ·rename_i q
  rw[q]at e
  have a:aB.toList.any (·.refKey)=false:=by
   rw[List.any_eq_false]
   intro y ck
   obtain⟨z,t,X3⟩:=aS y (Array.mem_toList_iff.mp ck)
   simp[DictEntry.refKey,X3]
  have GQ:¬aB.toList.any (·.refKey)=true:=by rw[a];exact Bool.false_ne_true
  rw[if_neg GQ]
  exact congrArg some e
theorem rT.look {h:Heap}{x dx C:Addr}{ei:Str→Option Value}(I:rT h x dx C ei):∃e8,PySem.W.InstAt h x (instObj C dx) C (some e8)∧∀name,PySem.W.lookIn name e8=some (ei name) :=
 let ⟨e8,aC,aE⟩:=S1 I.ns
 ⟨e8,⟨I.obj,rfl,rfl,aC⟩,aE⟩
section
variable {prog:Program}{w:World}{A:Around}{E:Value→Shared→Prop}{s:Shared}{K:PySem.W.Frag}{x dx C f:Addr}{ei:Str→Option Value}{name:Str}{v:Value}
theorem get_map {expr:Bool}{Q:Value→Shared→Prop}(X:K.In s.heap) (I:rT s.heap x dx C ei) (cF:PySem.W.plainGet K C name=true) (dt:PySem.W.hasDictIn K C=true)
  (bk:findIn K (.ref C) name=some none) (aX:ei name=some v) (iy:PySem.W.handedIn v=true) (h:Q v { s with toks:=s.toks+1 }) :
  wpAny (model prog w) A (getAttr (.ref x) name expr) Q E s:=by
 obtain⟨e8,J,aE⟩:=I.look
 exact PySem.W.get_value X J (PySem.W.plainGet_of cF).1 (PySem.W.findObj_own dt bk rfl (by rw[aE,aX])) iy h
theorem Ur {pl:Sem Bool}{Q:Value × List Value→Shared→Prop}(X:K.In s.heap) (I:rT s.heap x dx C ei) (cF:PySem.W.plainGet K C name=true)
  (hf:findIn K (.ref C) name=some (some (.ref f))) (aZ:PySem.W.isFn K (.ref f)=true) (aX:ei name=none) (h:Q (.ref f,[.ref x]) s) :
  wpAny (model prog w) A (getMethod (.ref x) name pl) Q E s:=by
 obtain⟨e8,J,aE⟩:=I.look
 exact PySem.W.method_fn X J (PySem.W.plainGet_of cF).1 (PySem.W.plainGet_of cF).2 hf (beq_iff_eq.mp aZ) (by show (PySem.W.lookIn name e8).map (·.isSome)=some false;rw[aE,aX];rfl) h
theorem UM {ns:List Str}{Q:Unit→Shared→Prop}(X:K.In s.heap) (I:rT s.heap x dx C ei)
  (aY:findIn K (.ref C) "__setattr__"=some (some (.builtin "object.__setattr__"))) (aF:PySem.W.plainOver K C=true) (aZ:PySem.W.takerIn K C name=some none) (dt:PySem.W.hasDictIn K C=true)
  (hw:PySem.Within ei ns) (hsz:ns.length≤sizeLine)
  (h:∀h',rT h' x dx C (fun y=>if y=name then some v else ei y)→Heap.SameBut dx s.heap h'→Q () { s with heap:=h',toks:=s.toks+2 }) :
  wpAny (model prog w) A (setAttr (.ref x) name v) Q E s:=by
 obtain⟨e8,J,aE⟩:=I.look
 refine PySem.W.set_plain X J aY (PySem.W.osa_open (s:={ s with toks:=s.toks+1 }) (r:=none) X J aF aZ fun b=>?_)
 obtain⟨cd,ai,EW⟩:=PySem.W.any_some dt
 have bh:s.heap.get? x=some ⟨.ref C,some dx,.plain, #[]⟩:=I.obj
 refine wpAny_bind (wpAny_pure (wpAny_bind (wpAny_bind (wpAny_loadPart bh (wpAny_bind (PySem.W.Looks.here (s:={ s with toks:=s.toks+1 }) (PySem.W.looks_clsIn X ai) ?_))))))
 rw[EW]
 refine wpAny_pure (a:=some dx) (wpAny_bind (wpAny_pure (wpAny_bind ?_)))
 refine wpAny_nsSet1 (s:={ s with toks:=s.toks+1 }) I.ns fun h' qR jE=>?_
 obtain⟨adX,ac2,ac3,Zx,ZW,ZX⟩:=qR.count (PySem.Within.cons name v hw)
 refine wpAny_bind (wpAny_lookBehind Zx (by rw[ZW];exact pastItsLine_dict (le_trans ZX (by rw[length_cons];omega))) ?_)
 exact wpAny_pure (h _ ⟨(jE.2 _ (Ne.symm I.ne)).trans I.obj,qR,I.ne⟩ jE)
theorem Uk {R:Result→Shared→Prop}{vs:List Value}{kw:List (Str × Value)}(X:K.In s.heap) (hm:PySem.W.makesIn K C=true)
  (aL:findIn K (.ref C) "__init__"=some (some (.ref f))) (hf:PySem.W.typeIn K (.ref f)=some (.type "function"))
  (h:codeAny (model prog w) (A.under (.builtin "type.__call__" ⟨.ref C::vs,kw⟩)) (.call (.ref f) ⟨.ref (s.heap.objs.size+1)::vs,kw⟩) (PySem.W.InitBack (s.heap.objs.size+1) R)
   { s with heap:=(s.heap.push emptyDict).push (instObj C s.heap.objs.size) }) :
  codeAny (model prog w) A (.call (.ref C) ⟨vs,kw⟩) R s:=by
 obtain⟨dt,g,d,t,os⟩:=s
 exact PySem.W.make_core (PySem.W.makes_of X hm) (PySem.W.looks_findIn X aL) (fun self=>PySem.W.bind_fn X self hf) (.inl rfl) h
end
def d5 (f:Str) (v:V):List (Str × V)→List (Str × V)
 | []=>[(f,v)]
 | (g,x)::r=>if g=f then (g,v)::r else (g,x)::d5 f v r
theorem rq (f g:Str) (v:V):∀bP:List (Str × V),(d5 f v bP).lookup g=if g=f then some v else bP.lookup g
 | []=>by
  show List.lookup g [(f,v)]=_
  by_cases h:g=f
  ·have aa:(g == f)=true:=beq_iff_eq.mpr h
   simp only[List.lookup,aa,if_pos h]
  ·have aa:(g == f)=false:=beq_eq_false_iff_ne.mpr h
   simp only[List.lookup,aa,if_neg h]
 | (k,x)::r=>by
  have cC:=rq f g v r
  rw[show d5 f v ((k,x)::r)=(if k=f then (k,v)::r else (k,x)::d5 f v r) from rfl]
  by_cases aS:k=f
  ·rw[if_pos aS]
   by_cases h:g=k
   ·have aa:(g == k)=true:=beq_iff_eq.mpr h
    simp only[List.lookup,aa,if_pos (h.trans aS)]
   ·have aa:(g == k)=false:=beq_eq_false_iff_ne.mpr h
    simp only[List.lookup,aa,if_neg (fun e:g=f=>h (e.trans aS.symm))]
  ·rw[if_neg aS]
   by_cases h:g=k
   ·have aa:(g == k)=true:=beq_iff_eq.mpr h
    simp only[List.lookup,aa,if_neg (fun e:g=f=>aS (h.symm.trans e))]
   ·have aa:(g == k)=false:=beq_eq_false_iff_ne.mpr h
    simp only[List.lookup,aa]
    exact cC
theorem BS (f:Str) (v:V):∀bP:List (Str × V),f∈(d5 f v bP).map (·.1)∧∀g,g∈bP.map (·.1)→g∈(d5 f v bP).map (·.1)
 | []=>⟨by simp[d5],fun g h=>by simp at h⟩
 | (k,x)::r=>by
  obtain⟨i2,m7⟩:=BS f v r
  rw[show d5 f v ((k,x)::r)=(if k=f then (k,v)::r else (k,x)::d5 f v r) from rfl]
  by_cases aS:k=f
  ·rw[if_pos aS]
   subst aS
   exact⟨by simp,fun g h=>by simpa using h⟩
  ·rw[if_neg aS]
   refine⟨?_,fun g h=>?_⟩
   ·rw[map_cons]
    exact mem_cons_of_mem _ i2
   ·rw[map_cons]at h ⊢
    rcases mem_cons.mp h with e | e
    ·exact mem_cons.mpr (.inl e)
    ·exact mem_cons_of_mem _ (m7 g e)
theorem HD (f:Str) (v:V):∀bP:List (Str × V),(d5 f v bP).length≤bP.length+1
 | []=>by simp[d5]
 | (k,x)::r=>by
  have cC:=HD f v r
  rw[show d5 f v ((k,x)::r)=(if k=f then (k,v)::r else (k,x)::d5 f v r) from rfl]
  by_cases aS:k=f
  ·rw[if_pos aS,length_cons,length_cons];omega
  ·rw[if_neg aS,length_cons,length_cons];omega
theorem iU.some_of {v:V}{o:Option Value}(r:iU (some v) o):∃u,o=some u∧RelV v u:=by
 cases o with
 | none=>exact (show False from r).elim
 | some u=>exact⟨u,rfl,r⟩
theorem iU.none_of {o:Option Value}(r:iU none o):o=none:=by
 cases o with
 | none=>rfl
 | some u=>exact (show False from r).elim
theorem S_ {v:V}{u:Value}(r:RelV v u):PySem.W.handedIn u=true:=by
 cases v with
 | cP=>cases (show u=Value.none from r);rfl
 | bV b=>cases (show u=Value.bool b from r);rfl
 | int i=>obtain⟨t,e⟩:=(show ∃t,u=Value.int i t from r);cases e;rfl
 | str x=>obtain⟨t,e⟩:=(show ∃t,u=Value.str x t from r);cases e;rfl
 | mT b=>obtain⟨t,e⟩:=(show ∃t,u=Value.bytes b t from r);cases e;rfl
 | qY b=>obtain⟨t,e⟩:=(show ∃t,u=Value.float b t from r);cases e;rfl
 | ref a=>cases (show u=Value.ref a from r);rfl
 | ty n=>cases (show u=Value.type n from r);rfl
section
variable {P:Program}{w:World}{H af:ao}{h h':Heap}{a C dx:Addr}{bP t8:List (Str × V)}
theorem u7 (bG:e_ P w H h) (e:H a=some (.ins C dx bP)):∃ei,rT h a dx C ei∧(∀f,iU (bP.lookup f) (ei f))∧PySem.Within ei (bP.map (·.1))∧bP.length≤1000∧H dx=some (.own a):=by
 obtain⟨d,z,ne,bY,ei,n,r,q⟩:=(show fM P w H h a (.ins C dx bP) from bG a _ e)
 exact⟨ei,⟨bY,n,ne⟩,r,q,z,d⟩
end
structure lq (K:PySem.W.Frag) (C:Addr):Prop where
 ct:PySem.W.plainGet K C Str.empty=true
 hd:PySem.W.hasDictIn K C=true
 po:PySem.W.plainOver K C=true
 pZ:findIn K (.ref C) "__setattr__"=some (some (.builtin "object.__setattr__"))
theorem lq.get {K:PySem.W.Frag}{C:Addr}(c:lq K C) (f:Str):PySem.W.plainGet K C f=true:=c.ct
def jx (K:PySem.W.Frag) (C:Addr) (f:Str):Prop:=findIn K (.ref C) f=some none
theorem jx.dK {K:PySem.W.Frag}{C:Addr}{f:Str}(n:jx K C f):PySem.W.takerIn K C f=some none:=by
 unfold PySem.W.takerIn
 rw[show findIn K (.ref C) f=some none from n]
 rfl
structure adT (K:PySem.W.Frag) (C:Addr) (f:Str) (v:V) (u:Value):Prop where
 at_:findIn K (.ref C) f=some (some u)
 rel:RelV v u
 get:PySem.W.specialIn K u "__get__"=some none
 GL:PySem.W.copiedNames.contains f=false
structure Meth (K:PySem.W.Frag) (C:Addr) (m:Str) (f:Addr):Prop where
 at_:findIn K (.ref C) m=some (some (.ref f))
 fn:PySem.W.isFn K (.ref f)=true
 bD:keepIn K (.ref f)=true
section
variable {X:bI}{pins:List (Addr × Obj)}{σ:St}{H:ao}{s:Shared}{a C dx:Addr}{bP:List (Str × V)}{f:Str}{v:V}{A:Around}{E:Value→Shared→Prop}
theorem HZ {b:Bool}{Q:Value→Shared→Prop}(I:Inv X pins σ H s) (e:H a=some (.ins C dx bP)) (c:lq X.K C) (n:jx X.K C f) (l:bP.lookup f=some v)
  (h:∀u aJ,Inv X pins σ H aJ→RelV v u→Q u aJ):wpAny (model X.prog X.w) A (getAttr (.ref a) f b) Q E s:=by
 obtain⟨ei,O,r,_,_,_⟩:=u7 I.bG e
 obtain⟨u,bf,eF⟩:=iU.some_of (v:=v) (o:=ei f) (by rw[←l];exact r f)
 exact get_map I.gN O (c.get f) c.hd n bf (S_ eF) (h u _ (I.tok _) eF)
theorem BD {m:Str}{g:Addr}{pl:Sem Bool}{Q:Value × List Value→Shared→Prop}(I:Inv X pins σ H s) (e:H a=some (.ins C dx bP)) (c:lq X.K C) (k:Meth X.K C m g) (l:bP.lookup m=none)
  (h:Q (.ref g,[.ref a]) s):wpAny (model X.prog X.w) A (getMethod (.ref a) m pl) Q E s:=by
 obtain⟨ei,O,r,_,_,_⟩:=u7 I.bG e
 have aP:ei m=none:=iU.none_of (by rw[←l];exact r m)
 exact Ur I.gN O (c.get m) k.at_ k.fn aP h
theorem HP {y:V}{u:Value}{Q:Unit→Shared→Prop}(I:Inv X pins σ H s) (e:H a=some (.ins C dx bP)) (c:lq X.K C) (n:jx X.K C f) (aE:bP.length<1000) (bQ:RelV y u)
  (h:∀aJ,Inv X pins σ (upd H a (.ins C dx (d5 f y bP))) aJ→Q () aJ):wpAny (model X.prog X.w) A (setAttr (.ref a) f u) Q E s:=by
 obtain⟨ei,O,r,gh,_,aC⟩:=u7 I.bG e
 have hz:(bP.map (·.1)).length≤sizeLine:=by rw[length_map,sizeLine_eq];omega
 refine UM I.gN O c.pZ c.po n.dK c.hd gh hz fun h' GW jJ=>h _ ?_
 have hd:∃o,h'.get? dx=some o:=let ⟨o,_,_,cX,_⟩:=GW.ns;⟨o,cX⟩
 refine I.write (x:=a) (e:=dx) (by rw[e];exact True.intro) (.inr aC) (fun b q aa z=>(jJ.2 b aa).trans z) hd ?_
 refine⟨by rw[aA O.ne];exact aC,?_,O.ne,GW.obj,_,GW.ns,fun g=>?_,fun g cF=>?_⟩
 ·have:=HD f y bP;omega
 ·show iU ((d5 f y bP).lookup g) (if g=f then some u else ei g)
  rw[rq]
  by_cases q:g=f
  ·rw[if_pos q,if_pos q];exact bQ
  ·rw[if_neg q,if_neg q];exact r g
 ·by_cases q:g=f
  ·rw[q];exact (BS f y bP).1
  ·refine (BS f y bP).2 g (gh g fun z=>cF ?_)
   show (if g=f then some u else ei g)=none
   rw[if_neg q];exact z
theorem Inv.made (I:Inv X pins σ H s):Inv X pins σ (upd (upd H s.heap.objs.size (.own (s.heap.objs.size+1))) (s.heap.objs.size+1) (.ins C s.heap.objs.size []))
  { s with heap:=(s.heap.push emptyDict).push (instObj C s.heap.objs.size) }:=by
 have aH:(s.heap.push emptyDict).get? s.heap.objs.size=some emptyDict:=get?_push_size s.heap rfl
 have aM:((s.heap.push emptyDict).push (instObj C s.heap.objs.size)).get? (s.heap.objs.size+1)=some (instObj C s.heap.objs.size):=by
  have:=get?_push_size (s.heap.push emptyDict) (o:=instObj C s.heap.objs.size) rfl
  rwa [size_push]at this
 have bT:(s.heap.push emptyDict).Ns s.heap.objs.size (fun _=>none):=⟨emptyDict, #[],_,aH,rfl,(fun e he=>absurd he (by simp)),fun _=>rfl⟩
 have a3:=I.laid (a:=s.heap.objs.size) (o:=.own (s.heap.objs.size+1)) (h':=s.heap.push emptyDict) (t':=s.toks) (fun b u q=>get?_push_of_some _ q) (le_refl _) ⟨_,aH⟩
 refine a3.laid (a:=s.heap.objs.size+1) (o:=.ins C s.heap.objs.size []) (t':=s.toks) (fun b u q=>get?_push_of_some _ q) (le_of_eq (size_push _ _)) ?_
 have ne:s.heap.objs.size≠s.heap.objs.size+1:=ne_of_lt (Nat.lt_succ_self _)
 refine⟨by rw[aA ne,aR],zero_le _,ne,aM,fun _=>none,(Heap.Ns1.of_empty bT).at fun o q=>get?_push_of_some _ q,fun _=>True.intro,fun y ck=>absurd rfl ck⟩
theorem Vp {prog:Program}{w:World}{env:Env}{e:Expr}{f:Str}{pos:Pos}{s:Shared}{Q:Value→Shared→Prop}(aa:attributeBase e f env (eval e env)=eval e env)
  (h:wpAny (model prog w) A (eval e env) (fun o dn=>wpAny (model prog w) A (getAttr o f true) Q E dn) E s):wpAny (model prog w) A (eval (.Attribute e f pos) env) Q E s :=
 Attribute_any_ h (by rw[arm_eval_Attribute,aa])
end
def Xc (K:PySem.W.Frag) (dh:TE) (f:Str):TE:=fun σ H Q=>dh σ H fun x H1=>∃a C dx bP v,x=.ref a∧H1 a=some (.ins C dx bP)∧lq K C∧jx K C f∧bP.lookup f=some v∧Q v H1
def Xv (K:PySem.W.Frag) (dh jl:TE) (f:Str):fW:=fun D σ H=>jl σ H fun y H1=>dh σ H1 fun x ay=>∃a C dx bP,x=.ref a∧ay a=some (.ins C dx bP)∧lq K C∧jx K C f∧bP.length<1000 ∧
 D.da σ (upd ay a (.ins C dx (d5 f y bP)))
def D6 (X:bI) (op:Operator) (jL:V→V→ao→cD→Prop):Prop :=
 ∀(pins:List (Addr × Obj)) (s:Shared) (σ:St) (H:ao) (x y:V) (u v:Value) (Q:cD),Inv X pins σ H s→RelV x u→RelV y v→jL x y H Q→wpAny (model X.prog X.w) X.A (inplaceOp op u v) (hr X pins σ Q) X.dN s
def UR (K:PySem.W.Frag) (dh jl:TE) (jL:V→V→ao→cD→Prop) (f:Str):fW:=fun D σ H=>dh σ H fun x H1=>∃a C dx bP v,x=.ref a∧H1 a=some (.ins C dx bP)∧lq K C∧jx K C f∧bP.lookup f=some v ∧
 jl σ H1 fun y ay=>jL v y ay fun z aT=>∃Fd t8,aT a=some (.ins C Fd t8)∧t8.length<1000∧D.da σ (upd aT a (.ins C Fd (d5 f z t8)))
section
variable {X:bI}{o e value:Expr}{f:Str}{pos pos' Lv:Pos}{dh jl:TE}
theorem fj (he:b9 X e dh) (aa:attributeBase e f X.env (eval e X.env)=eval e X.env):b9 X (.Attribute e f pos) (Xc X.K dh f):=by
 intro pins s σ H Q I h
 refine Vp aa (bU (he pins s σ H _ I h) fun u s1 ⟨x,H1,a3,bH,a,C,dx,bP,v,ex,aU,c,n,l,q⟩=>?_)
 subst ex
 obtain rfl:u=Value.ref a:=bH
 exact HZ a3 aU c n l fun oV s2 cL eF=>⟨v,H1,cL,eF,q⟩
theorem nk (bk:b9 X o dh) (aX:b9 X value jl) (aY:swapsWith value (some (.Attribute o f pos')) pos.line X.env=pure false):kp X (.Assign [.Attribute o f pos'] value pos) (Xv X.K dh jl f):=by
 intro pins s σ H D I h
 refine plainObj_wpAny_Assign_Attribute (bU (aX pins s σ H _ I h) fun u s1 ⟨y,H1,a3,bQ,q⟩=>bU (bk pins s1 σ H1 _ a3 q) fun b0 s2 ⟨x,ay,cL,bH,a,C,dx,bP,ex,aU,c,n,l,aW⟩=>?_) aY
 subst ex
 obtain rfl:b0=Value.ref a:=bH
 exact HP cL aU c n l bQ fun s3 cA=>⟨σ,_,cA,aW⟩
theorem yr {op:Operator}{jL:V→V→ao→cD→Prop}(bk:b9 X o dh) (aX:b9 X value jl) (nH:D6 X op jL):kp X (.AugAssign (.Attribute o f Lv) op value pos) (UR X.K dh jl jL f):=by
 intro pins s σ H D I h
 refine wpAny_AugAssign_AttributeAny (bU (bk pins s σ H _ I h) fun b0 s1 ⟨x,H1,a3,bH,a,C,dx,bP,v,ex,aU,c,n,l,q⟩=>?_)
 subst ex
 obtain rfl:b0=Value.ref a:=bH
 refine HZ a3 aU c n l fun u s2 cL eF=>bU (aX pins s2 σ H1 _ cL q) fun jk s3 ⟨y,ay,cA,bQ,fE⟩=>bU (nH pins s3 σ ay v y u jk _ cA eF bQ fE) fun so s4 ⟨z,aT,jY,l2,Fd,t8,wO,fH,jn⟩=>?_
 exact HP jY wO c n fH l2 fun s5 qd=>⟨σ,_,qd,jn⟩
def XE:V→V→ao→cD→Prop:=fun x y H Q=>∃i j,x=.int i∧y=.int j∧Q (.int (i+j)) H
def Xx:V→V→ao→cD→Prop:=fun x y H Q=>∃i j,x=.int i∧y=.int j∧Q (.int (i - j)) H
theorem C6:D6 X .Add XE:=by
 rintro pins s σ H x y u v Q I bH bQ ⟨i,j,rfl,rfl,q⟩
 obtain⟨t,rfl⟩:=(show ∃t,u=Value.int i t from bH)
 obtain⟨t',rfl⟩:=(show ∃t',v=Value.int j t' from bQ)
 exact PyProof.Rows.iadd_int ⟨.int (i+j),H,I.tok _,⟨_,rfl⟩,q⟩
theorem V7:D6 X .Sub Xx:=by
 rintro pins s σ H x y u v Q I bH bQ ⟨i,j,rfl,rfl,q⟩
 obtain⟨t,rfl⟩:=(show ∃t,u=Value.int i t from bH)
 obtain⟨t',rfl⟩:=(show ∃t',v=Value.int j t' from bQ)
 exact PyProof.Rows.isub_int ⟨.int (i - j),H,I.tok _,⟨_,rfl⟩,q⟩
theorem ab9 {pl:Sem Bool}{m:Str}{apos:Pos}{args:List Expr}{pins:List (Addr × Obj)}{s:Shared}{σ:St}{H:ao}{Q:Value→Shared→Prop}{b2:TE}(he:b9 X e b2) (I:Inv X pins σ H s)
  (h:b2 σ H fun x H1=>∃a C dx bP g,x=.ref a∧H1 a=some (.ins C dx bP)∧lq X.K C∧Meth X.K C m g∧bP.lookup m=none ∧
   ∀s1,Inv X pins σ H1 s1→wpAny (model X.prog X.w) X.A (callWith pos (.ref g) [.ref a] (backTo pos (starEach args X.env)) (backToKw pos (keywordEach [] X.env))) Q X.dN s1)
  (aZ:eval (.Call (.Attribute e m apos) args [] pos) X.env=(do
   let b0 ← eval e X.env
   standAt apos.atName
   let (f,first) ← holding [b0] (getMethod b0 m pl)
   callWith pos f first (backTo pos (starEach args X.env)) (backToKw pos (keywordEach [] X.env)))) :
  wpAny (model X.prog X.w) X.A (eval (.Call (.Attribute e m apos) args [] pos) X.env) Q X.dN s:=by
 refine PySem.W.methodCall_KW (pl:=pl) (bU (he pins s σ H _ I h) fun u s1 ⟨x,H1,a3,bH,a,C,dx,bP,g,ex,aU,c,k,l,q⟩=>?_) aZ
 subst ex
 obtain rfl:u=Value.ref a:=bH
 exact BD a3 aU c k l (q s1 a3)
end
section
variable {X:bI}{pins:List (Addr × Obj)}{σ:St}{H:ao}{s:Shared}{A:Around}{E:Value→Shared→Prop}{Q:Value→Shared→Prop}{c:Value}{b:Bool}
inductive jB (K:PySem.W.Frag) (H:ao):V→Value→Prop where
 | cP:jB K H .cP (.type "NoneType")
 | bV (x:Bool):jB K H (.bV x) (.type "bool")
 | int (i:Int):jB K H (.int i) (.type "int")
 | str (x:Str):jB K H (.str x) (.type "str")
 | qY (x:UInt64):jB K H (.qY x) (.type "float")
 | lst {a:Addr} {xs:List V} (e:H a=some (.lst xs)):jB K H (.ref a) (.type "list")
 | jF {a:Addr} {o:Obj} {xs:List V} (e:H a=some (.jF o (.lst xs))):jB K H (.ref a) (.type "list")
 | tup {a:Addr} {xs:List V} (e:H a=some (.tup xs)):jB K H (.ref a) (.type "tuple")
 | bS {a:Addr} {kvs:List (Key × V)} (e:H a=some (.bS kvs)):jB K H (.ref a) (.type "dict")
 | gJ {a:Addr} {kvs:List (List Key × V)} (e:H a=some (.gJ kvs)):jB K H (.ref a) (.type "dict")
 | ins {a C dx:Addr} {bP:List (Str × V)} (e:H a=some (.ins C dx bP)) (cl:lq K C) (bk:findIn K (.ref C) "__class__"=some (some (.builtin "object.__class__")))
   (aP:PySem.W.specialIn K (.builtin "object.__class__") "__get__"=some (some (.builtin "getset_descriptor.__get__"))) (j8:PySem.W.takesIn K (.builtin "object.__class__")=some true)
   (hm:PySem.W.mroIn K C (.type "object")=some true):jB K H (.ref a) (.ref C)
theorem S5 {x:V}{u t:Value}(I:Inv X pins σ H s) (bH:RelV x u) (ty:jB X.K H x t) (e:kitOne X.K t c=some b) (h:∀bF,Q (.bool b) { s with toks:=bF }) :
  wpAny (model X.prog X.w) A (call (.builtin "isinstance") [u,c]) Q E s:=by
 cases ty with
 | cP=>cases (show u=Value.none from bH);exact kia_one PySem.W.kitx_none I.gN True.intro e (fun z=>nomatch z) h
 | bV y=>cases (show u=Value.bool y from bH);exact kia_one PySem.W.kitx_bool I.gN True.intro e (fun z=>nomatch z) h
 | int i=>obtain⟨t,q⟩:=(show ∃t,u=Value.int i t from bH);cases q;exact kia_one PySem.W.kitx_int I.gN True.intro e (fun z=>nomatch z) h
 | str y=>obtain⟨t,q⟩:=(show ∃t,u=Value.str y t from bH);cases q;exact kia_one PySem.W.kitx_str I.gN True.intro e (fun z=>nomatch z) h
 | qY y=>obtain⟨t,q⟩:=(show ∃t,u=Value.float y t from bH);cases q;exact kia_one PySem.W.kitx_float I.gN True.intro e (fun z=>nomatch z) h
 | @lst a xs aU =>
  cases (show u=Value.ref a from bH)
  obtain⟨_,_,n,_,ak⟩:=(show fM X.prog X.w H s.heap a (.lst xs) from I.bG a _ aU)
  exact kia_one PySem.W.kitx_list I.gN ⟨_,ak,rfl⟩ e (fun z=>nomatch z) h
 | @jF a bY xs aU =>
  cases (show u=Value.ref a from bH)
  obtain⟨_,_,_,n,_,ak⟩:=(show fM X.prog X.w H s.heap a (.jF bY (.lst xs)) from I.bG a _ aU)
  exact kia_one PySem.W.kitx_list I.gN ⟨_,ak,rfl⟩ e (fun z=>nomatch z) h
 | @tup a xs aU =>
  cases (show u=Value.ref a from bH)
  obtain⟨_,_,_,p⟩:=(show fM X.prog X.w H s.heap a (.tup xs) from I.bG a _ aU)
  obtain⟨o,ak,az,_⟩:=p
  exact kia_one PySem.W.kitx_tuple I.gN ⟨o,ak,az⟩ e (fun z=>nomatch z) h
 | @bS a kvs aU =>
  cases (show u=Value.ref a from bH)
  obtain⟨_,_,vs,_,p⟩:=(show fM X.prog X.w H s.heap a (.bS kvs) from I.bG a _ aU)
  obtain⟨o,aB,cp,ak,az,_⟩:=p
  exact kia_one PySem.W.kitx_dict I.gN ⟨o,ak,az.1⟩ e (fun z=>nomatch z) h
 | @gJ a kvs aU =>
  cases (show u=Value.ref a from bH)
  obtain⟨_,_,xs,_,o,aB,cp,ak,az,_⟩:=(show fM X.prog X.w H s.heap a (.gJ kvs) from I.bG a _ aU)
  exact kia_one PySem.W.kitx_dict I.gN ⟨o,ak,az.1⟩ e (fun z=>nomatch z) h
 | @ins a C dx bP aU cl bk aP j8 hm =>
  cases (show u=Value.ref a from bH)
  obtain⟨ei,O,_⟩:=u7 I.bG aU
  obtain⟨e8,J,_⟩:=O.look
  exact kia_one (PySem.W.kitx_own (cl.get _) cl.hd bk aP j8 hm) I.gN J e (fun z=>nomatch z) h
end
structure gE (k:Nat) (A:Around):Prop where
 hd:A.handled=none
 uB:A.depth+3 * k+5<recursionLimit
 un:A.units+16 * k+200<cLine
theorem gE.mono {j k:Nat}{A:Around}(r:gE k A) (h:j≤k):gE j A:=⟨r.hd,by have:=r.uB;omega,by have:=r.un;omega⟩
theorem gE.deeper {k:Nat}{A:Around}(r:gE (k+1) A) (env:Env):gE k (A.deeper env) :=
 ⟨r.hd,by have:=r.uB;show A.depth+1+3 * k+5<_;omega,by have:=r.un;show A.units+3+16 * k+200<_;omega⟩
theorem Sh {A:Around}{C:Addr}{us:List Value}{kw:List (Str × Value)}:(A.under (.builtin "type.__call__" ⟨.ref C::us,kw⟩)).depth=A.depth+1:=by
 first | rfl | simp[Around.under,Code.weight,Code.isCreation,Code.isGuard,Code.isCaller,Code.frames,Code.isFrame,guardIds]
theorem Sg {A:Around}{C:Addr}{us:List Value}{kw:List (Str × Value)}:(A.under (.builtin "type.__call__" ⟨.ref C::us,kw⟩)).units=A.units+1:=by
 first | rfl | simp[Around.under,Code.cUnits,Code.frames,Code.isFrame]
theorem gE.make {k:Nat}{A:Around}(r:gE (k+1) A) (C:Addr) (us:List Value) (kw:List (Str × Value)):gE k (A.under (.builtin "type.__call__" ⟨.ref C::us,kw⟩)) :=
 ⟨r.hd,by have:=r.uB;rw[Sh];omega,by have:=r.un;rw[Sg];omega⟩
theorem gE.depth {k:Nat}{A:Around}(r:gE k A):A.depth<recursionLimit:=by have:=r.uB;omega
theorem gE.units {k:Nat}{A:Around}(r:gE k A):A.units+64<cLine:=by have:=r.un;omega
def Lx:iK:=fun _ H Q=>Q [] H
def Wr (dh:TE) (Gg:iK):iK:=fun σ H Q=>dh σ H fun x H1=>Gg σ H1 fun xs ay=>Q (x::xs) ay
section
variable {X:bI}{e:Expr}{aB:List Expr}{b2:TE}{t:iK}{pos:Pos}
theorem aN:mh X [] Lx:=fun _ _ _ _ H Q I h=>Calls.spliced_nil ⟨[],H,I,.nil,h⟩
theorem au (bk:b9 X e b2) (aD:mh X aB t) (aY:starEach (e::aB) X.env=(false,eval e X.env)::starEach aB X.env:=by rfl):mh X (e::aB) (Wr b2 t):=by
 intro pos pins s σ H Q I h
 rw[aY]
 show wpAny _ _ (spliced ((false,eval e X.env)::backTo pos (starEach aB X.env))) _ _ s
 refine Calls.spliced_cons (bU (bk pins s σ H _ I h) fun u s1 ⟨x,H1,a3,bz,bx⟩=>?_)
 exact bU (aD pos pins s1 σ H1 _ a3 bx) fun us s2 ⟨xs,ay,cL,b3,aW⟩=>⟨x::xs,ay,cL,.cons bz b3,aW⟩
def W5 (t:iK):TE:=fun σ H Q=>t σ H fun xs H1=>xs.length≤sizeLine∧∀p,H1 p=none→Q (.ref p) (upd H1 p (.tup xs))
def W9 (t:iK):TE:=fun σ H Q=>t σ H fun xs H1=>xs.length≤sizeLine∧∀p,H1 p=none→Q (.ref p) (upd H1 p (.lst xs))
theorem gp {x1} (h:mh X aB t):b9 X (.Tuple aB x1 pos) (W5 t):=by
 intro pins s σ H Q I bo
 refine wpAny_Tuple_spliced (bU (h pos pins s σ H _ I bo) fun us s1 ⟨xs,H1,a3,r,z,q⟩=>⟨by rw[←r.length];exact z,?_⟩)
 have hf:H1 s1.heap.objs.size=none:=a3.bG.fresh (le_refl _)
 refine⟨.ref s1.heap.objs.size,upd H1 s1.heap.objs.size (.tup xs),a3.laid (t':=s1.toks) (fun b u e=>get?_push_of_some _ e) (le_refl _) ?_,rfl,q _ hf⟩
 exact⟨z,us,r,⟨_,get?_push_size _ rfl,rfl,_,rfl⟩⟩
theorem fi (h:mh X aB t):b9 X (.List aB pos) (W9 t):=by
 intro pins s σ H Q I bo
 refine wpAny_List_spliced (bU (h pos pins s σ H _ I bo) fun us s1 ⟨xs,H1,a3,r,z,q⟩=>⟨by rw[←r.length];exact z,?_⟩)
 have hf:H1 s1.heap.objs.size=none:=a3.bG.fresh (le_refl _)
 refine⟨.ref s1.heap.objs.size,upd H1 s1.heap.objs.size (.lst xs),a3.laid (t':=s1.toks) (fun b u e=>get?_push_of_some _ e) (le_refl _) ?_,rfl,q _ hf⟩
 exact⟨z,us,0,r,get?_push_size _ rfl⟩
end
abbrev dj:=List V→ao→cD→hj→Prop
abbrev mU:=List Env→ao→Shared→hj→Value→Shared→Prop
structure rU (P:Program) (w:World) (K:PySem.W.Frag) (mg:Str→Option Value) (base:Heap) (A:Around) (outer:List Env) (s:Shared) (H:ao):Prop where
 frames:A.frames=some outer
 mod:Mod K mg base
 bs:∀b o,base.get? b=some o→s.heap.get? b=some o∧H b=none
 ll:base.objs.size≤s.heap.objs.size
 j5:s.heap.FunFrames base outer
 nN:∀b∈gO outer,H b=none
 bG:e_ P w H s.heap
 bare:AllBare s.gens
def G2 (outer:List Env) (P:Program) (w:World) (H:ao) (s:Shared) (Q:cD) (u:Value) (aJ:Shared):Prop :=
 ∃v af,aJ.os=s.os∧AllBare aJ.gens∧hk (gO outer) [] H af s.heap aJ.heap∧e_ P w af aJ.heap∧RelV v u∧Q v af
def cT (fe:mU) (outer:List Env) (P:Program) (w:World) (H:ao) (s:Shared) (Q:cD) (E:hj) (r:Result) (aJ:Shared):Prop :=
 match r with
 | .ok (.ret u)=>G2 outer P w H s Q u aJ
 | .ok _=>False
 | .error e=>fe outer H s E e aJ
structure br (P:Program) (w:World) (K:PySem.W.Frag) (mg:Str→Option Value) (base:Heap) (fe:mU) (k:Nat) (f:Addr) (fd:FuncData) (ps:List Str) (sp:dj):Prop where
 len:∀vs H Q E,sp vs H Q E→vs.length=ps.length
 run:∀(A:Around) (outer:List Env) (s:Shared) (H:ao) (args:Args) (us:List Value) (vs:List V) (Q:cD) (E:hj),gE k A→rU P w K mg base A outer s H→BindsTo s fd args (ps.zip us)→Vals vs us→sp vs H Q E →
  codeAny (model P w) A (.call (.ref f) args) (cT fe outer P w H s Q E) s
theorem rU.make {P:Program}{w:World}{K:PySem.W.Frag}{mg:Str→Option Value}{base:Heap}{A:Around}{outer:List Env}{s:Shared}{H:ao}(e:rU P w K mg base A outer s H) (C:Addr) (us:List Value) (kw:List (Str × Value)) :
  rU P w K mg base (A.under (.builtin "type.__call__" ⟨.ref C::us,kw⟩)) outer s H:=⟨by first | exact e.frames | (simpa[Around.under,Code.envs,Code.isFrame,pushEnvs] using e.frames),e.mod,e.bs,e.ll,e.j5,e.nN,e.bG,e.bare⟩
section
variable {X:bI}{pins:List (Addr × Obj)}{σ:St}{H:ao}{s aJ:Shared}
theorem Inv.Mi (I:Inv X pins σ H s):rU X.prog X.w X.K X.mg X.base X.A X.stack s H :=
 ⟨I.ok.frames,I.ok.mod,I.bs,le_trans I.ok.ll I.e7,I.stack,I.u4,I.bG,I.bare⟩
theorem Inv.after {Q:cD}{u:Value}(I:Inv X pins σ H s) (h:G2 X.stack X.prog X.w H s Q u aJ):hr X pins σ Q u aJ:=by
 obtain⟨v,af,os,bare,un,bG,r,q⟩:=h
 obtain⟨dt,g,d,t,os'⟩:=aJ
 obtain rfl:os'=s.os:=os
 exact⟨v,af,I.call (h':=dt) (g':=g) (d':=d) (t':=t) (ch:=[]) un bG bare (fun b z=>absurd z (by simp)),r,q⟩
end
def Wt (sp:dj) (h2:List V) (E:hj) (t:iK):TE:=fun σ H Q=>t σ H fun vs H1=>sp (vs++h2) H1 Q E
def K0 (C:Addr) (m:Str) (sp:dj) (h2:List V) (E:hj) (dh:TE) (t:iK):TE:=fun σ H Q=>dh σ H fun x H1=>∃a dx bP,x=.ref a∧H1 a=some (.ins C dx bP)∧bP.lookup m=none ∧
 t σ H1 fun vs ay=>sp (x::(vs++h2)) ay Q E
def Wm (C:Addr) (sp:dj) (h2:List V) (E:hj) (t:iK):TE:=fun σ H Q=>t σ H fun vs H1=>∀x dx,H1 x=none→H1 dx=none→dx≠x →
 sp (.ref x::(vs++h2)) (upd (upd H1 dx (.own x)) x (.ins C dx [])) (fun v ay=>v=.cP∧Q (.ref x) ay) E
def Binds (K:PySem.W.Frag) (fd:FuncData) (ps:List Str) (ds:List Value):Prop :=
 ∀(s:Shared) (us:List Value),K.In s.heap→(us++ds).length=ps.length→BindsTo s fd ⟨us,[]⟩ (ps.zip (us++ds))
theorem Binds.all {K:PySem.W.Frag}{fd:FuncData}{ps:List Str}(h:∀us:List Value,us.length=ps.length→bindArgs fd ⟨us,[]⟩=pure (ps.zip us)):Binds K fd ps []:=fun s us _ aE=>by
 rw[append_nil]at aE ⊢
 exact .of_eq (h us aE)
def Passes (fe:mU) (X:bI) (E:hj):Prop:=∀(pins:List (Addr × Obj)) (σ:St) (H:ao) (s:Shared) (e:Value) (aJ:Shared),Inv X pins σ H s→fe X.stack H s E e aJ→X.dN e aJ
section
variable {X:bI}{fe:mU}{k:Nat}{f C:Addr}{fd:FuncData}{ps:List Str}{sp:dj}{h2:List V}{ds:List Value}{E:hj}{x m:Str}{p pos apos:Pos}{e o:Expr}{aB:List Expr}{dh:TE}{t:iK}
theorem C2 {pins:List (Addr × Obj)}{σ:St}{H:ao}{s:Shared}{Q:cD}{us:List Value}{vs:List V}(F:br X.prog X.w X.K X.mg X.base fe k f fd ps sp) (aD:gE k X.A) (aa:Binds X.K fd ps ds) (hd:Vals h2 ds) (bh:Passes fe X E)
  (I:Inv X pins σ H s) (r:Vals vs us) (h:sp (vs++h2) H Q E):wpAny (model X.prog X.w) X.A (call (.ref f) us) (hr X pins σ Q) X.dN s:=by
 have b3:Vals (vs++h2) (us++ds):=r.append hd
 have aE:(us++ds).length=ps.length:=by rw[←b3.length];exact F.len _ _ _ _ h
 refine wpAny_call (codeAny_mono (F.run X.A X.stack s H ⟨us,[]⟩ (us++ds) (vs++h2) Q E aD I.Mi (aa s us I.gN aE) b3 h) fun r aJ bo=>?_)
 cases r with
 | error e=>exact bh pins σ H s e aJ I bo
 | ok eW =>
  cases eW with
  | ret u=>exact I.after bo
  | next=>exact False.elim bo
  | brk=>exact False.elim bo
  | cont=>exact False.elim bo
theorem dR (F:br X.prog X.w X.K X.mg X.base fe k f fd ps sp) (aD:gE k X.A) (cF:lK X x) (hm:X.mg x=some (.ref f)) (aS:keepIn X.K (.ref f)=true) (aa:Binds X.K fd ps ds) (hd:Vals h2 ds) (bh:Passes fe X E)
  (bk:mh X (e::aB) t) (r5:(x == ("__debug__":Str))=false:=by decide) (he:starEach (e::aB) X.env=(false,eval e X.env)::starEach aB X.env:=by rfl) (hR:(backTo pos (starEach aB X.env)).any (·.1)=false:=by rfl) :
  b9 X (.Call (.Name x p) (e::aB) [] pos) (Wt sp h2 E t):=by
 intro pins s σ H Q I h
 refine wpAny_Call_Name_kw (yP I cF hm ?_ r5)
 refine PySem.W.callWith_K (h₀:=X.base) I.ok.mod.tU aS (bU (bk pos pins s σ H _ I h) fun us s1 ⟨vs,H1,a3,r,q⟩=>⟨a3.gN,?_⟩) he hR
 exact C2 F aD aa hd bh a3 r q
theorem g7 {pl:Sem Bool}(he:b9 X o dh) (c:lq X.K C) (hm:Meth X.K C m f) (F:br X.prog X.w X.K X.mg X.base fe k f fd ps sp) (aD:gE k X.A) (aa:Binds X.K fd ps ds) (hd:Vals h2 ds) (bh:Passes fe X E) (bk:mh X (e::aB) t)
  (iz:starEach (e::aB) X.env=(false,eval e X.env)::starEach aB X.env:=by rfl) (hR:(backTo pos (starEach aB X.env)).any (·.1)=false:=by rfl)
  (aZ:eval (.Call (.Attribute o m apos) (e::aB) [] pos) X.env=(do
   let b0 ← eval o X.env
   standAt apos.atName
   let (f,first) ← holding [b0] (getMethod b0 m pl)
   callWith pos f first (backTo pos (starEach (e::aB) X.env)) (backToKw pos (keywordEach [] X.env))):=by rfl) :
  b9 X (.Call (.Attribute o m apos) (e::aB) [] pos) (K0 C m sp h2 E dh t):=by
 intro pins s σ H Q I h
 refine PySem.W.methodCall_KW (pl:=pl) (bU (he pins s σ H _ I h) fun u s1 ⟨x,H1,a3,bH,a,dx,bP,ex,aU,l,q⟩=>?_) aZ
 subst ex
 obtain rfl:u=Value.ref a:=bH
 refine BD a3 aU c hm l ?_
 refine PySem.W.callWith_K (first:=[.ref a]) (h₀:=X.base) I.ok.mod.tU hm.bD (bU (bk pos pins s1 σ H1 _ a3 q) fun us s2 ⟨vs,ay,cL,r,aW⟩=>⟨cL.gN,?_⟩) iz hR
 exact C2 (us:=.ref a::us) (vs:=.ref a::vs) F aD aa hd bh cL (.cons rfl r) aW
theorem yG {pl:Sem Bool}(he:b9 X o dh) (c:lq X.K C) (hm:Meth X.K C m f) (F:br X.prog X.w X.K X.mg X.base fe k f fd ps sp) (aD:gE k X.A) (aa:Binds X.K fd ps ds) (hd:Vals h2 ds) (bh:Passes fe X E)
  (aZ:eval (.Call (.Attribute o m apos) [] [] pos) X.env=(do
   let b0 ← eval o X.env
   standAt apos.atName
   let (f,first) ← holding [b0] (getMethod b0 m pl)
   callWith pos f first (backTo pos (starEach [] X.env)) (backToKw pos (keywordEach [] X.env))):=by rfl) :
  b9 X (.Call (.Attribute o m apos) [] [] pos) (K0 C m sp h2 E dh Lx):=by
 intro pins s σ H Q I h
 refine PySem.W.methodCall_KW (pl:=pl) (bU (he pins s σ H _ I h) fun u s1 ⟨x,H1,a3,bH,a,dx,bP,ex,aU,l,q⟩=>?_) aZ
 subst ex
 obtain rfl:u=Value.ref a:=bH
 refine BD a3 aU c hm l ?_
 exact PySem.W.callWith_K0 (first:=[.ref a]) a3.gN hm.bD (C2 (us:=[.ref a]) (vs:=[.ref a]) F aD aa hd bh a3 (.cons rfl .nil) q)
structure uF (K:PySem.W.Frag) (C f:Addr):Prop where
 makes:PySem.W.makesIn K C=true
 init:findIn K (.ref C) "__init__"=some (some (.ref f))
 fn:PySem.W.isFn K (.ref f)=true
 bD:keepIn K (.ref C)=true
theorem Tz {pins:List (Addr × Obj)}{σ:St}{H:ao}{s:Shared}{Q:cD}{us:List Value}{vs:List V}(M:uF X.K C f) (F:br X.prog X.w X.K X.mg X.base fe k f fd ps sp) (aD:gE (k+1) X.A) (aa:Binds X.K fd ps ds) (hd:Vals h2 ds)
  (bh:Passes fe X E) (I:Inv X pins σ H s) (r:Vals vs us)
  (h:∀x dx,H x=none→H dx=none→dx≠x→sp (.ref x::(vs++h2)) (upd (upd H dx (.own x)) x (.ins C dx [])) (fun v ay=>v=.cP∧Q (.ref x) ay) E) :
  wpAny (model X.prog X.w) X.A (call (.ref C) us) (hr X pins σ Q) X.dN s:=by
 have bo:=h (s.heap.objs.size+1) s.heap.objs.size (I.bG.fresh (le_succ _)) (I.bG.fresh (le_refl _)) (ne_of_lt (Nat.lt_succ_self _))
 have cL:=Inv.made (C:=C) I
 have b3:Vals (V.ref (s.heap.objs.size+1)::(vs++h2)) (Value.ref (s.heap.objs.size+1)::(us++ds)):=.cons rfl (r.append hd)
 have aE:(Value.ref (s.heap.objs.size+1)::us++ds).length=ps.length:=by
  have e:=b3.length
  rw[F.len _ _ _ _ bo]at e
  exact e.symm
 refine wpAny_call (Uk (f:=f) I.gN M.makes M.init (beq_iff_eq.mp M.fn) (codeAny_mono (F.run _ X.stack _ _ ⟨Value.ref (s.heap.objs.size+1)::us,[]⟩ (Value.ref (s.heap.objs.size+1)::(us++ds)) _ _ E (aD.make C us [])
  (cL.Mi.make C us []) (aa _ (Value.ref (s.heap.objs.size+1)::us) cL.gN aE) b3 bo) fun r aJ wo=>?_))
 cases r with
 | error e=>exact bh pins σ _ _ e aJ cL wo
 | ok eW =>
  cases eW with
  | ret u =>
   obtain⟨v,af,cA,bL,ev,fE⟩:=cL.after wo
   subst ev
   exact⟨bL,⟨V.ref (s.heap.objs.size+1),af,cA,rfl,fE⟩⟩
  | next=>exact False.elim wo
  | brk=>exact False.elim wo
  | cont=>exact False.elim wo
theorem JW (M:uF X.K C f) (F:br X.prog X.w X.K X.mg X.base fe k f fd ps sp) (aD:gE (k+1) X.A) (cF:lK X x) (hm:X.mg x=some (.ref C)) (aa:Binds X.K fd ps ds) (hd:Vals h2 ds) (bh:Passes fe X E)
  (bk:mh X (e::aB) t) (r5:(x == ("__debug__":Str))=false:=by decide) (he:starEach (e::aB) X.env=(false,eval e X.env)::starEach aB X.env:=by rfl) (hR:(backTo pos (starEach aB X.env)).any (·.1)=false:=by rfl) :
  b9 X (.Call (.Name x p) (e::aB) [] pos) (Wm C sp h2 E t):=by
 intro pins s σ H Q I h
 refine wpAny_Call_Name_kw (yP I cF hm ?_ r5)
 refine PySem.W.callWith_K (h₀:=X.base) I.ok.mod.tU M.bD (bU (bk pos pins s σ H _ I h) fun us s1 ⟨vs,H1,a3,r,q⟩=>⟨a3.gN,?_⟩) he hR
 exact Tz M F aD aa hd bh a3 r q
end
section
variable {X:bI}{fe:mU}{k:Nat}{f C:Addr}{fd:FuncData}{ps bM:List Str}{sp:dj}{E:hj}{x m:Str}{p pos apos acm:Pos}{e o:Expr}{aB:List Expr}{acP:List Keyword}{b2 dh:TE}{t bF:iK}{nm:Option Str}
structure acg (K:PySem.W.Frag) (fd:FuncData) (ps bM:List Str) (g:List Value→List Value→List Value) (QS:List V→List V→List V):Prop where
 to:∀(s:Shared) (us ws:List Value),K.In s.heap→(g us ws).length=ps.length→BindsTo s fd ⟨us,bM.zip ws⟩ (ps.zip (g us ws))
 rel:∀{vs:List V} {us:List Value} {zs:List V} {ws:List Value},Vals vs us→Vals zs ws→Vals (QS vs zs) (g us ws)
variable {g:List Value→List Value→List Value}{QS:List V→List V→List V}
end
structure dI (N P:List Str) (sc:Scope):Prop where
 kind:sc.kind=.function
 co:sc.isCoroutine=false
 gen:sc.isGenerator=false
 a_:N.Nodup
 pre:N.take P.length=P
 par:∀x∈P,sc.names.lookup x=some .local∨sc.names.lookup x=some .cell
 VX:∀y∈sc.names,y.2≠.free
theorem IV {kindOf:Str→Option NameKind}{x:Str}:∀{binds:List (Str × Value)}{m:Str→Option Value},(∀v,(x,v)∉binds)→bindL kindOf binds m x=m x
 | [],_,_=>rfl
 | (n,v)::r,m,h=>by
  unfold bindL
  rw[IV fun w hw=>h w (mem_cons_of_mem _ hw)]
  split
  ·have:x≠n:=by rintro rfl;exact h v mem_cons_self
   simp[this]
  ·rfl
theorem IX {kindOf:Str→Option NameKind}{x:Str}:∀{binds:List (Str × Value)}{m:Str→Option Value},(∀v,(x,v)∉binds)→bindC kindOf binds m x=m x
 | [],_,_=>rfl
 | (n,v)::r,m,h=>by
  unfold bindC
  rw[IX fun w hw=>h w (mem_cons_of_mem _ hw)]
  split
  ·rfl
  ·have:x≠n:=by rintro rfl;exact h v mem_cons_self
   simp[this]
theorem IW {kindOf:Str→Option NameKind}{x:Str}{v:Value}:∀{P:List Str}{vs:List Value}{i:Nat}{m:Str→Option Value},P.Nodup→P[i]?=some x→vs[i]?=some v→kindOf x=some .local →
  bindL kindOf (P.zip vs) m x=some v
 | [],_,_,_,_,h,_,_=>by simp at h
 | _::_,[],_,_,_,_,h,_=>by simp at h
 | p::P,w::vs,0,m,a_,ak,az,aS=>by
  simp at ak az;subst ak;subst az
  show bindL kindOf ((p,w)::P.zip vs) m p=_
  unfold bindL
  rw[IV fun v aX=>(nodup_cons.mp a_).1 (of_mem_zip aX).1,if_pos aS]
  simp
 | p::P,w::vs,i+1,m,a_,ak,az,aS=>by
  show bindL kindOf ((p,w)::P.zip vs) m x=_
  unfold bindL
  exact IW (i:=i) (nodup_cons.mp a_).2 (by simpa using ak) (by simpa using az) aS
theorem IY {kindOf:Str→Option NameKind}{x:Str}{v:Value}:∀{P:List Str}{vs:List Value}{i:Nat}{m:Str→Option Value},P.Nodup→P[i]?=some x→vs[i]?=some v→kindOf x≠some .local →
  bindC kindOf (P.zip vs) m x=some v
 | [],_,_,_,_,h,_,_=>by simp at h
 | _::_,[],_,_,_,_,h,_=>by simp at h
 | p::P,w::vs,0,m,a_,ak,az,aS=>by
  simp at ak az;subst ak;subst az
  show bindC kindOf ((p,w)::P.zip vs) m p=_
  unfold bindC
  rw[IX fun v aX=>(nodup_cons.mp a_).1 (of_mem_zip aX).1,if_neg aS]
  simp
 | p::P,w::vs,i+1,m,a_,ak,az,aS=>by
  show bindC kindOf ((p,w)::P.zip vs) m x=_
  unfold bindC
  exact IY (i:=i) (nodup_cons.mp a_).2 (by simpa using ak) (by simpa using az) aS
def start (N:List Str) (vs:List V):St:=vs.map some++List.replicate (N.length - vs.length) none
def f9 (fe:mU) (P:Program) (w:World) (K:PySem.W.Frag) (mg:Str→Option Value) (base:Heap) (N:List Str) (qual:Str) (scope:Scope) (f:Addr) (cd:Value) (A:Around) (outer:List Env) (s:Shared) (H:ao) (E:hj):bI where
 prog:=P
 w:=w
 K:=K
 mg:=mg
 base:=base
 A:=A.deeper (envOfC qual scope s.heap.objs.size f cd)
 N:=N
 fP:=s
 xZ:=H
 env:=envOfC qual scope s.heap.objs.size f cd
 outer:=outer
 stack:=envOfC qual scope s.heap.objs.size f cd::outer
 ex:=[]
 calm:=true
 fn:=fun _=>true
 bK:=[]
 dN:=fun e aJ=>wpAny (model P w) (A.deeper (envOfC qual scope s.heap.objs.size f cd)) (leaving (envOfC qual scope s.heap.objs.size f cd) e) (fun _ rW=>fe outer H s E e rW) (fun cX rW=>fe outer H s E cX rW) aJ
theorem Jw {sc:Scope}{n:Nat}{x:Str}(h:sc.names.lookup x=some .cell):∃c,(cellsFrom n sc.names []).lookup x=some c:=by
 have q:=PySem.W.cellsFrom_some sc.names n [] (.inl h)
 exact Option.isSome_iff_exists.mp q
theorem S7 {fe:mU}{P:Program}{w:World}{K:PySem.W.Frag}{mg:Str→Option Value}{base:Heap}{N ps:List Str}{qual:Str}{scope:Scope}{f:Addr}{cd:Value}{A:Around}{outer:List Env}{s s1:Shared}{H:ao}{E:hj}{us:List Value}{vs:List V}
  (S:dI N ps scope) (hd:A.handled=none) (e0:rU P w K mg base A outer s H) (aE:vs.length=ps.length) (r:Vals vs us)
  (x:InCallC s s.heap.objs.size (bindL (envOfC qual scope s.heap.objs.size f cd).kindOf (ps.zip us) fun _=>none) (cellsFrom (s.heap.objs.size+1) scope.names []) (bindC (envOfC qual scope s.heap.objs.size f cd).kindOf (ps.zip us) fun _=>none) s1) :
  Inv (f9 fe P w K mg base N qual scope f cd A outer s H E) [] (start N vs) H s1:=by
 have hR:ps.length≤N.length:=by have:=congrArg List.length S.pre;rw[length_take]at this;omega
 obtain⟨ak,bF,rfl,aS⟩:=x.done
 have wc:∀b:Addr,b∉(f9 fe P w K mg base N qual scope f cd A outer s H E).ex:=fun b z=>absurd (show b∈([]:List Addr) from z) (by simp)
 refine⟨⟨e0.mod,S.kind,rfl,rfl,le_refl _,fun y z c ak az=>?_,fun y ck=>?_,fun y c _ h=>?_,fun _=>hd,Around.frames_deeper e0.frames,.inr ⟨rfl,rfl⟩,fun b z=>absurd z (wc b),e0.bs,e0.ll,fun b _ _=>wc b,fun b z=>absurd z (wc b),e0.j5,e0.nN⟩,
  rfl,e0.bare,hk.kept aS,⟨_,x.toInCall.ns,fun i y v ak az cz=>?_⟩,fun y c h=>⟨_,x.cell y c h⟩,e0.bG.fresh (le_refl _),fun y c h=>?_,fun p aF=>absurd (show p∈([]:List (Addr × Obj)) from aF) (by simp),e0.bG.kept aS,?_⟩
 ·exact name_of_addr x.apart (PySem.mem_of_lookup ak) (PySem.mem_of_lookup az)
 ·have ck:scope.names.lookup y=some .cell∨scope.names.lookup y=some .free:=ck
  rcases ck with ck | ck
  ·exact Jw ck
  ·exact absurd rfl (S.VX _ (PySem.mem_of_lookup ck))
 ·exact le_of_lt (x.above y c (PySem.mem_of_lookup h))
 ·have aL:i<vs.length:=by
   unfold start at az
   by_cases aL:i<vs.length
   ·exact aL
   ·rw[getElem?_append_right (by simpa using aL)]at az
    rw[List.getElem?_replicate]at az
    split at az <;> cases az
  have bk:vs[i]?=some v:=by
   unfold start at az
   rw[getElem?_append_left (by simpa using aL),getElem?_map]at az
   cases e:vs[i]? with
   | none=>rw[e]at az;cases az
   | some a=>rw[e]at az;cases az;rfl
  obtain⟨u,bf,bL⟩:=r.get bk
  have aF:ps[i]?=some y:=by
   rw[←S.pre,List.getElem?_take_of_lt (by omega)];exact ak
  have MQ:ps.Nodup:=by rw[←S.pre];exact S.a_.sublist (List.take_sublist _ _)
  refine⟨u,bL,?_⟩
  rcases S.par y (mem_of_getElem? aF) with k | k
  ·exact .inl ⟨k,IW MQ aF bf k⟩
  ·obtain⟨c,e⟩:=Jw (n:=s.heap.objs.size+1) k
   refine .inr ⟨.inl k,c,e,?_⟩
   have q:=x.cell y c e
   rw[IY MQ aF bf (by show scope.names.lookup y≠_;rw[k];decide)]at q
   exact q
 ·exact e0.bG.fresh (le_of_lt (x.above y c (PySem.mem_of_lookup h)))
 ·unfold start
  show _=N.length
  rw[length_append,length_map,length_replicate]
  omega
theorem La {fe:mU}{P:Program}{w:World}{K:PySem.W.Frag}{mg:Str→Option Value}{base:Heap}{k:Nat}{f:Addr}{name qual:Str}{params:Arguments}{body:List Stmt}{scope:Scope}{AZ eo doc pm cy fc m1:Value}{an e8:Option Addr}
  {pM:Array (Option Value)} {N ps:List Str} {sp:dj} (lk:K.lookup f=some ⟨m1,e8,.func (PySem.W.fnOf name qual params body scope AZ eo doc pm an cy fc),pM⟩) (k_:PySem.W.codeIn K cy qual=true) (S:dI N ps scope)
  (len:∀vs H Q E,sp vs H Q E→vs.length=ps.length)
  (vu:∀(A:Around) (outer:List Env) (s:Shared) (H:ao) (vs:List V) (Q:cD) (E:hj),gE k (A.deeper (envOfC qual scope s.heap.objs.size f cy))→sp vs H Q E →
   ∃t,hC (f9 fe P w K mg base N qual scope f cy A outer s H E) body t∧t { da:=fun _ af=>Q .cP af,l3:=Q } (start N vs) H) :
  br P w K mg base fe (k+1) f (PySem.W.fnOf name qual params body scope AZ eo doc pm an cy fc) ps sp:=by
 refine⟨len,fun A outer s H args us vs Q E aD e0 aa r oH=>?_⟩
 have aE:=len _ _ _ _ oH
 have ob:K.In s.heap:=e0.mod.tU.keeps fun b o e=>(e0.bs b o e).1
 have lim:s.heap.NoLimit:=e0.mod.nolimit.keeps fun b o e=>(e0.bs b o e).1
 have vt:∀y∈ps.zip us,scope.names.lookup y.1=some .local∨(scope.names.lookup y.1=some .cell∧((cellsFrom (s.heap.objs.size+1) scope.names []).lookup y.1).isSome=true):=fun ⟨n,v⟩ ck=>by
  rcases S.par n (of_mem_zip ck).1 with q | q
  ·exact .inl q
  ·exact .inr ⟨q,PySem.W.cellsFrom_some _ _ _ (.inl q)⟩
 refine codeAny_call_function aD.depth (ob _ _ lk) rfl S.co S.gen rfl (PySem.W.codeRec_of ob k_) (aa _ _ _ _ ?_)
 refine wpAny_newFunctionEnv_cells S.kind vt fun env he s1 x=>?_
 subst he
 refine⟨lim.keeps x.toInCall.keep,codeAny_func ?_⟩
 obtain⟨t,aZ,bo⟩:=vu A outer s H vs Q E (aD.deeper _) oH
 have I:Inv (f9 fe P w K mg base N qual scope f cy A outer s H E) [] (start N vs) H s1:=S7 S aD.hd e0 aE r x
 refine wpAny_mono (aZ [] s1 (start N vs) H _ I bo) (fun eW aJ aY=>?_) fun e aJ aY=>aY
 have fin:∀{bA:St} {af:ao} {v:V} {u:Value},Inv (f9 fe P w K mg base N qual scope f cy A outer s H E) [] bA af aJ→RelV v u→Q v af→G2 outer P w H s Q u aJ :=
  fun {bA af v u} J bL q=>⟨v,af,J.os,J.bare,J.base,J.bG,bL,q⟩
 cases eW with
 | ret u =>
  obtain⟨v,bA,af,J,bL,q⟩:=aY
  exact fin J bL q
 | next =>
  obtain⟨bA,af,J,q⟩:=aY
  exact fin (v:=V.cP) (u:=Value.none) J rfl q
 | brk =>
  obtain⟨_,_,_,q⟩:=aY
  exact False.elim q
 | cont =>
  obtain⟨_,_,_,q⟩:=aY
  exact False.elim q
section
variable {X:bI}{x:Str}{p pos:Pos}{e:Expr}{aB:List Expr}{t:iK}{id T:String}{r:List V→ao→cD→Prop}
def MA (r:List V→ao→cD→Prop) (t:iK):TE:=fun σ H Q=>t σ H fun vs H1=>r vs H1 Q
theorem d8 (ai:nt X (.builtin id) r) (cF:lK X x) (hm:X.mg x=none) (aX:bootBuiltins x=some (.builtin id)) (bk:mh X (e::aB) t) (aP:x≠"__name__":=by decide) (r5:(x == ("__debug__":Str))=false:=by decide)
  (he:starEach (e::aB) X.env=(false,eval e X.env)::starEach aB X.env:=by rfl) (hR:(backTo pos (starEach aB X.env)).any (·.1)=false:=by rfl):b9 X (.Call (.Name x p) (e::aB) [] pos) (MA r t):=by
 intro pins s σ H Q I h
 refine wpAny_Call_Name_kw (qv I cF hm aX ?_ aP r5)
 exact PyProof.Rows.callWith_builtin1 (bU (bk pos pins s σ H _ I h) fun us s1 ⟨vs,H1,a3,bz,bx⟩=>ai pins s1 σ H1 vs us Q a3 bz bx) he hR
theorem i9 (ai:nt X (.type T) r) (cF:lK X x) (hm:X.mg x=none) (aX:bootBuiltins x=some (.type T)) (bk:mh X (e::aB) t) (aP:x≠"__name__":=by decide) (r5:(x == ("__debug__":Str))=false:=by decide)
  (he:starEach (e::aB) X.env=(false,eval e X.env)::starEach aB X.env:=by rfl) (hR:(backTo pos (starEach aB X.env)).any (·.1)=false:=by rfl):b9 X (.Call (.Name x p) (e::aB) [] pos) (MA r t):=by
 intro pins s σ H Q I h
 refine wpAny_Call_Name_kw (qv I cF hm aX ?_ aP r5)
 exact PyProof.Rows.callWith_type1 (bU (bk pos pins s σ H _ I h) fun us s1 ⟨vs,H1,a3,bz,bx⟩=>ai pins s1 σ H1 vs us Q a3 bz bx) he hR
end
end L2
namespace gm
open PySem PyProof.Rows
section
open PySem.SeqAt
open PySem.AutoSeq1 (wpAny_loadPart')
open PySem.MeetsSeq PySem.MeetsSeq2 PySem.MeetsSeq3
end
section
variable {prog:Program}{w:World}{A:Around}{E:Value→Shared→Prop}{s:Shared}
def d0 (n d:Nat):Option Int→Nat
 | none=>d
 | some v=>if v<0 then (v+(n:Int)).toNat else min v.toNat n
theorem yz (n d:Nat):d0 n d none=d:=rfl
theorem Cq (n d k:Nat):d0 n d (some (k:Int))=min k n:=by
 show (if (k:Int)<0 then ((k:Int)+(n:Int)).toNat else min (k:Int).toNat n)=min k n
 rw[if_neg (by omega),Int.toNat_natCast]
theorem VD (n d:Nat) (hd:d≤n) (o:Option Int):d0 n d o≤n:=by
 cases o with
 | none=>exact hd
 | some v =>
  show (if v<0 then (v+(n:Int)).toNat else min v.toNat n)≤n
  by_cases aX:v<0
  ·rw[if_pos aX];omega
  ·rw[if_neg aX];exact Nat.min_le_right _ _
theorem J8 (v:Int) (n d:Nat):(if v<0 then max (v+(n:Int)) 0 else min v (n:Int))=((d0 n d (some v):Nat):Int):=by
 show (if v<0 then max (v+(n:Int)) 0 else min v (n:Int))=(((if v<0 then (v+(n:Int)).toNat else min v.toNat n):Nat):Int)
 by_cases aX:v<0
 ·simp only[if_pos aX];omega
 ·simp only[if_neg aX];omega
theorem Sp (lo aL:Option Int) (n:Nat):Builtin.Slice.sliceAdjust lo aL 1 (n:Int)=(((d0 n 0 lo:Nat):Int),((d0 n n aL:Nat):Int)):=by
 have ak:¬((1:Int)<0):=by omega
 unfold Builtin.Slice.sliceAdjust
 simp only[ak,if_false]
 refine Prod.ext ?_ ?_
 ·cases lo with
  | none=>rfl
  | some v=>exact J8 v n 0
 ·cases aL with
  | none=>rfl
  | some v=>exact J8 v n n
theorem R9 (i j:Nat):Builtin.Slice.slicePlaces (i:Int) (j:Int) 1=j - i:=by
 unfold Builtin.Slice.slicePlaces
 have ak:(1:Int) > 0:=by omega
 simp only[ak,if_true,Int.ediv_one]
 split <;> omega
theorem HO {v:Value}{o:Option Int}{Q:Option Int→Shared→Prop}(p:IsPart v o) (h:Q o s):wpAny (model prog w) A (Builtin.Slice.slicePartIndex v) Q E s:=by
 cases p with
 | none=>exact slicePart_none h
 | int i t=>exact slicePart_int h
theorem Rt {dz:Addr}{kc j_:Value}{lo aL:Option Int}{n:Nat}{Q:Int × Int × Nat→Shared→Prop}(aY:s.heap.IsSliceOf dz kc j_ .none) (pl:IsPart kc lo) (pu:IsPart j_ aL)
  (h:Q (((d0 n 0 lo:Nat):Int),1,d0 n n aL - d0 n 0 lo) s):wpAny (model prog w) A (Builtin.Slice.sliceApplied (.ref dz) (pure (n:Int))) Q E s:=by
 obtain⟨os,wz,OE,qV⟩:=id aY
 unfold Builtin.Slice.sliceApplied Builtin.Slice.sliceFields
 refine wpAny_bind (wpAny_bind (wpAny_field wz qV (x:=kc) rfl (wpAny_bind (wpAny_field wz qV (x:=j_) rfl (wpAny_bind (wpAny_field wz qV (x:=.none) rfl (wpAny_pure ?_)))))))
 refine wpAny_bind (slicePart_none ?_)
 show wpAny _ _ (if ((1:Int) == 0)=true then _ else _) _ _ s
 rw[if_neg (by decide)]
 refine wpAny_bind (HO pl (wpAny_bind (HO pu (wpAny_bind (wpAny_pure ?_)))))
 show wpAny _ _ (match Builtin.Slice.sliceAdjust lo aL 1 (n:Int) with | (lo,aL)=>pure (lo,(1:Int),Builtin.Slice.slicePlaces lo aL 1)) _ _ s
 rw[Sp lo aL n]
 show wpAny _ _ (pure (((d0 n 0 lo:Nat):Int),(1:Int),Builtin.Slice.slicePlaces ((d0 n 0 lo:Nat):Int) ((d0 n n aL:Nat):Int) 1)) _ _ s
 rw[R9]
 exact wpAny_pure h
theorem TQ (xs:Array Value) (i k:Nat):((List.range k).filterMap fun (m:Nat)=>xs[((i:Int)+(m:Int) * 1).toNat]?).toArray=((xs.toList.drop i).take k).toArray:=by
 have e:(fun (m:Nat)=>xs[((i:Int)+(m:Int) * 1).toNat]?)=fun m=>xs[i+m]?:=by
  funext m
  have:((i:Int)+(m:Int) * 1).toNat=i+m:=by omega
  rw[this]
 rw[e]
 have:=pick_run xs i k
 rw[List.filterMap_map]at this
 have aM:((fun x=>xs[x]?) ∘ fun x=>i+x)=fun m=>xs[i+m]?:=rfl
 rw[aM]at this
 rw[this]
theorem Rr {t dz:Addr}{items:Array Value}{kc j_:Value}{lo aL:Option Int}{Q:Value→Shared→Prop}(aZ:IsTup s.heap t items) (aY:s.heap.IsSliceOf dz kc j_ .none) (pl:IsPart kc lo) (pu:IsPart j_ aL)
  (hw:¬(d0 items.size 0 lo=0∧d0 items.size items.size aL=items.size))
  (h:Q (.ref s.heap.objs.size) { s with heap:=s.heap.push { cls:=.type "tuple",data:=.seq ((items.toList.drop (d0 items.size 0 lo)).take (d0 items.size items.size aL - d0 items.size 0 lo)).toArray } })
  (hsz:items.size≤sizeLine):wpAny (model prog w) A (getItem (.ref t) (.ref dz)) Q E s:=by
 have zg:sizeOk (.seq ((items.toList.drop (d0 items.size 0 lo)).take (d0 items.size items.size aL - d0 items.size 0 lo)).toArray):=by
  show ((items.toList.drop (d0 items.size 0 lo)).take (d0 items.size items.size aL - d0 items.size 0 lo)).toArray.size≤sizeLine
  rw[size_toArray,length_take,length_drop,Array.length_toList]
  omega
 have di:d0 items.size items.size aL≤items.size:=VD _ _ (le_refl _) aL
 obtain⟨os,wz,OE,qV⟩:=id aY
 have ZZ:s.TypeIs (.ref dz) "slice":=⟨os,wz,OE⟩
 unfold getItem
 try with_reducible refine wpAny_holding ?_
 first | refine wpAny_bind (wpAny_pure ?_) | skip
 refine wpAny_bind (wpAny_sequenceKey aZ.typeIs (by decide) ?_)
 refine wpAny_bind (wpAny_callSpecial?_slot (name:=Str.ofString "__getitem__") aZ.typeIs PyProof.Rows.slot_tuple_getitem
  (wpAny_call_entry PyProof.Rows.slot_tuple_getitem aZ.typeIs entry_tuple_getitem ?_ (args_tuple_getitem _ _)))
 show wpAny _ _ (Builtin.Tuple.tupleItemsOf (.ref t) >>= _) _ _ s
 refine wpAny_bind (tupleItemsOf_ aZ ?_)
 refine wpAny_bind (wpAny_typeOf ZZ ?_)
 rw[if_pos (by decide)]
 refine wpAny_bind (Rt aY pl pu ?_)
 have Zz:¬((((d0 items.size 0 lo:Nat):Int) == 0 && (1:Int) == 1 && (d0 items.size items.size aL - d0 items.size 0 lo) == items.size)=true):=by
  intro q
  rw[and_eq_true,and_eq_true]at q
  have bx:((d0 items.size 0 lo:Nat):Int)=0:=eq_of_beq q.1.1
  have aW:d0 items.size items.size aL - d0 items.size 0 lo=items.size:=eq_of_beq q.2
  exact hw ⟨by omega,by omega⟩
 show wpAny _ _ (if (((d0 items.size 0 lo:Nat):Int) == 0 && (1:Int) == 1 && (d0 items.size items.size aL - d0 items.size 0 lo) == items.size)=true then _ else _) _ _ s
 rw[if_neg Zz,TQ]
 first
  | exact wpAny_bind (m:=Builtin.Tuple.tupleExact _) (wpAny_newObj_type (wpAny_pure ⟨_,rfl,wpAny_pure h⟩) zg)
  | exact wpAny_bind (m:=Builtin.Tuple.tupleExact _) (wpAny_newObj_type (wpAny_bind (wpAny_pure (wpAny_pure ⟨_,rfl,wpAny_pure h⟩))) zg)
  | exact wpAny_bind (wpAny_bind (m:=Builtin.Tuple.tupleExact _) (wpAny_newObj_type (wpAny_pure (wpAny_pure ⟨_,rfl,wpAny_pure h⟩)) zg))
  | exact wpAny_bind (wpAny_bind (m:=Builtin.Tuple.tupleExact _) (wpAny_newObj_type (wpAny_pure ⟨_,rfl,wpAny_pure h⟩) zg))
end
end gm
namespace L2
open PySem PySem.Spec PyProof.Rows
abbrev xV:=St→ao→(Option Int→ao→Prop)→Prop
def A8 (X:bI) (e:Option Expr) (t:xV):Prop :=
 ∀(pins:List (Addr × Obj)) (s:Shared) (σ:St) (H:ao) (Q:Option Int→ao→Prop),Inv X pins σ H s→t σ H Q →
  wpAny (model X.prog X.w) X.A (evalPart e X.env) (fun u aJ=>∃o af,Inv X pins σ af aJ∧IsPart u o∧Q o af) X.dN s
def UH:xV:=fun _ H Q=>Q none H
def Wj (t:TE):xV:=fun σ H Q=>t σ H fun x H1=>∃i,x=.int i∧Q (some i) H1
section
variable {X:bI}{e:Expr}{b2:TE}{lo aL:Option Expr}{h3 AM:xV}{pos es:Pos}
theorem nj:A8 X none UH:=by
 intro pins s σ H Q I h
 rw[evalPart_none]
 exact wpAny_pure ⟨none,H,I,.none,h⟩
theorem ni (h:b9 X e b2):A8 X (some e) (Wj b2):=by
 intro pins s σ H Q I hw
 rw[evalPart_some]
 refine bU (h pins s σ H _ I hw) fun u s1 ⟨x,H1,a3,bz,bx⟩=>?_
 obtain⟨i,rfl,q⟩:=bx
 obtain⟨t,rfl⟩:=bz
 exact⟨some i,H1,a3,.int i t,q⟩
def Fi (X:bI) (r:V→Option Int→Option Int→ao→cD→Prop):Prop :=
 ∀(pins:List (Addr × Obj)) (s:Shared) (σ:St) (H:ao) (x:V) (v kc j_:Value) (lo aL:Option Int) (dz:Addr) (Q:cD),Inv X pins σ H s→RelV x v→s.heap.IsSliceOf dz kc j_ .none→IsPart kc lo→IsPart j_ aL→r x lo aL H Q →
  ∃T id,typeLookup (.type T) "__getitem__"=pure (some (.builtin id))∧s.TypeIs v T∧wpAny (model X.prog X.w) X.A (getItem v (.ref dz)) (hr X pins σ Q) X.dN s
def Yq (r:V→Option Int→Option Int→ao→cD→Prop) (b2:TE) (h3 AM:xV):TE:=fun σ H Q=>b2 σ H fun x H1=>h3 σ H1 fun l ay=>AM σ ay fun u aT=>r x l u aT Q
theorem nf {r:V→Option Int→Option Int→ao→cD→Prop}(aD:Fi X r) (he:b9 X e b2) (aE:A8 X lo h3) (bf:A8 X aL AM):b9 X (.Subscript e (.Slice lo aL none es) pos) (Yq r b2 h3 AM):=by
 intro pins s σ H Q I h
 refine Subscript_ (bU (he pins s σ H _ I h) fun v s1 ⟨x,H1,a3,bz,bx⟩=>?_)
 refine wpAny_Slice (bU (aE pins s1 σ H1 _ a3 bx) fun kc s2 ⟨l,ay,cL,pl,aW⟩=>bU (bf pins s2 σ ay _ cL aW) fun j_ s3 ⟨u,aT,cA,pu,fE⟩=>?_)
 rw[evalPart_none]
 refine wpAny_pure ?_
 have jY:Inv X pins σ aT { s3 with heap:=s3.heap.push { cls:=.type "slice",data:=.fields #[kc,j_,.none] } }:=cA.kept (t':=s3.toks) fun b bY q=>get?_push_of_some _ q
 obtain⟨T,id,i3,aZ,cF⟩:=aD pins { s3 with heap:=s3.heap.push { cls:=.type "slice",data:=.fields #[kc,j_,.none] } } σ aT x v kc j_ l u s3.heap.objs.size Q jY bz (Heap.IsSliceOf.new ..) pl pu fE
 show wpAny (model X.prog X.w) X.A (subscriptTail e (.Slice lo aL none es) v (.ref s3.heap.objs.size)) (hr X pins σ Q) X.dN { s3 with heap:=s3.heap.push { cls:=.type "slice",data:=.fields #[kc,j_,.none] } }
 exact tail_any (ops:=[.ref s3.heap.objs.size,v]) aZ i3 cF (by with_unfolding_all rfl)
def eX (xs:List V) (lo aL:Option Int):List V:=(xs.drop (gm.d0 xs.length 0 lo)).take (gm.d0 xs.length xs.length aL - gm.d0 xs.length 0 lo)
theorem yi (xs:List V) (lo aL:Option Int):(eX xs lo aL).length≤xs.length:=by
 unfold eX
 rw[length_take,length_drop]
 omega
def Xy (K:PySem.W.Frag):V→Option Int→Option Int→ao→cD→Prop:=fun x lo aL H Q=>∃a xs,x=.ref a∧aG K H a xs ∧
 ¬(gm.d0 xs.length 0 lo=0∧gm.d0 xs.length xs.length aL=xs.length)∧∀p,H p=none→Q (.ref p) (upd H p (.tup (eX xs lo aL)))
theorem Kz:Fi X (Xy X.K):=by
 intro pins s σ H x v kc j_ lo aL dz Q I bH aY pl pu h
 obtain⟨a,xs,rfl,bh,hw,q⟩:=h
 cases bH
 obtain⟨its,r,aZ,hz⟩:=I.tuple bh
 have hlen:its.toArray.size=xs.length:=by rw[size_toArray];exact r.length.symm
 refine⟨"tuple",_,PyProof.Rows.slot_tuple_getitem.lookup,aZ.typeIs,?_⟩
 refine gm.Rr aZ aY pl pu (by rw[hlen];exact hw) ?_ (by rw[hlen];exact hz)
 rw[hlen]
 refine⟨.ref s.heap.objs.size,_,I.laid (t':=s.toks) (o:=.tup (eX xs lo aL)) (fun b bY q=>get?_push_of_some _ q) (le_refl _) ?_,rfl,q _ (I.bG.fresh (le_refl _))⟩
 exact⟨le_trans (yi xs lo aL) hz,_,(r.drop (gm.d0 xs.length 0 lo)).take (gm.d0 xs.length xs.length aL - gm.d0 xs.length 0 lo),IsTup.new _ _⟩
end
def oF (n:Nat) (i:Int):Option Nat:=if 0≤i then (if i<n then some i.toNat else none) else if -(n:Int)≤i then some (i+n).toNat else none
def nQ {α:Type}(xs:List α) (i:Int):Option α:=(oF xs.length i).bind fun j=>xs[j]?
theorem J4 {n:Nat}{i:Int}{j:Nat}(h:oF n i=some j):seqIndex? i n=some j∧j<n ∧ -(n:Int)≤i∧i<n:=by
 unfold oF at h
 by_cases h0:0≤i
 ·rw[if_pos h0]at h
  by_cases ak:i<n
  ·rw[if_pos ak]at h
   have e:i.toNat=j:=Option.some.inj h
   exact⟨by rw[seqIndex_of h0 ak,e],by omega,by omega,ak⟩
  ·rw[if_neg ak]at h;cases h
 ·rw[if_neg h0]at h
  by_cases ak : -(n:Int)≤i
  ·rw[if_pos ak]at h
   have e:(i+n).toNat=j:=Option.some.inj h
   exact⟨by rw[seqIndex_neg (by omega) ak,e],by omega,ak,by omega⟩
  ·rw[if_neg ak]at h;cases h
theorem Ka {α:Type}{xs:List α}{i:Int}{v:α}(h:nQ xs i=some v):∃j,seqIndex? i xs.length=some j∧xs[j]?=some v∧j<xs.length ∧ -(xs.length:Int)≤i∧i<xs.length:=by
 unfold nQ at h
 cases e:oF xs.length i with
 | none=>rw[e]at h;cases h
 | some j =>
  rw[e]at h
  obtain⟨ak,az,cz,dA⟩:=J4 e
  exact⟨j,ak,h,az,cz,dA⟩
theorem fh {α:Type}{xs:List α}{j:Nat}{v:α}(h:xs[j]?=some v):nQ xs (j:Int)=some v:=by
 have di:j<xs.length:=(List.getElem?_eq_some_iff.mp h).1
 have e:oF xs.length (j:Int)=some j:=by
  unfold oF
  rw[if_pos (by omega),if_pos (by omega)];simp
 unfold nQ;rw[e];exact h
def Vr (b:Expr):Prop:=∀o i,subscripted b false o i=operate [o,i] (getItem o i)
def wY (X:bI) (r:jV):Prop :=
 ∀(value slice:Expr) (pins:List (Addr × Obj)) (s:Shared) (σ:St) (H:ao) (x y:V) (v u:Value) (Q:cD),Inv X pins σ H s→RelV x v→RelV y u→r x y H Q →
  subscripted slice false v u=operate [v,u] (getItem v u)→wpAny (model X.prog X.w) X.A (subscriptTail value slice v u) (hr X pins σ Q) X.dN s
def P4 (X:bI) (id:String) (r:V→List V→ao→cD→Prop):Prop :=
 ∀(pins:List (Addr × Obj)) (s:Shared) (σ:St) (H:ao) (x:V) (xs:List V) (v:Value) (us:List Value) (Q:cD),Inv X pins σ H s→RelV x v→Vals xs us→r x xs H Q →
  wpAny (model X.prog X.w) X.A (call (.builtin id) (v::us)) (hr X pins σ Q) X.dN s
section
variable {X:bI}{a b:Expr}{dh dG:TE}{pos:Pos}
theorem bE {r:jV}(aD:wY X r) (bk:b9 X a dh) (aa:b9 X b dG) (aY:Vr b):b9 X (.Subscript a b pos) (zX r dh dG):=by
 intro pins s σ H Q I h
 exact Subscript_ (D2 bk aa I h fun v u s2 x y ay cL bH bQ q=>aD a b pins s2 σ ay x y v u Q cL bH bQ q (aY _ _))
def DQ (K:PySem.W.Frag):jV:=fun x y H Q=>∃p xs i v,x=.ref p∧y=.int i∧aO K H p xs∧nQ xs i=some v∧Q v H
def LL (K:PySem.W.Frag):jV:=fun x y H Q=>∃p xs i v,x=.ref p∧y=.int i∧aG K H p xs∧nQ xs i=some v∧Q v H
theorem fq:wY X (DQ X.K):=by
 intro value slice pins s σ H x y v u Q I bH bQ h aY
 obtain⟨p,xs,i,z,rfl,rfl,bo,he,q⟩:=h
 cases bH
 obtain⟨t,rfl⟩:=bQ
 obtain⟨its,r,pl,hz⟩:=I.list bo
 obtain⟨j,ak,az,cz,dA,gz⟩:=Ka he
 obtain⟨w,kl,kF⟩:=r.get az
 have aE:=r.length
 have aP:=yY
 have fin:hr X pins σ Q w s:=⟨z,H,I,kF,q⟩
 by_cases h0:0≤i
 ·have di:i.toNat=j:=by
   rw[seqIndex_of h0 gz]at ak
   exact Option.some.inj ak
  exact item_listR pl.isList h0 (by omega) (by rw[di];simpa using kl) fin aY
 ·have di:(i+(its.toArray.size:Int)).toNat=j:=by
   rw[seqIndex_neg (by omega) dA]at ak
   rw[size_toArray,←aE]
   exact Option.some.inj ak
  exact subscriptTail_builtinR (x:=w) pl.isList.typeIs slot_list_getitem.lookup
   (wpAny_getItem_list_neg (Q:=fun r aJ=>r=w∧hr X pins σ Q r aJ) pl.isList (by omega) (by rw[size_toArray] <;> omega) (by omega) (by rw[di];simpa using kl) ⟨rfl,fin⟩) aY
theorem b6:wY X (LL X.K):=by
 intro value slice pins s σ H x y v u Q I bH bQ h aY
 obtain⟨p,xs,i,z,rfl,rfl,bo,he,q⟩:=h
 cases bH
 obtain⟨t,rfl⟩:=bQ
 obtain⟨its,r,pl,hz⟩:=I.tuple bo
 obtain⟨j,ak,az,cz,dA,gz⟩:=Ka he
 obtain⟨w,kl,kF⟩:=r.get az
 have aE:=r.length
 have aP:=yY
 have fin:hr X pins σ Q w s:=⟨z,H,I,kF,q⟩
 exact subscriptTail_builtinR (x:=w) pl.typeIs slot_tuple_getitem.lookup
  (getItem_tuple (j:=j) (Q:=fun r aJ=>r=w∧hr X pins σ Q r aJ) pl (by omega) (by omega) (by rw[size_toArray,←aE];exact ak) (by simpa using kl) ⟨rfl,fin⟩) aY
theorem Sf (its:List Value) (n j:Nat) (u:Value):Obj.mapSeq (·.setIfInBounds j u) { cls:=.type "list",data:=.seq its.toArray n }={ cls:=.type "list",data:=.seq (its.set j u).toArray n }:=by
 simp[Obj.mapSeq]
theorem Inv.lst {pins:List (Addr × Obj)}{σ:St}{H:ao}{s:Shared}{p:Addr}{xs:List V}(I:Inv X pins σ H s) (h:H p=some (.lst xs)) :
  ∃(its:List Value) (n:Nat),Vals xs its∧s.heap.get? p=some { cls:=.type "list",data:=.seq its.toArray n }∧xs.length≤sizeLine:=by
 obtain⟨z,its,n,r,e⟩:=I.bG p _ h
 exact⟨its,n,r,e,z⟩
theorem Inv.VY {pins:List (Addr × Obj)}{σ:St}{H:ao}{s:Shared}{p:Addr}{xs ys:List V}{its its':List Value}{n jP:Nat}{f:Obj→Obj}(I:Inv X pins σ H s) (h:H p=some (.lst xs))
  (aC:s.heap.get? p=some { cls:=.type "list",data:=.seq its.toArray n }) (hf:f { cls:=.type "list",data:=.seq its.toArray n }={ cls:=.type "list",data:=.seq its'.toArray jP }) (r:Vals ys its') (hz:ys.length≤sizeLine) (t:Nat) :
  Inv X pins σ (upd H p (.lst ys)) { s with heap:=s.heap.update p f,toks:=t }:=by
 have e:(s.heap.update p f).get? p=some { cls:=.type "list",data:=.seq its'.toArray jP }:=by
  rw[get?_update_self f aC (by rw[hf] <;> rfl),hf]
 refine I.write (x:=p) (e:=p) (by rw[h];trivial) (.inl rfl) (fun b u aa q=>(get?_update_other _ _ (Ne.symm aa)).trans q) ⟨_,e⟩ ?_
 exact⟨hz,its',jP,r,e⟩
def Wz:V→V→V→ao→(ao→Prop)→Prop:=fun o i v H Q=>∃p xs k j,o=.ref p∧i=.int k∧H p=some (.lst xs)∧oF xs.length k=some j∧Q (upd H p (.lst (xs.set j v)))
theorem set_list:Mm X Wz:=by
 intro pins s σ H o i v b0 i1 u Q I lx aa7 bL h
 obtain⟨p,xs,k,j,rfl,rfl,aF,di,q⟩:=h
 cases lx
 obtain⟨t,rfl⟩:=aa7
 obtain⟨its,n,r,aC,hz⟩:=I.lst aF
 obtain⟨ak,az,cz,dA⟩:=J4 di
 have aE:=r.length
 have aP:=yY
 have fo:Inv X pins σ (upd H p (.lst (xs.set j v))) { s with heap:=s.heap.update p (Obj.mapSeq (·.setIfInBounds j u)) } :=
  I.VY aF aC (Sf its n j u) (r.set bL j) (by rw[length_set];exact hz) s.toks
 by_cases h0:0≤k
 ·have aS:k.toNat=j:=by
   rw[seqIndex_of h0 dA]at ak
   exact Option.some.inj ak
  exact PySem.W.ki_setAt aC h0 (by omega) (by rw[size_toArray,←aE];exact dA) (by rw[aS];exact⟨_,fo,q⟩)
 ·have aS:(k+(its.toArray.size:Int)).toNat=j:=by
   rw[seqIndex_neg (by omega) cz]at ak
   rw[size_toArray,←aE]
   exact Option.some.inj ak
  exact PySem.W.ki_setBack aC (by omega) (by rw[size_toArray,←aE];exact cz) (by omega) (by rw[aS];exact⟨_,fo,q⟩)
theorem RK (lo aL:Option Int) (n:Nat):(sliceBounds lo aL none n).1=((gm.d0 n 0 lo:Nat):Int)∧(sliceBounds lo aL none n).2.1=((gm.d0 n n aL:Nat):Int)∧(sliceBounds lo aL none n).2.2=1:=by
 refine⟨?_,?_,rfl⟩
 ·cases lo with
  | none=>simp[sliceBounds,gm.d0]
  | some i =>
   simp only[sliceBounds,gm.d0,Option.getD_none,show (1:Int) > 0 by decide,if_true]
   by_cases h:i<0
   ·simp only[h,if_true] <;> omega
   ·simp only[h,if_false] <;> omega
 ·cases aL with
  | none=>simp[sliceBounds,gm.d0]
  | some i =>
   simp only[sliceBounds,gm.d0,Option.getD_none,show (1:Int) > 0 by decide,if_true]
   by_cases h:i<0
   ·simp only[h,if_true] <;> omega
   ·simp only[h,if_false] <;> omega
theorem RA (its:List Value) (lo aL:Option Int):slicePick its.toArray lo aL none=((its.drop (gm.d0 its.length 0 lo)).take (gm.d0 its.length its.length aL - gm.d0 its.length 0 lo)).toArray:=by
 obtain⟨ak,az,cz⟩:=RK lo aL its.toArray.size
 unfold slicePick
 rw[ak,az,cz]
 simp only[sliceRange_one,pick_run,size_toArray] <;> rfl
def Xz (K:PySem.W.Frag):V→Option Int→Option Int→ao→cD→Prop:=fun x lo aL H Q=>∃a xs,x=.ref a∧aO K H a xs∧∀p,H p=none→Q (.ref p) (upd H p (.lst (eX xs lo aL)))
theorem pa:Fi X (Xz X.K):=by
 intro pins s σ H x v kc j_ lo aL dz Q I bH aY pl pu h
 obtain⟨a,xs,rfl,bh,q⟩:=h
 cases bH
 obtain⟨its,r,aZ,hz⟩:=I.list bh
 have hlen:=r.length
 refine⟨"list",_,slot_list_getitem.lookup,aZ.isList.typeIs,?_⟩
 refine wpAny_getItem_list_slice aZ.isList aY pl pu .none (by simp) ?_ (by rw[size_toArray] <;> omega)
 rw[RA,←hlen]
 refine⟨.ref s.heap.objs.size,_,I.laid (t':=s.toks) (o:=.lst (eX xs lo aL)) (fun b bY q=>get?_push_of_some _ q) (le_refl _) ?_,rfl,q _ (I.bG.fresh (le_refl _))⟩
 exact⟨le_trans (yi xs lo aL) hz,_,0,(r.drop (gm.d0 xs.length 0 lo)).take (gm.d0 xs.length xs.length aL - gm.d0 xs.length 0 lo),get?_push_size _ rfl⟩
def pz:V→Bool
 | .cP=>true
 | .bV _=>true
 | .int _=>true
 | .str _=>true
 | _=>false
def pT:V→V→Bool
 | .cP,.cP=>true
 | .bV a,.bV b=>a == b
 | .bV a,.int b=>(if a then 1 else 0) == b
 | .int a,.bV b=>a == (if b then 1 else 0)
 | .int a,.int b=>a == b
 | .str a,.str b=>a == b
 | _,_=>false
theorem Wc {A:Around}{s:Shared}{y x:V}{u v:Value}(bQ:RelV y u) (bH:RelV x v) (rd:pz y=true) (ma:pz x=true):SeqAt.EqAt A s u v (pT y x):=by
 cases y with
 | cP =>
  cases bQ
  cases x with
  | cP=>cases bH;exact SeqAt.EqAt.same _
  | bV b=>cases bH;exact SeqAt.EqAt.none_bool b
  | int b=>obtain⟨t,rfl⟩:=bH;exact SeqAt.EqAt.none_int b t
  | str b=>obtain⟨t,rfl⟩:=bH;exact SeqAt.EqAt.none_str b t
  | _=>exact absurd (show false=true from ma) Bool.false_ne_true
 | bV a =>
  cases bQ
  cases x with
  | cP=>cases bH;exact SeqAt.EqAt.bool_none a
  | bV b=>cases bH;exact SeqAt.EqAt.bool_bool a b
  | int b=>obtain⟨t,rfl⟩:=bH;exact SeqAt.EqAt.bool_int a b t
  | str b=>obtain⟨t,rfl⟩:=bH;exact SeqAt.EqAt.bool_str a b t
  | _=>exact absurd (show false=true from ma) Bool.false_ne_true
 | int a =>
  obtain⟨t',rfl⟩:=bQ
  cases x with
  | cP=>cases bH;exact SeqAt.EqAt.int_none a t'
  | bV b=>cases bH;exact SeqAt.EqAt.int_bool a t' b
  | int b=>obtain⟨t,rfl⟩:=bH;exact SeqAt.EqAt.int_int a t' b t
  | str b=>obtain⟨t,rfl⟩:=bH;exact SeqAt.EqAt.int_str a t' b t
  | _=>exact absurd (show false=true from ma) Bool.false_ne_true
 | str a =>
  obtain⟨t',rfl⟩:=bQ
  cases x with
  | cP=>cases bH;exact SeqAt.EqAt.str_none a t'
  | bV b=>cases bH;exact SeqAt.EqAt.str_bool a t' b
  | int b=>obtain⟨t,rfl⟩:=bH;exact SeqAt.EqAt.str_int a t' b t
  | str b=>obtain⟨t,rfl⟩:=bH;exact SeqAt.EqAt.str_str a t' b t
  | _=>exact absurd (show false=true from ma) Bool.false_ne_true
 | _=>exact absurd (show false=true from rd) Bool.false_ne_true
def kK (x:V) (u:Value):Bool:=match u with
 | .none=>pT .cP x
 | .bool b=>pT (.bV b) x
 | .int i _=>pT (.int i) x
 | .str z _=>pT (.str z) x
 | _=>false
theorem KS {x y:V}{u:Value}(r:RelV y u) (f:pz y=true):kK x u=pT y x:=by
 cases y with
 | cP=>cases r;rfl
 | bV b=>cases r;rfl
 | int i=>obtain⟨t,rfl⟩:=r;rfl
 | str z=>obtain⟨t,rfl⟩:=r;rfl
 | _=>exact absurd (show false=true from f) Bool.false_ne_true
theorem u_ {x:V}:∀{xs:List V}{us:List Value},Vals xs us→xs.all pz=true→us.any (kK x)=xs.any fun y=>pT y x
 | _,_,.nil,_=>rfl
 | y::xs,u::us,.cons r t,f=>by
  rw[List.all_cons,and_eq_true]at f
  rw[any_cons,any_cons,KS r f.1,u_ t f.2]
theorem u2 {A:Around}{s:Shared}{x:V}{v:Value}(bH:RelV x v) (ma:pz x=true):∀{xs:List V}{us:List Value},Vals xs us→xs.all pz=true→∀u∈us,SeqAt.EqAt A s u v (kK x u)
 | _,_,.nil,_=>fun u bf=>by cases bf
 | y::xs,u::us,.cons r t,f=>fun oV bf=>by
  rw[List.all_cons,and_eq_true]at f
  rcases mem_cons.mp bf with rfl | bf
  ·rw[KS r f.1];exact Wc r bH f.1 ma
  ·exact u2 bH ma t f.2 oV bf
def iw (x:V) (xs:List V):Bool:=xs.any fun y=>pT y x
def MG (K:PySem.W.Frag) (neg:Bool):jV:=fun x y H Q=>∃p xs,y=.ref p∧(aO K H p xs∨aG K H p xs)∧pz x=true∧xs.all pz=true∧Q (.bV (if neg then !iw x xs else iw x xs)) H
theorem IC:hD X (compareOp .In) (MG X.K false):=by
 intro pins s σ H x y v u Q I bH bQ h
 obtain⟨p,xs,rfl,bo,ma,bP,q⟩:=h
 cases bQ
 rcases bo with bo | bo
 ·obtain⟨its,r,pl,hz⟩:=I.list bo
  refine SeqAt.in_listAt (kK x) pl.isList (fun w hw=>u2 bH ma r bP w (by simpa using hw)) ⟨.bV _,H,I,rfl,?_⟩
  rw[show its.toArray.any (kK x)=its.any (kK x) by simp,u_ r bP]
  exact q
 ·obtain⟨its,r,pl,hz⟩:=I.tuple bo
  refine SeqAt.in_tupleAt (kK x) pl (fun w hw=>u2 bH ma r bP w (by simpa using hw)) ⟨.bV _,H,I,rfl,?_⟩
  rw[show its.toArray.any (kK x)=its.any (kK x) by simp,u_ r bP]
  exact q
theorem RL:hD X (compareOp .NotIn) (MG X.K true):=by
 intro pins s σ H x y v u Q I bH bQ h
 obtain⟨p,xs,rfl,bo,ma,bP,q⟩:=h
 cases bQ
 rcases bo with bo | bo
 ·obtain⟨its,r,pl,hz⟩:=I.list bo
  refine SeqAt.notIn_listAt (kK x) pl.isList (fun w hw=>u2 bH ma r bP w (by simpa using hw)) ⟨.bV _,H,I,rfl,?_⟩
  rw[show its.toArray.any (kK x)=its.any (kK x) by simp,u_ r bP]
  exact q
 ·obtain⟨its,r,pl,hz⟩:=I.tuple bo
  refine SeqAt.notIn_tupleAt (kK x) pl (fun w hw=>u2 bH ma r bP w (by simpa using hw)) ⟨.bV _,H,I,rfl,?_⟩
  rw[show its.toArray.any (kK x)=its.any (kK x) by simp,u_ r bP]
  exact q
theorem f6:nt X (.builtin "len") (fun xs H Q=>∃p ys,xs=[.ref p]∧(aO X.K H p ys∨aG X.K H p ys)∧Q (.int ys.length) H):=by
 intro pins s σ H xs us Q I r h
 obtain⟨p,ys,rfl,bo,q⟩:=h
 obtain⟨u,rfl,bH⟩:=vals1 r
 cases bH
 have aP:=yY
 rcases bo with bo | bo
 ·obtain⟨its,fR,pl,hz⟩:=I.list bo
  have hlen:=fR.length
  exact Calls.call_len_list pl.isList (by simp only[size_toArray] <;> omega) ⟨.int ys.length,H,I.tok _,⟨s.toks+1,by rw[size_toArray,hlen]⟩,q⟩
 ·obtain⟨its,fR,pl,hz⟩:=I.tuple bo
  have hlen:=fR.length
  exact len_tuple pl (by simp only[size_toArray] <;> omega) ⟨.int ys.length,H,I.tok _,⟨s.toks+1,by rw[size_toArray,hlen]⟩,q⟩
theorem nd:nt X (.type "list") (fun xs H Q=>∃p ys,xs=[.ref p]∧(aO X.K H p ys∨aG X.K H p ys)∧∀l,H l=none→Q (.ref l) (upd H l (.lst ys))):=by
 intro pins s σ H xs us Q I r h
 obtain⟨p,ys,rfl,bo,q⟩:=h
 obtain⟨u,rfl,bH⟩:=vals1 r
 cases bH
 have fin:∀(its:List Value),Vals ys its→ys.length≤sizeLine→∀(h':Heap) (fJ:Nat),(∀b fl,s.heap.get? b=some fl→h'.get? b=some fl) →
   h'.get? s.heap.objs.size=some { cls:=.type "list",dict:=none,data:=.seq its.toArray fJ,slots := #[] }→hr X pins σ Q (.ref s.heap.objs.size) { s with heap:=h' }:=fun its fR hz h' fJ bD e =>
  ⟨.ref s.heap.objs.size,_,I.laid (t':=s.toks) bD (le_refl _) (show fM X.prog X.w _ h' _ (.lst ys) from ⟨hz,its,fJ,fR,e⟩),rfl,q _ (I.bG.fresh (le_refl _))⟩
 rcases bo with bo | bo
 ·obtain⟨its,fR,pl,hz⟩:=I.list bo
  have hlen:=fR.length
  obtain⟨o,aC,ai,n,hd⟩:=pl.isList
  exact call_list_seq p (.inl rfl) aC ai hd (fun h' fJ bD e=>fin its fR hz h' fJ bD e) (by simp only[size_toArray] <;> omega)
 ·obtain⟨its,fR,pl,hz⟩:=I.tuple bo
  have hlen:=fR.length
  obtain⟨o,aC,ai,n,hd⟩:=pl
  exact call_list_seq p (.inr rfl) aC ai hd (fun h' fJ bD e=>fin its fR hz h' fJ bD e) (by simp only[size_toArray] <;> omega)
def D8 (K:PySem.W.Frag) (T:String) (x:V) (H:ao):Prop:=match x with
 | .str _=>T="str"
 | .int _=>T="int"
 | .ref p=>(T="list"∧∃xs,aO K H p xs)∨(T="tuple"∧∃o,K.lookup p=some o∧o.cls=.type "tuple"∧o.dict=none) ∨
   (T="dict"∧((∃kvs,H p=some (.bS kvs))∨∃kvs,H p=some (.gJ kvs)))∨(T="set"∧∃S n,H p=some (.set S n))
 | _=>False
theorem Kg {pins:List (Addr × Obj)}{σ:St}{H:ao}{s:Shared}{T:String}{x:V}{v:Value}(I:Inv X pins σ H s) (r:RelV x v) (ty:D8 X.K T x H) :
  s.TypeIs v T∧∀a,v=.ref a→∃bY,s.heap.get? a=some bY∧bY.dict=none:=by
 cases x with
 | str z =>
  obtain⟨t,rfl⟩:=r
  cases (show T="str" from ty)
  exact⟨typeIs_str s z t,fun _ e=>nomatch e⟩
 | int i =>
  obtain⟨t,rfl⟩:=r
  cases (show T="int" from ty)
  exact⟨typeIs_int s i t,fun _ e=>nomatch e⟩
 | ref p =>
  cases r
  rcases ty with ⟨rfl,xs,bo⟩ | ⟨rfl,o,aS,ai,hd⟩ | ⟨rfl,aS⟩ | ⟨rfl,S,n,aS⟩
  ·obtain⟨its,_,pl,_⟩:=I.list bo
   refine⟨pl.isList.typeIs,fun a e=>?_⟩
   cases e
   obtain⟨o,n,e,c,hd,_⟩:=pl
   exact⟨o,e,hd⟩
  ·refine⟨⟨o,I.gN p o aS,ai⟩,fun a e=>?_⟩
   cases e
   exact⟨o,I.gN _ o aS,hd⟩
  ·have z:∃o,s.heap.get? p=some o∧o.ExactDict:=by
    rcases aS with ⟨kvs,aS⟩ | ⟨kvs,aS⟩
    ·obtain⟨_,_,_,_,o,_,_,e,ex,_⟩:=I.bG p _ aS
     exact⟨o,e,ex⟩
    ·obtain⟨_,_,_,_,o,_,_,e,ex,_⟩:=I.bG p _ aS
     exact⟨o,e,ex⟩
   obtain⟨o,e,ex⟩:=z
   refine⟨⟨o,e,ex.1⟩,fun a aM=>?_⟩
   cases aM
   exact⟨o,e,ex.2.1⟩
  ·obtain⟨o,_,_,_,e,ex,_⟩:=I.bG p _ aS
   refine⟨⟨o,e,ex.1⟩,fun a aM=>?_⟩
   cases aM
   exact⟨o,e,ex.2.1⟩
 | _=>exact False.elim ty
def Xe (K:PySem.W.Frag) (T:String) (r:V→List V→ao→cD→Prop) (to:TE):TE:=fun σ H Q=>to σ H fun x H1=>D8 K T x H1∧r x [] H1 Q
def Yr (K:PySem.W.Frag) (T:String) (r:V→List V→ao→cD→Prop) (to:TE) (t:iK):TE:=fun σ H Q=>to σ H fun x H1=>D8 K T x H1∧t σ H1 fun xs ay=>r x xs ay Q
variable {o e:Expr}{aB:List Expr}{to:TE}{t:iK}{name:Str}{apos gU:Pos}{T id:String}{r:V→List V→ao→cD→Prop}
theorem KL (q5:PlainAttrs T) (slot:Slot T name id) (wj:typeOf (.builtin id)=pure (.type "method_descriptor")) (hm:P4 X id r) (aC:b9 X o to)
  (Dy:attributeBase o name X.env (eval o X.env)=eval o X.env:=by rfl) (Dv:(apos.endLine == gU.line)=true:=by rfl):b9 X (.Call (.Attribute o name apos) [] [] gU) (Xe X.K T r to):=by
 intro pins s σ H Q I h
 refine wpAny_Call_method0_late Dy Dv (bU (aC pins s σ H _ I h) fun v s1 ⟨x,H1,a3,bz,ty,bx⟩=>?_)
 obtain⟨ak,az⟩:=Kg a3 bz ty
 exact⟨T,id,q5,slot,wj,ak,az,Calls.callWith_builtin rfl (PySem.evalArgs_none (hm pins s1 σ H1 x [] v [] Q a3 bz .nil bx))⟩
theorem iS (q5:PlainAttrs T) (slot:Slot T name id) (wj:typeOf (.builtin id)=pure (.type "method_descriptor")) (hm:P4 X id r) (aC:b9 X o to) (bk:mh X (e::aB) t)
  (Dy:attributeBase o name X.env (eval o X.env)=eval o X.env:=by rfl)
  (X7:((backTo gU (starEach (e::aB) X.env)).all (fun x => !x.1) && (backToKw gU (keywordEach [] X.env)).all (fun x=>x.1.isSome)
   && decide ((e::aB).length+([]:List Keyword).length+(if ([]:List Keyword).isEmpty then 0 else 1)<30))=true:=by rfl)
  (Dv:(apos.endLine == gU.line)=true:=by rfl) (aY:starEach (e::aB) X.env=(false,eval e X.env)::starEach aB X.env:=by rfl) (V8:(backTo gU (starEach aB X.env)).any (·.1)=false:=by rfl) :
  b9 X (.Call (.Attribute o name apos) (e::aB) [] gU) (Yr X.K T r to t):=by
 intro pins s σ H Q I h
 refine wpAny_Call_method_late Dy X7 Dv rfl (bU (aC pins s σ H _ I h) fun v s1 ⟨x,H1,a3,bz,ty,bx⟩=>?_)
 obtain⟨ak,az⟩:=Kg a3 bz ty
 refine⟨T,id,q5,slot,wj,ak,az,?_⟩
 have sA:=bk gU pins s1 σ H1 _ a3 bx
 rw[aY]at sA ⊢
 refine Calls.callWith_builtin (by show (false || (backTo gU (starEach aB X.env)).any (·.1))=false;rw[V8] <;> rfl) (Calls.evalArgs_plain ?_)
 exact bU sA fun us s2 ⟨vs,ay,cL,b3,aW⟩=>hm pins s2 σ ay x vs v us Q cL bz b3 aW
end
def wW (X:bI) (id:String) (r:V→List V→ao→cD→Prop):Prop :=
 ∀(pins:List (Addr × Obj)) (s:Shared) (σ:St) (H:ao) (x:V) (xs:List V) (v:Value) (us:List Value) (Q:cD),Inv X pins σ H s→RelV x v→Vals xs us→r x xs H Q →
  wpAny (model X.prog X.w) X.A (call (.builtin id) (v::us)) (hr X pins σ Q) X.dN s
theorem Vals.one:∀{x:V}{us:List Value},Vals [x] us→∃u,us=[u]∧RelV x u
 | _,_,.cons r .nil=>⟨_,rfl,r⟩
theorem Vals.two:∀{x y:V}{us:List Value},Vals [x,y] us→∃u v,us=[u,v]∧RelV x u∧RelV y v
 | _,_,_,.cons r (.cons q .nil)=>⟨_,_,rfl,r,q⟩
theorem Vals.zero:∀{us:List Value},Vals [] us→us=[]
 | _,.nil=>rfl
theorem Vals.dropLast {xs:List V}{us:List Value}(h:Vals xs us):Vals xs.dropLast us.dropLast:=by
 induction h with
 | nil=>exact .nil
 | cons r t cC =>
  cases t with
  | nil=>exact .nil
  | cons q t'=>exact .cons r cC
theorem Sj {α:Type}(l:List α):l.eraseIdx (l.length - 1)=l.dropLast:=by
 induction l with
 | nil=>rfl
 | cons a r cC =>
  cases r with
  | nil=>rfl
  | cons b r =>
   have e:(a::b::r).length - 1=((b::r).length - 1)+1:=by
    have ak:(a::b::r).length=r.length+2:=rfl
    have az:(b::r).length=r.length+1:=rfl
    omega
   rw[e,List.eraseIdx_cons_succ,cC]
   all_goals rfl
section
variable {X:bI}{pins:List (Addr × Obj)}{σ:St}{H:ao}{s:Shared}{l b:Addr}{xs ys zs:List V}
theorem Inv.zK {its its':List Value}{n:Nat}{f:Array Value→Array Value}{t':Nat}(I:Inv X pins σ H s) (hS:H l=some (.lst xs))
  (e:s.heap.get? l=some { cls:=.type "list",data:=.seq its.toArray n }) (hf:f its.toArray=its'.toArray) (aX:Vals ys its') (hz:ys.length≤sizeLine) :
  Inv X pins σ (upd H l (.lst ys)) { s with heap:=s.heap.update l (Obj.mapSeq f),toks:=t' }:=by
 have q:=PySem.IsL.update e f
 rw[hf]at q
 refine I.write (x:=l) (e:=l) (by rw[hS];exact trivial) (.inl rfl) (fun sI u aa bf=>(get?_update_other s.heap (Obj.mapSeq f) (Ne.symm aa)).trans bf) ⟨_,q⟩ ?_
 exact⟨hz,its',_,aX,q⟩
theorem Inv.zL {its:List Value}{t':Nat}(I:Inv X pins σ H s) (aX:Vals ys its) (hz:ys.length≤sizeLine) :
  Inv X pins σ (upd H s.heap.objs.size (.lst ys)) { s with heap:=s.heap.push { cls:=.type "list",data:=.seq its.toArray },toks:=t' } :=
 I.laid (fun _ _ q=>get?_push_of_some _ q) (le_refl _) ⟨hz,its,0,aX,get?_push_size _ rfl⟩
theorem Inv.fresh (I:Inv X pins σ H s):H s.heap.objs.size=none:=I.bG.fresh (le_refl _)
theorem Inv.qC (I:Inv X pins σ H s) (hS:H l=some (.lst xs)):xs.length≤sizeLine∧∃(its:List Value) (n:Nat),Vals xs its∧xs.length=its.length∧s.heap.get? l=some { cls:=.type "list",data:=.seq its.toArray n }:=by
 obtain⟨z,its,n,r,e⟩:=I.bG l _ hS
 exact⟨z,its,n,r,r.length,e⟩
theorem Jg {n:Nat}(h:n≤sizeLine):Builtin.List.listTooLong n=false:=by
 unfold Builtin.List.listTooLong
 exact decide_eq_false (by omega)
end
section
variable {X:bI}
def UU:V→List V→ao→cD→Prop:=fun x vs H Q=>∃l xs y,x=.ref l∧vs=[y]∧H l=some (.lst xs)∧xs.length<sizeLine∧Q .cP (upd H l (.lst (xs++[y])))
theorem ie:wW X "list.append" UU:=by
 intro pins s σ H x vs v us Q I bH bL h
 obtain⟨l,xs,y,rfl,rfl,hS,hz,q⟩:=h
 cases bH
 obtain⟨u,rfl,eF⟩:=bL.one
 obtain⟨z,its,n,r,aE,e⟩:=I.qC hS
 refine call_meets F.slot_list_append ⟨_,e,rfl⟩ F.entry_list_append (F.args_list_append_2 _ _) (PySem.list_append l its.toArray n u (by rw[size_toArray];omega)) ⟨e,?_⟩
 refine⟨.cP,_,I.zK (its':=its++[u]) hS e (by simp) (r.append (.cons eF .nil)) ?_,rfl,q⟩
 rw[length_append,length_singleton]
 omega
def UT:V→List V→ao→cD→Prop:=fun x vs H Q=>∃l b xs zs,x=.ref l∧vs=[.ref b]∧H l=some (.lst xs)∧H b=some (.lst zs)∧xs.length+zs.length≤sizeLine∧Q .cP (upd H l (.lst (xs++zs)))
theorem SY:wW X "list.extend" UT:=by
 intro pins s σ H x vs v us Q I bH bL h
 obtain⟨l,b,xs,zs,rfl,rfl,hS,p8,hz,q⟩:=h
 cases bH
 obtain⟨u,rfl,eF⟩:=bL.one
 cases eF
 obtain⟨z,its,n,r,aE,e⟩:=I.qC hS
 obtain⟨dW,j3,dP,b3,Ao,aM⟩:=I.qC p8
 have hsz:its.toArray.size+j3.toArray.size≤sizeLine:=by rw[size_toArray,size_toArray];omega
 have Du:¬(!its.toArray.isEmpty && Builtin.List.listTooLong (its.toArray.size+j3.toArray.size))=true:=by
  rw[Jg hsz,Bool.and_false]
  exact Bool.false_ne_true
 refine call_meets F.slot_list_extend ⟨_,e,rfl⟩ F.entry_list_extend (F.args_list_extend_2 _ _)
  (AutoSeq1.list_extend_list_list_0 l its.toArray n b j3.toArray dP Du (by rw[size_toArray];omega) (by omega)) ⟨e,aM,?_⟩
 refine⟨.cP,_,I.zK (its':=its++j3) hS e (by simp) (r.append b3) ?_,rfl,q⟩
 rw[length_append]
 omega
def XA:V→List V→ao→cD→Prop:=fun x vs H Q=>∃l xs y,x=.ref l∧vs=[]∧H l=some (.lst xs)∧xs[xs.length - 1]?=some y∧Q y (upd H l (.lst xs.dropLast))
theorem KO:wW X "list.pop" XA:=by
 intro pins s σ H x vs v us Q I bH bL h
 obtain⟨l,xs,y,rfl,rfl,hS,ck,q⟩:=h
 cases bH
 have EJ:=bL.zero
 subst EJ
 obtain⟨z,its,n,r,aE,e⟩:=I.qC hS
 obtain⟨u,bf,eF⟩:=r.get ck
 have tW:its.toArray[its.toArray.size - 1]?=some u:=by
  show its.toArray[its.length - 1]?=some u
  rw[←Array.getElem?_toList,←aE]
  exact bf
 refine call_meets F.slot_list_pop ⟨_,e,rfl⟩ F.entry_list_pop (F.args_list_pop_1 _) (MeetsSeq.list_pop_last l its.toArray n u tW (by rw[size_toArray];omega)) ⟨e,?_⟩
 refine⟨y,_,I.zK (its':=its.dropLast) hS e ?_ r.dropLast ?_,eF,q⟩
 ·show its.toArray.eraseIdxIfInBounds (its.toArray.size - 1)=its.dropLast.toArray
  rw[size_toArray,List.eraseIdxIfInBounds_toArray,Sj]
 ·rw[List.length_dropLast]
  omega
def XD:jV:=fun x y H Q=>∃l b xs zs,x=.ref l∧y=.ref b∧H l=some (.lst xs)∧H b=some (.lst zs)∧xs.length+zs.length≤sizeLine∧∀p,H p=none→Q (.ref p) (upd H p (.lst (xs++zs)))
theorem rD:hD X (binaryOp .Add) XD:=by
 intro pins s σ H x y v u Q I bH bQ h
 obtain⟨l,b,xs,zs,rfl,rfl,hS,p8,hz,q⟩:=h
 cases bH
 cases bQ
 obtain⟨z,its,n,r,aE,e⟩:=I.qC hS
 obtain⟨dW,j3,dP,b3,Ao,aM⟩:=I.qC p8
 refine PySem.P.add_list e aM ?_ (by rw[size_toArray,size_toArray];omega)
 have aU:its.toArray++j3.toArray=(its++j3).toArray:=by simp
 rw[aU]
 exact⟨.ref _,_,I.zL (t':=s.toks) (r.append b3) (by rw[length_append];omega),rfl,q _ I.fresh⟩
end
section
variable {prog:Program}{w:World}{A:Around}{E:Value→Shared→Prop}{s:Shared}
end
section
variable {X:bI}
end
section
variable {κ:Type} [DecidableEq κ]
def dw (kvs:List (κ × V)) (k:κ):Option V:=(kvs.find? fun cK=>decide (cK.1=k)).map (·.2)
def putK (kvs:List (κ × V)) (k:κ) (v:V):List (κ × V) :=
 if (kvs.any fun cK=>decide (cK.1=k))=true then kvs.map (fun cK=>if cK.1=k then (cK.1,v) else cK) else kvs++[(k,v)]
def j1 (kvs:List (κ × V)) (k:κ):List (κ × V):=kvs.filter fun cK=>decide (cK.1≠k)
theorem BW {k:κ}:dw ([]:List (κ × V)) k=none:=rfl
theorem mw {p:κ × V}{r:List (κ × V)}{k:κ}(e:p.1=k):dw (p::r) k=some p.2:=by simp[dw,find?_cons,e]
theorem mz {p:κ × V}{r:List (κ × V)}{k:κ}(e:¬p.1=k):dw (p::r) k=dw r k:=by simp[dw,find?_cons,e]
theorem uX (k:κ):∀kvs:List (κ × V),(kvs.any fun cK=>decide (cK.1=k))=(dw kvs k).isSome
 | []=>rfl
 | p::r=>by
  rw[any_cons]
  by_cases e:p.1=k
  ·simp only[mw e,decide_eq_true e,Bool.true_or,Option.isSome_some]
  ·rw[mz e,decide_eq_false e,Bool.false_or];exact uX k r
theorem I1 (k j:κ) (y:V):∀kvs:List (κ × V),dw (kvs.map fun cK=>if cK.1=k then (cK.1,y) else cK) j=(dw kvs j).map fun x=>if j=k then y else x
 | []=>rfl
 | p::r=>by
  have cC:=I1 k j y r
  rw[map_cons]
  by_cases h:p.1=k
  ·rw[if_pos h]
   by_cases e:p.1=j
   ·rw[mw (p:=(p.1,y)) e,mw e,Option.map_some,if_pos (e.symm.trans h)]
   ·rw[mz (p:=(p.1,y)) e,mz e,cC]
  ·rw[if_neg h]
   by_cases e:p.1=j
   ·rw[mw (p:=p) e,mw e,Option.map_some,if_neg (fun z=>h (e.trans z))]
   ·rw[mz (p:=p) e,mz e,cC]
theorem Ia (k j:κ) (y:V):∀kvs:List (κ × V),dw kvs k=none→dw (kvs++[(k,y)]) j=if j=k then some y else dw kvs j
 | [],_=>by
  by_cases e:k=j
  ·rw[if_pos e.symm];exact mw (p:=(k,y)) e
  ·rw[if_neg (fun z=>e z.symm)];exact mz (p:=(k,y)) e
 | p::r,aP=>by
  rw[List.cons_append]
  have aS:¬p.1=k:=fun z=>by rw[mw z]at aP;cases aP
  rw[mz aS]at aP
  have cC:=Ia k j y r aP
  by_cases e:p.1=j
  ·rw[mw e,mw e,if_neg (fun z=>aS (e.trans z))]
  ·rw[mz e,mz e,cC]
theorem uW (kvs:List (κ × V)) (k j:κ) (y:V):dw (putK kvs k y) j=if j=k then some y else dw kvs j:=by
 unfold putK
 by_cases a:(kvs.any fun cK=>decide (cK.1=k))=true
 ·rw[if_pos a,I1]
  rw[uX]at a
  by_cases e:j=k
  ·obtain⟨x,bh⟩:=Option.isSome_iff_exists.mp a
   rw[if_pos e,e,bh,Option.map_some,if_pos rfl]
  ·rw[if_neg e]
   cases dw kvs j with
   | none=>rfl
   | some x=>rw[Option.map_some,if_neg e]
 ·rw[if_neg a]
  refine Ia k j y kvs ?_
  rw[uX]at a
  cases q:dw kvs k with
  | none=>rfl
  | some x=>rw[q]at a;exact (a rfl).elim
theorem qk (kvs:List (κ × V)) (k:κ) (v:V):(putK kvs k v).length≤kvs.length+1:=by
 unfold putK
 split
 ·rw[length_map];omega
 ·rw[length_append,length_cons,length_nil];omega
theorem Jc {kvs:List (κ × V)}{k:κ}(v:V) (h:dw kvs k=none):putK kvs k v=kvs++[(k,v)]:=by
 unfold putK
 rw[uX,h]
 exact if_neg (by decide)
theorem iU.ta {o:Option V}{u:Option Value}(r:iU o u):o.isSome=u.isSome:=by
 cases o with
 | none=>cases u with
  | none=>rfl
  | some _=>exact (show False from r).elim
 | some _=>cases u with
  | none=>exact (show False from r).elim
  | some _=>rfl
theorem iU.getD {o:Option V}{u:Option Value}{d:V}{d':Value}(r:iU o u) (jL:RelV d d'):RelV (o.getD d) (u.getD d'):=by
 cases o with
 | none=>cases u with
  | none=>exact jL
  | some _=>exact (show False from r).elim
 | some _=>cases u with
  | none=>exact (show False from r).elim
  | some _=>exact r
theorem fX.val {kvs:List (κ × V)}{vs:List (κ × Value)}(r:fX kvs vs) (k:κ):iU (dw kvs k) (valueAt vs k):=by
 unfold fX at r
 induction r with
 | nil=>exact True.intro
 | @cons p q ps mY h t cC =>
  obtain⟨ak,az⟩:=h
  by_cases e:p.1=k
  ·have cX:q.1=k:=ak.symm.trans e
   have b:valueAt (q::mY) k=some q.2:=by simp[valueAt,find?_cons,cX]
   rw[mw e,b];exact az
  ·have cX:¬q.1=k:=fun z=>e (ak.trans z)
   have b:valueAt (q::mY) k=valueAt mY k:=by simp[valueAt,find?_cons,cX]
   rw[mz e,b];exact cC
theorem fX.any {kvs:List (κ × V)}{vs:List (κ × Value)}(r:fX kvs vs) (k:κ):(kvs.any fun cK=>decide (cK.1=k))=vs.any fun cK=>decide (cK.1=k):=by
 unfold fX at r
 induction r with
 | nil=>rfl
 | cons h t cC=>rw[any_cons,any_cons,cC,h.1]
theorem fX.DP {kvs:List (κ × V)}{vs:List (κ × Value)}(r:fX kvs vs) (k:κ) {y:V}{u:Value}(bQ:RelV y u) :
  fX (kvs.map fun cK=>if cK.1=k then (cK.1,y) else cK) (vs.map fun cK=>if cK.1=k then (cK.1,u) else cK):=by
 unfold fX at r ⊢
 induction r with
 | nil=>exact .nil
 | @cons p q ps mY h t cC =>
  rw[map_cons,map_cons]
  refine .cons ?_ cC
  obtain⟨ak,az⟩:=h
  by_cases e:p.1=k
  ·rw[if_pos e,if_pos (ak.symm.trans e)];exact⟨ak,bQ⟩
  ·rw[if_neg e,if_neg (fun z=>e (ak.trans z))];exact⟨ak,az⟩
theorem fX.put {kvs:List (κ × V)}{vs:List (κ × Value)}(r:fX kvs vs) (k:κ) {y:V}{u:Value}(bQ:RelV y u):fX (putK kvs k y) (stored vs k u):=by
 unfold putK stored
 rw[r.any k]
 by_cases e:(vs.any fun cK=>decide (cK.1=k))=true
 ·rw[if_pos e,if_pos e];exact r.DP k bQ
 ·rw[if_neg e,if_neg e];exact Paired.snoc r ⟨rfl,bQ⟩
theorem fX.drop {kvs:List (κ × V)}{vs:List (κ × Value)}(r:fX kvs vs) (k:κ):fX (j1 kvs k) (without vs k):=by
 unfold fX at r ⊢
 unfold j1 without
 induction r with
 | nil=>exact .nil
 | @cons p q ps mY h t cC =>
  obtain⟨ak,az⟩:=h
  rw[filter_cons,filter_cons]
  by_cases e:p.1=k
  ·have a:¬decide (p.1≠k)=true:=by simp[e]
   have b:¬decide (q.1≠k)=true:=by simp[ak.symm.trans e]
   rw[if_neg a,if_neg b];exact cC
  ·have cX:¬q.1=k:=fun z=>e (ak.trans z)
   have a:decide (p.1≠k)=true:=by simp[e]
   have b:decide (q.1≠k)=true:=by simp[cX]
   rw[if_pos a,if_pos b];exact .cons ⟨ak,az⟩ cC
theorem fX.keys {kvs:List (κ × V)}{vs:List (κ × Value)}(r:fX kvs vs):kvs.map (·.1)=vs.map (·.1):=by
 unfold fX at r
 induction r with
 | nil=>rfl
 | cons h t cC=>rw[map_cons,map_cons,cC,h.1]
theorem fX.length {kvs:List (κ × V)}{vs:List (κ × Value)}(r:fX kvs vs):kvs.length=vs.length:=Paired.length r
theorem Ju (kvs:List (κ × V)) (k:κ):(j1 kvs k).length≤kvs.length:=length_filter_le _ _
end
theorem ov {P:Program}{w:World}{k:Key}{u:Value}(r:RelV (eo k) u):(hX P w).is k u=true:=by
 cases k with
 | inl i=>obtain⟨t,e⟩:=(show ∃t,u=Value.int i t from r);subst e;exact RY P w i t
 | inr x=>obtain⟨t,e⟩:=(show ∃t,u=Value.str x t from r);subst e;exact RX P w x t
theorem IG {P:Program}{w:World}:∀{bM:List Key}{us:List Value},Vals (bM.map eo) us→ItemsAre (hX P w) bM us
 | [],_,r=>by rw[map_nil]at r;cases r;exact .nil
 | k::bM,_,r=>by
  rw[map_cons]at r
  cases r with
  | cons h t=>exact .cons (ov h) (IG t)
abbrev KT (H:ao):List (List Key × V)→List (List Key × Addr × Value)→Prop:=Paired fun p q=>p.1=q.1∧H q.2.1=some (.tup (p.1.map eo))∧RelV p.2 q.2.2
theorem KT.val {H:ao}{kvs:List (List Key × V)}{xs:List (List Key × Addr × Value)}(r:KT H kvs xs) (k:List Key):iU (dw kvs k) ((atKey xs k).map (·.2)):=by
 induction r with
 | nil=>exact True.intro
 | @cons p q ps mY h t cC =>
  obtain⟨ak,_,az⟩:=h
  by_cases e:p.1=k
  ·have cX:q.1=k:=ak.symm.trans e
   have b:atKey (q::mY) k=some q.2:=by simp[atKey,find?_cons,cX]
   rw[mw e,b];exact az
  ·have cX:¬q.1=k:=fun z=>e (ak.trans z)
   have b:atKey (q::mY) k=atKey mY k:=by simp[atKey,find?_cons,cX]
   rw[mz e,b];exact cC
theorem KT.DP {H:ao}{kvs:List (List Key × V)}{xs:List (List Key × Addr × Value)}(r:KT H kvs xs) (k:List Key) {y:V}{u:Value}(bQ:RelV y u) :
  KT H (kvs.map fun cK=>if cK.1=k then (cK.1,y) else cK) (xs.map (putAt k u)):=by
 induction r with
 | nil=>exact .nil
 | @cons p q ps mY h t cC =>
  rw[map_cons,map_cons]
  refine .cons ?_ cC
  obtain⟨ak,az,cz⟩:=h
  unfold putAt
  by_cases e:p.1=k
  ·rw[if_pos e,if_pos (ak.symm.trans e)];exact⟨ak,az,bQ⟩
  ·rw[if_neg e,if_neg (fun z=>e (ak.trans z))];exact⟨ak,az,cz⟩
theorem KT.put {H:ao}{kvs:List (List Key × V)}{xs:List (List Key × Addr × Value)}(r:KT H kvs xs) (k:List Key) {b:Addr}{y:V}{u:Value}(aa:H b=some (.tup (k.map eo))) (bQ:RelV y u) :
  KT H (putK kvs k y) (storedH xs k b u):=by
 have e:(kvs.any fun cK=>decide (cK.1=k))=(atKey xs k).isSome:=by
  rw[uX,(r.val k).ta,Option.isSome_map]
 unfold putK storedH
 rw[e]
 by_cases q:(atKey xs k).isSome=true
 ·rw[if_pos q,if_pos q];exact r.DP k bQ
 ·rw[if_neg q,if_neg q];exact Paired.snoc r ⟨rfl,aa,bQ⟩
theorem KT.keeps {H af:ao}{kvs:List (List Key × V)}{xs:List (List Key × Addr × Value)}(r:KT H kvs xs) (aZ:∀b ys,H b=some (.tup ys)→af b=some (.tup ys)):KT af kvs xs :=
 Paired.DW r fun _ _ z=>⟨z.1,aZ _ _ z.2.1,z.2.2⟩
section
variable {P:Program}{w:World}{H:ao}{h:Heap}{a:Addr}
theorem K5 {u:fp}(ok:e_ P w H h) (e:n_ H a u):fM P w H h a u:=e.ok ok
theorem rI {kvs:List (Key × V)}(ok:e_ P w H h) (e:n_ H a (.bS kvs)):kvs.length≤sizeLine∧(a == sysModules)=false∧∃vs,fX kvs vs∧h.DictOf (hX P w) a vs :=
 show fM P w H h a (.bS kvs) from K5 ok e
theorem tB {kvs:List (Key × V)}(ok:e_ P w H h) (e:H a=some (.bS kvs)):kvs.length≤sizeLine∧(a == sysModules)=false∧∃vs,fX kvs vs∧h.DictOf (hX P w) a vs:=rI ok (.inl e)
theorem ts {bM:List Key}(ok:e_ P w H h) (e:H a=some (.tup (bM.map eo))):(tupleKind (hX P w)).is h bM a:=by
 obtain⟨_,its,r,o,ak,az,n,cz⟩:=(show fM P w H h a (.tup (bM.map eo)) from ok a _ e)
 exact⟨o,its.toArray,n,ak,az,cz,by simpa using IG r⟩
theorem rH {kvs:List (List Key × V)}(ok:e_ P w H h) (e:n_ H a (.gJ kvs)):kvs.length≤sizeLine∧(a == sysModules)=false ∧
  ∃xs,KT H kvs xs∧h.DictOfH (tupleKind (hX P w)) a xs:=by
 obtain⟨z,y,xs,r,o,aB,cp,ak,az,cz,dA,gz⟩:=(show fM P w H h a (.gJ kvs) from K5 ok e)
 refine⟨z,y,xs,r,o,aB,cp,ak,az,cz,dA,fun x bh=>?_,gz⟩
 have all:∀{l:List (List Key × V)} {m:List (List Key × Addr × Value)},KT H l m→∀x∈m,(tupleKind (hX P w)).is h x.1 x.2.1:=by
  intro l m q
  induction q with
  | nil=>intro x bh;exact nomatch bh
  | @cons p q ps mY bo t cC =>
   intro x bh
   rcases mem_cons.mp bh with e | bh
   ·subst e
    exact ts ok (by rw[←bo.1];exact bo.2.1)
   ·exact cC x bh
 exact all r x bh
theorem W0 {kvs:List (List Key × V)}(ok:e_ P w H h) (e:H a=some (.gJ kvs)):kvs.length≤sizeLine∧(a == sysModules)=false ∧
  ∃xs,KT H kvs xs∧h.DictOfH (tupleKind (hX P w)) a xs:=rH ok (.inl e)
end
def e9 (H:ao) (a:Addr) (y:V) (r:Option V):Prop :=
 (∃kvs k,n_ H a (.bS kvs)∧y=eo k∧r=dw kvs k)∨∃kvs k b,n_ H a (.gJ kvs)∧y=.ref b∧H b=some (.tup (k.map eo))∧r=dw kvs k
def oB (H:ao) (a:Addr) (y v:V) (af:ao):Prop :=
 (∃kvs k,H a=some (.bS kvs)∧y=eo k∧kvs.length<sizeLine∧af=upd H a (.bS (putK kvs k v))) ∨
 ∃kvs k b,H a=some (.gJ kvs)∧y=.ref b∧H b=some (.tup (k.map eo))∧kvs.length<sizeLine∧af=upd H a (.gJ (putK kvs k v))
theorem e9.k {H:ao}{a:Addr}{kvs:List (Key × V)}{k:Key}(e:H a=some (.bS kvs)):e9 H a (eo k) (dw kvs k):=.inl ⟨kvs,k,.inl e,rfl,rfl⟩
theorem oB.k {H:ao}{a:Addr}{kvs:List (Key × V)}{k:Key}{v:V}(e:H a=some (.bS kvs)) (aE:kvs.length<sizeLine):oB H a (eo k) v (upd H a (.bS (putK kvs k v))):=.inl ⟨kvs,k,e,rfl,aE,rfl⟩
section
variable {X:bI}{pins:List (Addr × Obj)}{σ:St}{H:ao}{s:Shared}{a:Addr}{y v:V}{u r:Value}{o:Option V}{A:Around}{E:Value→Shared→Prop}
theorem Inv.big (I:Inv X pins σ H s):sysModules<s.heap.objs.size:=by
 have h:mainGlobals<s.heap.objs.size:=(I.mod.glob.keeps I.hp).lt
 exact Nat.lt_trans (by decide) h
theorem Tg {Q:Value→Shared→Prop}(bf:A.units+1<cLine) (I:Inv X pins σ H s) (g:e9 H a y (some v)) (bQ:RelV y u) (h:∀en aJ,Inv X pins σ H aJ→RelV v en→Q en aJ) :
  wpAny (model X.prog X.w) A (getItem (.ref a) u) Q E s:=by
 rcases g with ⟨kvs,k,e,fz,l⟩ | ⟨kvs,k,b,e,fz,ea,l⟩
 ·subst fz
  obtain⟨z,hd,vs,rel,dd⟩:=rI I.bG e
  obtain⟨en,hw,kF⟩:=iU.some_of (v:=v) (o:=valueAt vs k) (by rw[l];exact rel.val k)
  exact wpAny_getItem_of (ov bQ) dd.mapOf hw (h en _ (I.tok _) kF)
 ·subst fz
  cases (show u=Value.ref b from bQ)
  obtain⟨z,hd,xs,rel,dd⟩:=rH I.bG e
  obtain⟨en,hw,kF⟩:=iU.some_of (v:=v) (o:=(atKey xs k).map (·.2)) (by rw[l];exact rel.val k)
  obtain⟨p,aF,Zt⟩:=Option.map_eq_some_iff.mp hw
  refine wpAny_getItem_heap (tupleKind_room_in1 bf) (ts I.bG ea) dd aF ?_
  rw[Zt]
  exact h en _ (I.tok _) kF
theorem Yb {Q:Value→Shared→Prop}(bf:A.units+1<cLine) (I:Inv X pins σ H s) (g:e9 H a y o) (bQ:RelV y u) (h:∀aJ,Inv X pins σ H aJ→Q (.bool o.isSome) aJ) :
  wpAny (model X.prog X.w) A (compareOp .In u (.ref a)) Q E s:=by
 rcases g with ⟨kvs,k,e,fz,l⟩ | ⟨kvs,k,b,e,fz,ea,l⟩
 ·subst fz
  obtain⟨z,hd,vs,rel,dd⟩:=rI I.bG e
  refine wpAny_in_of (ov bQ) hd dd.mapOf ?_
  rw[←(rel.val k).ta,←l]
  exact h _ (I.tok _)
 ·subst fz
  cases (show u=Value.ref b from bQ)
  obtain⟨z,hd,xs,rel,dd⟩:=rH I.bG e
  refine wpAny_in_heap (tupleKind_room_in1 bf) (ts I.bG ea) hd dd ?_
  have q:=(rel.val k).ta
  rw[Option.isSome_map]at q
  rw[←q,←l]
  exact h _ (I.tok _)
theorem Vn {Q:Value→Shared→Prop}(bf:A.units+1<cLine) (I:Inv X pins σ H s) (g:e9 H a y o) (bQ:RelV y u) (h:∀aJ,Inv X pins σ H aJ→Q (.bool (!o.isSome)) aJ) :
  wpAny (model X.prog X.w) A (compareOp .NotIn u (.ref a)) Q E s:=by
 rcases g with ⟨kvs,k,e,fz,l⟩ | ⟨kvs,k,b,e,fz,ea,l⟩
 ·subst fz
  obtain⟨z,hd,vs,rel,dd⟩:=rI I.bG e
  refine wpAny_notIn_of (ov bQ) hd dd.mapOf ?_
  rw[←(rel.val k).ta,←l]
  exact h _ (I.tok _)
 ·subst fz
  cases (show u=Value.ref b from bQ)
  obtain⟨z,hd,xs,rel,dd⟩:=rH I.bG e
  refine wpAny_notIn_heap (tupleKind_room_in1 bf) (ts I.bG ea) hd dd ?_
  have q:=(rel.val k).ta
  rw[Option.isSome_map]at q
  rw[←q,←l]
  exact h _ (I.tok _)
theorem th {h':Heap}{t':Nat}{bY:fp}(I:Inv X pins σ H s) (lA:wV (H a)) (aY:Heap.SameBut a s.heap h') (he:∃q,h'.get? a=some q) (new:fM X.prog X.w (upd H a bY) h' a bY) :
  Inv X pins σ (upd H a bY) { s with heap:=h',toks:=t' } :=
 I.write (x:=a) (e:=a) lA (.inl rfl) (fun b q aa z=>(aY.2 b aa).trans z) he new
theorem vn {P:Program}{w:World}{af:ao}{h':Heap}{kvs:List (Key × V)}{vs:List (Key × Value)}(z:kvs.length≤sizeLine) (hd:(a == sysModules)=false) (rel:fX kvs vs) (dd:h'.DictOf (hX P w) a vs) :
  fM P w af h' a (.bS kvs):=⟨z,hd,vs,rel,dd⟩
theorem Tf {af:ao}{Q:Unit→Shared→Prop}(bf:A.units+1<cLine) (I:Inv X pins σ H s) (g:oB H a y v af) (bQ:RelV y u) (bL:RelV v r) (h:∀aJ,Inv X pins σ af aJ→Q () aJ) :
  wpAny (model X.prog X.w) A (setItem (.ref a) u r) Q E s:=by
 rcases g with ⟨kvs,k,e,fz,l,GI⟩ | ⟨kvs,k,b,e,fz,ea,l,GI⟩
 ·subst fz GI
  obtain⟨z,hd,vs,rel,dd⟩:=tB I.bG e
  have hz:vs.length≤sizeLine:=by rw[←rel.length];exact z
  have aE:(putK kvs k v).length≤sizeLine:=by have:=qk kvs k v;omega
  refine wpAny_setItem_pairs (hsz:=hz) (ov bQ) dd fun h' kL aY=>h _ ?_
  have he:∃q,h'.get? a=some q:=let ⟨q,_,_,bo,_⟩:=kL;⟨q,bo⟩
  exact th I (by rw[e];exact True.intro) aY he (vn aE hd (rel.put k bL) kL)
 ·subst fz GI
  cases (show u=Value.ref b from bQ)
  obtain⟨z,hd,xs,rel,dd⟩:=W0 I.bG e
  have hz:xs.length≤sizeLine:=by rw[←Paired.length rel];exact z
  have aE:(putK kvs k v).length≤sizeLine:=by have:=qk kvs k v;omega
  refine wpAny_setItem_heap (hsz:=hz) (tupleKind_room_in1 bf) (ts I.bG ea) dd fun h' kL aY=>h _ ?_
  obtain⟨q,aB,cp,bo,az,cz,dA,_,gz⟩:=kL
  refine th I (by rw[e];exact True.intro) aY ⟨q,bo⟩ ⟨aE,hd,_,(rel.put k ea bL).keeps fun c ys hi=>?_,q,aB,cp,bo,az,cz,dA,gz⟩
  rw[aA (dv hi e (fun z=>nomatch z))]
  exact hi
end
section
variable {X:bI}{pins:List (Addr × Obj)}{σ:St}{H:ao}{s:Shared}{a:Addr}{kvs:List (Key × V)}{k:Key}{u:Value}{A:Around}{E:Value→Shared→Prop}
theorem acd {Q:Unit→Shared→Prop}(I:Inv X pins σ H s) (e:H a=some (.bS kvs)) (bQ:RelV (eo k) u) (l:(dw kvs k).isSome=true) (h:∀aJ,Inv X pins σ (upd H a (.bS (j1 kvs k))) aJ→Q () aJ) :
  wpAny (model X.prog X.w) A (delItem (.ref a) u) Q E s:=by
 obtain⟨z,hd,vs,rel,dd⟩:=tB I.bG e
 refine wpAny_delItem_slot dd.typeIs (by decide) PySem.F.slot_dict_delitem
  (call_meetsIn PySem.F.slot_dict_delitem dd.typeIs PySem.F.entry_dict_delitem (PySem.F.args_dict_delitem_2 _ _) (meets_dict_delitem_pairs (hX X.prog X.w) a (ov bQ)) ⟨vs,dd,by rw[←rel.length];exact z,by rw[←(rel.val k).ta];exact l,fun h' kL aY=>h _ ?_⟩)
 have he:∃q,h'.get? a=some q:=let ⟨q,_,_,bo,_⟩:=kL;⟨q,bo⟩
 exact th I (by rw[e];exact True.intro) aY he (vn (le_trans (Ju kvs k) z) hd (rel.drop k) kL)
theorem W2 {v:V}{more:List Value}{Q:Value→Shared→Prop}(I:Inv X pins σ H s) (e:H a=some (.bS kvs)) (bQ:RelV (eo k) u) (l:dw kvs k=some v) (hm:more=[]∨∃x,more=[x])
  (h:∀en aJ,Inv X pins σ (upd H a (.bS (j1 kvs k))) aJ→RelV v en→Q en aJ):wpAny (model X.prog X.w) A (call (.builtin "dict.pop") (.ref a::u::more)) Q E s:=by
 obtain⟨z,hd,vs,rel,dd⟩:=tB I.bG e
 obtain⟨en,hw,kF⟩:=iU.some_of (v:=v) (o:=valueAt vs k) (by rw[←l];exact rel.val k)
 have aF:(keyPart u).isSome=true:=by
  cases k with
  | inl i=>obtain⟨t,q⟩:=(show ∃t,u=Value.int i t from bQ);subst q;rfl
  | inr x=>obtain⟨t,q⟩:=(show ∃t,u=Value.str x t from bQ);subst q;rfl
 have bk:argsOk "dict.pop" ⟨.ref a::u::more,[]⟩:=by
  rcases hm with q | ⟨x,q⟩
  ·subst q;exact PySem.F.args_dict_pop_2 _ _
  ·subst q;exact PySem.F.args_dict_pop_3 _ _ _
 refine call_meetsIn PySem.F.slot_dict_pop dd.typeIs PySem.F.entry_dict_pop bk (meets_dict_pop_there (hX X.prog X.w) a (ov bQ) more hm aF)
  ⟨vs,en,dd,by rw[←rel.length];exact z,hw,fun h' kL aY=>h en _ ?_ kF⟩
 have he:∃q,h'.get? a=some q:=let ⟨q,_,_,bo,_⟩:=kL;⟨q,bo⟩
 exact th I (by rw[e];exact True.intro) aY he (vn (le_trans (Ju kvs k) z) hd (rel.drop k) kL)
end
def Mn (i:Expr):Prop:=∀b0 i1,subscripted i false b0 i1=operate [b0,i1] (getItem b0 i1)
theorem UJ {prog:Program}{w:World}{A:Around}{E:Value→Shared→Prop}{s:Shared}{env:Env}{value slice:Expr}{pos:Pos}{T id:String}{Q:Value→Shared→Prop}
  (aE:typeLookup (.type T) "__getitem__"=pure (some (.builtin id))) (aY:Mn slice)
  (h:wpAny (model prog w) A (eval value env) (fun o dn=>wpAny (model prog w) A (eval slice env) (fun i iB=>iB.TypeIs o T∧wpAny (model prog w) A (getItem o i) Q E iB) E dn) E s) :
  wpAny (model prog w) A (eval (.Subscript value slice pos) env) Q E s:=by
 refine Subscript_ (wpAny_mono h (fun o dn fT=>wpAny_mono fT (fun i iB m8=>?_) fun _ _ x=>x) fun _ _ x=>x)
 obtain⟨i3,m8⟩:=m8
 unfold subscriptTail
 refine wpAny_bind ?_
 rw[getitemInPython_of_ne i3.not_modules]
 refine wpAny_bind (wpAny_specialOf i3 aE ?_)
 have fin:wpAny (model prog w) A (subscripted slice false o i) (fun r gY=>wpAny (model prog w) A (letTemporaryGo value o r >>= fun _=>pure r) Q E gY) E iB:=by
  rw[aY o i]
  exact wpAny_operating (wpAny_mono m8 (fun r gY xB=>wpAny_bind (wpAny_letTemporaryGo (wpAny_pure xB))) fun _ _ x=>x)
 first
  | exact wpAny_pure (wpAny_bind fin)
  | exact wpAny_bind (wpAny_pure (wpAny_bind fin))
  | exact wpAny_bind fin
theorem R1 {X:bI}{pins:List (Addr × Obj)}{σ:St}{H:ao}{s:Shared}{a:Addr}{y:V}{o:Option V}(I:Inv X pins σ H s) (g:e9 H a y o):s.TypeIs (.ref a) "dict":=by
 rcases g with ⟨kvs,k,e,_,_⟩ | ⟨kvs,k,b,e,_,_,_⟩
 ·obtain⟨_,_,vs,_,dd⟩:=rI I.bG e
  exact dd.typeIs
 ·obtain⟨_,_,xs,_,dd⟩:=rH I.bG e
  exact dd.typeIs
def Wq (b4 ty:TE):TE:=fun σ H Q=>b4 σ H fun x H1=>ty σ H1 fun y ay=>∃a v,x=.ref a∧e9 ay a y (some v)∧Q v ay
def Xd (ty b4:TE):TE:=fun σ H Q=>ty σ H fun y H1=>b4 σ H1 fun x ay=>∃a o,x=.ref a∧e9 ay a y o∧Q (.bV o.isSome) ay
def UI (ty b4:TE):TE:=fun σ H Q=>ty σ H fun y H1=>b4 σ H1 fun x ay=>∃a o,x=.ref a∧e9 ay a y o∧Q (.bV (!o.isSome)) ay
def Wy (b4 ty jl:TE):fW:=fun D σ H=>jl σ H fun v H1=>b4 σ H1 fun x ay=>ty σ ay fun y aT=>∃a cO,x=.ref a∧oB aT a y v cO∧D.da σ cO
section
variable {X:bI}{o i e value:Expr}{pos pos' Lv:Pos}{b4 ty jl:TE}
theorem eT (bf:X.A.units+1<cLine) (aC:b9 X o b4) (aL:b9 X i ty) (aY:Mn i):b9 X (.Subscript o i pos) (Wq b4 ty):=by
 intro pins s σ H Q I h
 refine UJ PySem.F.slot_dict_getitem.lookup aY (bU (aC pins s σ H _ I h) fun u s1 ⟨x,H1,a3,bH,bx⟩=>bU (aL pins s1 σ H1 _ a3 bx) fun i1 s2 ⟨y,ay,cL,bQ,a,v,ex,g,aW⟩=>?_)
 subst ex
 obtain rfl:u=Value.ref a:=bH
 exact⟨R1 cL g,Tg bf cL g bQ fun en s3 cA kF=>⟨v,ay,cA,kF,aW⟩⟩
theorem C5 (bf:X.A.units+1<cLine) (aL:b9 X i ty) (aC:b9 X o b4):GV X .In i o (Xd ty b4):=by
 intro pins s σ H Q I h
 refine bU (aL pins s σ H _ I h) fun i1 s1 ⟨y,H1,a3,bQ,bx⟩=>bU (aC pins s1 σ H1 _ a3 bx) fun u s2 ⟨x,ay,cL,bH,a,b0,ex,g,aW⟩=>?_
 subst ex
 obtain rfl:u=Value.ref a:=bH
 exact Yb bf cL g bQ fun s3 cA=>⟨.bV b0.isSome,ay,cA,rfl,aW⟩
theorem BR (bf:X.A.units+1<cLine) (aL:b9 X i ty) (aC:b9 X o b4):GV X .NotIn i o (UI ty b4):=by
 intro pins s σ H Q I h
 refine bU (aL pins s σ H _ I h) fun i1 s1 ⟨y,H1,a3,bQ,bx⟩=>bU (aC pins s1 σ H1 _ a3 bx) fun u s2 ⟨x,ay,cL,bH,a,b0,ex,g,aW⟩=>?_
 subst ex
 obtain rfl:u=Value.ref a:=bH
 exact Vn bf cL g bQ fun s3 cA=>⟨.bV (!b0.isSome),ay,cA,rfl,aW⟩
theorem mA (bf:X.A.units+1<cLine) (aC:b9 X o b4) (aL:b9 X i ty) (aX:b9 X value jl) (aY:swapsWith value (some (.Subscript o i pos')) pos.line X.env=pure false) :
  kp X (.Assign [.Subscript o i pos'] value pos) (Wy b4 ty jl):=by
 intro pins s σ H D I h
 refine wpAny_Assign_Subscript (bU (aX pins s σ H _ I h) fun r s1 ⟨v,H1,a3,bL,bx⟩=>bU (aC pins s1 σ H1 _ a3 bx) fun u s2 ⟨x,ay,cL,bH,aW⟩=>bU (aL pins s2 σ ay _ cL aW) fun i1 s3 ⟨y,aT,cA,bQ,a,cO,ex,g,fE⟩=>?_) aY
 subst ex
 obtain rfl:u=Value.ref a:=bH
 exact Tf bf cA g bQ bL fun s4 jY=>⟨σ,cO,jY,fE⟩
end
theorem B_ {P:Program}{w:World}{H:ao}(h:Heap) (aa:sysModules<h.objs.size):fM P w H (h.push { cls:=.type "dict",data:=.dict #[] }) h.objs.size (.bS []) :=
 ⟨zero_le _,beq_eq_false_iff_ne.mpr (Ne.symm (ne_of_lt aa)),[],.nil,Heap.DictOf.new h⟩
def Vu:TE:=fun _ H Q=>∀p,H p=none→Q (.ref p) (upd H p (.bS []))
section
variable {X:bI}{pos:Pos}
theorem u0:b9 X (.Dict [] [] pos) Vu:=fun pins s σ H Q I h =>
 wpAny_Dict_empty ⟨.ref s.heap.objs.size,_,I.laid (a:=s.heap.objs.size) (o:=.bS []) (t':=s.toks) (fun _ _ q=>get?_push_of_some _ q) (le_refl _) (B_ s.heap I.big),rfl,h _ (I.bG.fresh (le_refl _))⟩
end
def CD:List (TE × TE)→St→ao→(List (V × V)→ao→Prop)→Prop
 | [],_,H,Q=>Q [] H
 | (bF,jl)::r,σ,H,Q=>bF σ H fun x H1=>jl σ H1 fun y ay=>CD r σ ay fun ps aT=>Q ((x,y)::ps) aT
abbrev Q8:List (V × V)→List (Value × Value)→Prop:=Paired fun p q=>RelV p.1 q.1∧RelV p.2 q.2
def AA (X:bI) (pos:Pos) (keys:List (Option Expr)) (values:List Expr) (pI:List (TE × TE)):Prop :=
 ∀(pins:List (Addr × Obj)) (s:Shared) (σ:St) (H:ao) (Q:List (V × V)→ao→Prop),Inv X pins σ H s→CD pI σ H Q →
  wpAny (model X.prog X.w) X.A (evalPairs (pairTrees keys values X.env pos)) (fun vs aJ=>∃ps af,Inv X pins σ af aJ∧Q8 ps vs∧Q ps af) X.dN s
theorem UW {X:bI}{pos:Pos}:AA X pos [] [] []:=fun pins s σ H Q I h=>pairTrees_nil_walk ⟨[],H,I,.nil,h⟩
theorem yF {X:bI}{pos:Pos}{k v:Expr}{bM:List (Option Expr)}{vs:List Expr}{bF jl:TE}{pI:List (TE × TE)}(aS:b9 X k bF) (aX:b9 X v jl) (aD:AA X pos bM vs pI) :
  AA X pos (some k::bM) (v::vs) ((bF,jl)::pI):=fun pins s σ H Q I h =>
 pairTrees_cons_walk (bU (aS pins s σ H _ I h) fun u s1 ⟨x,H1,a3,bH,bx⟩=>bU (aX pins s1 σ H1 _ a3 bx) fun eB s2 ⟨y,ay,cL,bQ,aW⟩ =>
  bU (aD pins s2 σ ay _ cL aW) fun ws s3 ⟨ps,aT,cA,rel,fE⟩=>⟨(x,y)::ps,aT,cA,.cons ⟨bH,bQ⟩ rel,fE⟩)
def mE (kvs more:List (Key × V)):List (Key × V):=more.foldl (fun acc cK=>putK acc cK.1 cK.2) kvs
theorem fX.merge:∀{more:List (Key × V)}{rs:List (Key × Value)}{kvs:List (Key × V)}{vs:List (Key × Value)},fX more rs→fX kvs vs→fX (mE kvs more) (merged vs rs):=by
 intro more rs kvs vs r
 unfold fX at r
 induction r generalizing kvs vs with
 | nil=>intro q;exact q
 | @cons p q ps mY h t cC =>
  intro ly
  have e:fX (putK kvs p.1 p.2) (stored vs q.1 q.2):=by
   have:=ly.put p.1 h.2
   rw[←h.1];exact this
  exact cC e
theorem Bh:∀(more kvs:List (Key × V)),(mE kvs more).length≤kvs.length+more.length
 | [],kvs=>by show kvs.length≤kvs.length+0;omega
 | p::r,kvs=>by
  have ak:=Bh r (putK kvs p.1 p.2)
  have az:=qk kvs p.1 p.2
  show (mE (putK kvs p.1 p.2) r).length≤_
  rw[length_cons];omega
theorem H7 {P:Program}{w:World}:∀{kvs:List (Key × V)}{ws:List (Value × Value)},Q8 (kvs.map fun cK=>(eo cK.1,cK.2)) ws→∃rs,Carries (hX P w) ws rs∧fX kvs rs
 | [],_,r=>by rw[map_nil]at r;cases r;exact⟨[],True.intro,.nil⟩
 | p::kvs,_,r=>by
  rw[map_cons]at r
  cases r with
  | @cons a b as bs h t =>
   obtain⟨rs,c,q⟩:=H7 (P:=P) (w:=w) t
   obtain⟨e4,fK⟩:=b
   exact⟨(p.1,fK)::rs,⟨ov h.1,rfl,c⟩,.cons ⟨rfl,h.2⟩ q⟩
def Wo (pI:List (TE × TE)):TE:=fun σ H Q=>∀p,H p=none→CD pI σ (upd H p (.bS [])) fun ps ay=>ay p=some (.bS [])∧∃kvs:List (Key × V),ps=kvs.map (fun cK=>(eo cK.1,cK.2))∧kvs.length≤15∧Q (.ref p) (upd ay p (.bS (mE [] kvs)))
theorem U0 {X:bI}{pos:Pos}{keys:List (Option Expr)}{values:List Expr}{pI:List (TE × TE)}(h:AA X pos keys values pI) (tM:keys.all (·.isSome)=true) (aE:keys.length=values.length) (h0:keys≠[])
  (Z3:keys.length≤15):b9 X (.Dict keys values pos) (Wo pI):=by
 intro pins s σ H Q I q
 have aP:=I.bG.fresh (le_refl s.heap.objs.size)
 have a3:=I.laid (a:=s.heap.objs.size) (o:=.bS []) (h':=s.heap.push { cls:=.type "dict",data:=.dict #[] }) (t':=s.toks) (fun _ _ q=>get?_push_of_some _ q) (le_refl _) (B_ s.heap I.big)
 refine wpAny_Dict_walk (knd:=hX X.prog X.w) tM aE h0 Z3 (bU (h pins _ σ _ _ a3 (q _ aP)) fun ws s2 ⟨ps,ay,cL,rel,e,kvs,cp,lk,aW⟩=>?_)
 subst cp
 obtain⟨rs,c,um⟩:=H7 (P:=X.prog) (w:=X.w) rel
 obtain⟨z,hd,acq,ly,dd⟩:=tB cL.bG e
 cases ly
 refine⟨rs,c,dd,fun h' kL aY=>⟨.ref s.heap.objs.size,_,?_,rfl,aW⟩⟩
 have hz:(mE [] kvs).length≤sizeLine:=by
  have ak:=Bh kvs []
  rw[length_nil]at ak
  rw[sizeLine_eq];omega
 have he:∃q,h'.get? s.heap.objs.size=some q:=let ⟨q,_,_,bo,_⟩:=kL;⟨q,bo⟩
 exact th cL (by rw[e];exact True.intro) aY he (vn hz hd (um.merge .nil) kL)
structure abQ (X:bI) (o:Expr) (m:Str) (apos:Pos) (e:Expr) (gU:Pos):Prop where
 base:attributeBase o m X.env (eval o X.env)=eval o X.env
 E6:((backTo gU (starEach [e] X.env)).all (fun x => !x.1) && (backToKw gU (keywordEach [] X.env)).all (fun x=>x.1.isSome)
  && decide (([e]:List Expr).length+([]:List Keyword).length+(if ([]:List Keyword).isEmpty then 0 else 1)<30))=true
 line:(apos.endLine == gU.line)=true
 trees:backTo gU (starEach [e] X.env)=[(false,eval e X.env)]
structure M2 (X:bI) (o:Expr) (m:Str) (apos:Pos) (e f:Expr) (gU:Pos):Prop where
 base:attributeBase o m X.env (eval o X.env)=eval o X.env
 E6:((backTo gU (starEach [e,f] X.env)).all (fun x => !x.1) && (backToKw gU (keywordEach [] X.env)).all (fun x=>x.1.isSome)
  && decide (([e,f]:List Expr).length+([]:List Keyword).length+(if ([]:List Keyword).isEmpty then 0 else 1)<30))=true
 line:(apos.endLine == gU.line)=true
 trees:backTo gU (starEach [e,f] X.env)=[(false,eval e X.env),(false,eval f X.env)]
def Fo (H:ao) (a:Addr):Prop:=(∃kvs,n_ H a (.bS kvs))∨∃kvs,n_ H a (.gJ kvs)
theorem KP {X:bI}{pins:List (Addr × Obj)}{σ:St}{H:ao}{s:Shared}{a:Addr}(I:Inv X pins σ H s) (d:Fo H a) :
  s.TypeIs (.ref a) "dict"∧(∀b,Value.ref a=.ref b→∃bY,s.heap.get? b=some bY∧bY.dict=none)∧(a == sysModules)=false:=by
 rcases d with ⟨kvs,e⟩ | ⟨kvs,e⟩
 ·obtain⟨_,hd,vs,_,dd⟩:=rI I.bG e
  refine⟨dd.typeIs,fun b q=>?_,hd⟩
  cases q
  obtain⟨bY,_,_,ak,az,_⟩:=dd
  exact⟨bY,ak,az.2.1⟩
 ·obtain⟨_,hd,xs,_,dd⟩:=rH I.bG e
  refine⟨dd.typeIs,fun b q=>?_,hd⟩
  cases q
  obtain⟨bY,_,_,ak,az,_⟩:=dd
  exact⟨bY,ak,az.2.1⟩
section
variable {X:bI}{pins:List (Addr × Obj)}{σ:St}{H:ao}{s:Shared}{a:Addr}{y d:V}{u r:Value}{o:Option V}{A:Around}{E:Value→Shared→Prop}
theorem We {Q:Value→Shared→Prop}(bf:A.units+1<cLine) (I:Inv X pins σ H s) (g:e9 H a y o) (bQ:RelV y u) (jL:RelV d r) (h:∀en aJ,Inv X pins σ H aJ→RelV (o.getD d) en→Q en aJ) :
  wpAny (model X.prog X.w) A (call (.builtin "dict.get") [.ref a,u,r]) Q E s:=by
 rcases g with ⟨kvs,k,e,fz,l⟩ | ⟨kvs,k,b,e,fz,ea,l⟩
 ·subst fz
  obtain⟨z,hd,vs,rel,dd⟩:=rI I.bG e
  refine call_meetsIn slot_dict_get dd.typeIs PySem.F.entry_dict_get (PySem.F.args_dict_get_3 _ _ _) (meets_dict_get_default (hX X.prog X.w) a (ov bQ) hd r) ⟨_,dd.mapOf,h _ _ (I.tok _) ?_⟩
  rw[l]
  exact (rel.val k).getD jL
 ·subst fz
  cases (show u=Value.ref b from bQ)
  obtain⟨z,hd,xs,rel,dd⟩:=rH I.bG e
  refine call_meetsIn slot_dict_get dd.typeIs PySem.F.entry_dict_get (PySem.F.args_dict_get_3 _ _ _) (meetsH_dict_get_default (tupleKind (hX X.prog X.w)) a b hd r) ⟨tupleKind_room_in1 bf,k,xs,ts I.bG ea,dd,h _ _ (I.tok _) ?_⟩
  rw[l]
  exact (rel.val k).getD jL
end
def Vv (b4 ty AK:TE):TE:=fun σ H Q=>b4 σ H fun x H1=>∃a,x=.ref a∧Fo H1 a∧ty σ H1 fun y ay=>AK σ ay fun z aT=>∃o,e9 aT a y o∧Q (o.getD z) aT
def Vt (b4 ty:TE):TE:=fun σ H Q=>b4 σ H fun x H1=>∃a,x=.ref a∧Fo H1 a∧ty σ H1 fun y ay=>∃kvs k v,ay a=some (.bS kvs)∧y=eo k∧dw kvs k=some v∧Q v (upd ay a (.bS (j1 kvs k)))
section
variable {X:bI}{o e f:Expr}{apos gU:Pos}{b4 ty AK:TE}
theorem TR (bf:X.A.units+1<cLine) (aC:b9 X o b4) (he:b9 X e ty) (hf:b9 X f AK) (m:M2 X o "get" apos e f gU):b9 X (.Call (.Attribute o "get" apos) [e,f] [] gU) (Vv b4 ty AK):=by
 intro pins s σ H Q I h
 refine wpAny_Call_method m.base m.E6 m.line PySem.F.plainAttrs_dict slot_dict_get PySem.F.type_dict_get (bU (aC pins s σ H _ I h) fun u s1 ⟨x,H1,a3,bH,a,ex,d,bx⟩=>?_)
 subst ex
 obtain rfl:u=Value.ref a:=bH
 obtain⟨t1,eE,_⟩:=KP a3 d
 refine⟨t1,eE,?_⟩
 rw[m.trees]
 refine Calls.callWith_builtin rfl (Calls.evalArgs_plain (Calls.spliced_cons (bU (he pins s1 σ H1 _ a3 bx) fun i1 s2 ⟨y,ay,cL,bQ,aW⟩ =>
  Calls.spliced_cons (bU (hf pins s2 σ ay _ cL aW) fun fv s3 ⟨z,aT,cA,l2,b0,g,fE⟩=>Calls.spliced_nil ?_))))
 exact We bf cA g bQ l2 fun en s4 jY kF=>⟨_,aT,jY,kF,fE⟩
theorem B4 (aC:b9 X o b4) (he:b9 X e ty) (m:abQ X o "pop" apos e gU):b9 X (.Call (.Attribute o "pop" apos) [e] [] gU) (Vt b4 ty):=by
 intro pins s σ H Q I h
 refine wpAny_Call_method m.base m.E6 m.line PySem.F.plainAttrs_dict PySem.F.slot_dict_pop PySem.F.type_dict_pop (bU (aC pins s σ H _ I h) fun u s1 ⟨x,H1,a3,bH,a,ex,d,bx⟩=>?_)
 subst ex
 obtain rfl:u=Value.ref a:=bH
 obtain⟨t1,eE,_⟩:=KP a3 d
 refine⟨t1,eE,?_⟩
 rw[m.trees]
 refine Calls.callWith_builtin rfl (Calls.evalArgs_plain (Calls.spliced_cons (bU (he pins s1 σ H1 _ a3 bx) fun i1 s2 ⟨y,ay,cL,bQ,kvs,k,v,aU,fz,l,aW⟩=>Calls.spliced_nil ?_)))
 subst fz
 exact W2 cL aU bQ l (.inl rfl) fun en s3 cA kF=>⟨v,_,cA,kF,aW⟩
end
section
variable {X:bI}{pins:List (Addr × Obj)}{σ:St}{H:ao}{s:Shared}{a:Addr}{kvs:List (Key × V)}{A:Around}{E:Value→Shared→Prop}
end
section
variable {X:bI}{pins:List (Addr × Obj)}{σ:St}{H:ao}{s:Shared}{a:Addr}{y:V}{u:Value}{A:Around}{E:Value→Shared→Prop}
end
end L2
namespace Qi
open PySem PySem.W PySem.Calls PyProof.Rows
theorem Rw {P:Params}{h:Heap}:∀(ns:List Int) (vs:List Value),WellAll P h vs (ns.map WData.int)→IntsAre vs ns:=by
 intro ns
 induction ns with
 | nil =>
  intro vs w
  rw[map_nil]at w
  cases w
  exact .nil
 | cons n ns cC =>
  intro vs w
  rw[map_cons]at w
  cases w with
  | cons a b =>
   cases a
   exact .cons _ _ (cC _ b)
theorem SE {l:OpenLaw}{n:Nat}(aP:l.most=some n) {P:Params}{h:Heap}{args:List WData}{vals:List Value}
  (zO:l.row.toRowW.claim.pre args=true) (EH:WellAll P h vals args) :
  ∃a vs ns,vals=[Value.ref a]∧args=[WData.list (ns.map WData.int)]∧h.get? a=some { cls:=.type "list",data:=.seq vs.toArray }∧IntsAre vs ns∧ns.length≤n:=by
 have Zn:WShape.hasAll [] args [.list .int]=true:=(pre_splitW zO).1
 have ai:l.pre.holds [] { args:=args }=true:=(pre_splitW zO).2
 obtain⟨d,r,rfl,ak,az⟩:=hasAllW_cons Zn
 obtain rfl:=hasAllW_nil az
 obtain⟨xs,rfl,cz⟩:=hasW_list ak
 obtain⟨ns,rfl⟩:=items_int cz
 have hlen:ns.length≤n:=by
  unfold OpenLaw.pre at ai
  have dA:(WTm.not (.lt (.lit (.int (n:Int))) (.len (.arg 0)))).holds [] { args:=[.list (ns.map .int)] }=true:=by
   have dA:=(holds_andW ai).1
   rw[aP]at dA
   exact dA
  have gz:=condW_of dA (w_not (w_lt w_lit (w_len_list (w_arg rfl))))
  rw[length_map]at gz
  refine Nat.le_of_not_lt fun q=>?_
  have oY:(n:Int)<((ns.length:Nat):Int):=by omega
  first
   | (rw[decide_eq_true oY]at gz;exact absurd gz (by decide))
   | (simp at gz;omega)
 cases EH with
 | cons e6 eB =>
  cases eB
  cases e6 with
  | list aC tM=>exact⟨_,_,ns,rfl,rfl,aC,Rw ns _ tM,hlen⟩
theorem SJ (l:OpenLaw) (args:List WData):l.row.toRowW.claim.post args (.bool true) args=true :=
 postW_of (r:=l.row.toRowW) (X:=(true == true))
  (show WShape.has [] (.bool true) .bool=true by first | rfl | decide | simp[WShape.has,WShape.arms,WShape.armsAll])
  (show (WTm.eq .res (.lit (.bool true))).value [] { args:=args,res:=some (.bool true),after:=args }=some (.bool (true == true)) from w_eq_bool (w_res rfl) w_lit) rfl
theorem R6 {l:OpenLaw}{n:Nat}{q:Program}{loose:List Str}{uD:(Str→Option Value)→Heap→Prop}{ri:World→Heap→Prop}{d:DefRec}
  (aP:l.most=some n) (wH:d.params.defaults=[])
  (call:∀(w:World) (fP dn:Shared) (mg m4:Str→Option Value) (fU:Addr) (o:Obj) (pm cd doc:Value) (a:Addr) (vs:List Value) (ns:List Int),
   Ground q loose [] uD w fP mg m4 dn.heap→ri w dn.heap →
   dn.heap.get? fU=some o→o.data=.func (docDef d.name d.params d.body d.scope pm cd doc)→dn.heap.CodeRec cd d.name→mg d.name=some (.ref fU) →
   dn.heap.get? a=some { cls:=.type "list",data:=.seq vs.toArray }→IntsAre vs ns→ns.length≤n→dn.gens = #[] →
   codeAny (model l.prog w) callerA (.call (.ref fU) ⟨[.ref a],[]⟩) (fun r aJ=>r=.ok (.ret (.bool true))∧OldK dn.heap aJ.heap∧aJ.os=dn.os∧AllBare aJ.gens) dn) :
  WalkO q loose uD ri l.row.toRowW d [] (fun f vs=>PySem.call f vs):=by
 intro w fP dn mg m4 G Y fU o pm cd doc AZ eo aC hd k_ gb wB cF args vals as zO acn acS EH nJ
 obtain rfl:AZ=.none:=Dflts.none gb wH
 obtain rfl:eo=.none:=Dflts.noKw gb
 obtain⟨a,vs,ns,rfl,rfl,DY,hints,hlen⟩:=SE aP zO EH
 refine enter_call (codeAny_mono (call w fP dn mg m4 fU o pm cd doc a vs ns G Y aC (fd_plain hd) k_ wB DY hints hlen cF) fun r aJ bo=>?_)
 obtain⟨rfl,az,cz,dA⟩:=bo
 exact⟨.inl ⟨.bool true,.bool true,[],rfl,fun _=>rfl,.bool true,SJ l _,fun _=>⟨List.Pairwise.nil,fun _ hm=>(nomatch hm)⟩⟩,az,cz,dA⟩
section
variable {prog:Program}{w:World}{A:Around}{E:Value→Shared→Prop}{s:Shared}{K:Frag}
end
end Qi
namespace L2
open PySem PySem.Spec PyProof.Rows
theorem H_:∀{vs:List Value}{ns:List Int},IntsAre vs ns→Vals (ns.map V.int) vs
 | _,_,.nil=>.nil
 | _,_,.cons n t h=>.cons ⟨t,rfl⟩ (H_ h)
def D5 (H:ao):Prop:=∀b,H b=none∨∃o xs,H b=some (.jF o (.lst xs))
theorem Um {P:Program}{w:World}{K:PySem.W.Frag}{mg m4:Str→Option Value}{fe:mU}{k:Nat}{fU a:Addr}{fd:FuncData}{x:Str}{sp:dj}{dn:Shared}{vs:List Value}{ns:List Int}
  (ob:K.In dn.heap) (Ou:dn.heap.Ns mainGlobals mg) (aa:dn.heap.Ns builtinsNs m4) (ZY:∀x:Str,x≠"__name__"→m4 x=bootBuiltins x) (X2:dn.heap.NoLimit) (cF:dn.gens = #[])
  (bk:dn.heap.get? a=some { cls:=.type "list",data:=.seq vs.toArray }) (aL:IntsAre vs ns) (aE:ns.length≤sizeLine) (aD:gE k callerA)
  (F:∀base:Heap,K.In base→base.Ns mainGlobals mg→br P w K mg base fe k fU fd [x] sp) (WZ:∀(s:Shared) (u:Value),BindsTo s fd ⟨[u],[]⟩ [(x,u)])
  (oH:∀H:ao,D5 H→aO K H a (ns.map V.int)→sp [.ref a] H (fun v _=>v=.bV true) fun _ _ _=>False)
  (E5:∀H e aJ,fe [] H dn (fun _ _ _=>False) e aJ→False) :
  codeAny (model P w) callerA (.call (.ref fU) ⟨[.ref a],[]⟩) (fun r aJ=>r=.ok (.ret (.bool true))∧OldK dn.heap aJ.heap∧aJ.os=dn.os∧AllBare aJ.gens) dn:=by
 have bL:=H_ aL
 have XP:=aL.length
 have core:∀H:ao,D5 H→aO K H a (ns.map V.int)→e_ P w H dn.heap→(∀b,H b≠none→b=a)→(H a≠none→K.lookup a=none) →
   codeAny (model P w) callerA (.call (.ref fU) ⟨[.ref a],[]⟩) (fun r aJ=>r=.ok (.ret (.bool true))∧OldK dn.heap aJ.heap∧aJ.os=dn.os∧AllBare aJ.gens) dn:=by
  intro H xD l8 bG sA hK
  have J_:∀{b:Addr} {o:Obj},dn.heap.get? b=some o→H b=none→(pG dn.heap H).get? b=some o:=fun e n=>Uq e n
  have wc:∀{b:Addr} {o:Obj} {aB:Array DictEntry} {cp:Nat},dn.heap.get? b=some o→o.data=.dict aB cp→H b=none:=fun {b o aB cp} e d=>by
   cases q:H b with
   | none=>rfl
   | some u =>
    have cX:b=a:=sA b (by rw[q];simp)
    subst cX
    rw[bk]at e;cases e
    have d':Data.seq vs.toArray _=Data.dict aB cp:=d
    cases d'
  have z6:∀{b:Addr} {m:Str→Option Value},dn.heap.Ns b m→(pG dn.heap H).Ns b m:=fun {b m} ⟨o,aB,cp,e,d,r⟩=>⟨o,aB,cp,J_ e (wc e d),d,r⟩
  have OJ:K.In (pG dn.heap H):=fun b o e=>J_ (ob b o e) (by
   cases q:H b with
   | none=>rfl
   | some u =>
    have cX:b=a:=sA b (by rw[q];simp)
    subst cX
    rw[hK (by rw[q];simp)]at e;cases e)
  have abn:Mod K mg (pG dn.heap H):=⟨OJ,z6 Ou,⟨m4,z6 aa,ZY⟩,let ⟨sv,ak,az⟩:=X2;⟨sv,z6 ak,az⟩⟩
  have e0:rU P w K mg (pG dn.heap H) callerA [] dn H:=⟨rfl,abn,fun b o e=>Va e,le_of_eq (S9 _ _),trivial,fun b aa=>absurd (show b∈([]:List Addr) from aa) (by simp),bG,.of_eq cF⟩
  refine codeAny_mono ((F _ OJ (z6 Ou)).run callerA [] dn H ⟨[.ref a],[]⟩ [.ref a] [.ref a] _ _ aD e0 (WZ dn (.ref a)) (.cons rfl .nil) (oH H xD l8)) fun r aJ h=>?_
  cases r with
  | error e=>exact (E5 H e aJ h).elim
  | ok eW =>
   cases eW with
   | next=>exact False.elim h
   | brk=>exact False.elim h
   | cont=>exact False.elim h
   | ret u =>
    obtain⟨v,af,os,bare,un,XY,fR,q⟩:=h
    have oY:v=.bV true:=q
    subst oY
    obtain rfl:u=Value.bool true:=fR
    refine⟨rfl,OldK.of_keep fun b o e=>?_,os,bare⟩
    cases q:H b with
    | none=>exact un.keep b o e q (by intro z;exact absurd (show b∈([]:List Addr) from z) (by simp)) (by simp)
    | some u =>
     rcases xD b with z | ⟨bY,xs,z⟩
     ·rw[q]at z;cases z
     ·have dW:=un.oA b bY _ z
      obtain⟨aH,_⟩:=bG b _ z
      obtain⟨aM,_⟩:=XY b _ dW
      rw[e]at aH;cases aH
      exact aM
 cases aS:K.lookup a with
 | some o =>
  have e:=ob a o aS
  rw[bk]at e
  cases e
  refine core (fun _=>none) (fun _=>.inl rfl) (.inr ⟨_,vs.toArray,_,aS,rfl,rfl,rfl,by rw[size_toArray,XP];exact aE,by simpa using bL⟩) (fun b u z=>by have iX:(none:Option fp)=some u:=z;cases iX) (fun b z=>absurd rfl z) fun z=>absurd rfl z
 | none =>
  refine core (fun b=>if b=a then some (.jF { cls:=.type "list",data:=.seq vs.toArray } (.lst (ns.map V.int))) else none) (fun b=>?_) (.inl (.inr ⟨{ cls:=.type "list",data:=.seq vs.toArray },if_pos rfl⟩)) (fun b u z=>?_) (fun b z=>?_) fun _=>aS
  ·by_cases aa:b=a
   ·exact .inr ⟨_,_,if_pos aa⟩
   ·exact .inl (if_neg aa)
  ·by_cases aa:b=a
   ·have iX:=(if_pos aa).symm.trans z
    cases iX
    subst aa
    exact⟨bk,by rw[length_map];exact aE,vs,_,bL,bk⟩
   ·have iX:=(if_neg aa).symm.trans z
    cases iX
  ·by_cases aa:b=a
   ·exact aa
   ·exact absurd (if_neg aa) z
theorem UC {l:PySem.W.OpenLaw}{n k:Nat}{q:Program}{loose:List Str}{uD:(Str→Option Value)→Heap→Prop}{ri:World→Heap→Prop}{d:DefRec}{K:Params→PySem.W.Frag}{fe:World→mU}{sp:World→dj}{x:Str}
  (aP:l.most=some n) (qR:n≤sizeLine) (wH:d.params.defaults=[]) (aD:gE k callerA)
  (Gy:∀(w:World) (h:Heap),ri w h→(K w.params).In h)
  (F:∀(w:World) (mg:Str→Option Value) (fU:Addr) (h:Heap),(K w.params).In h→h.Ns mainGlobals mg→mg d.name=some (.ref fU) →
   ∃fd:FuncData,(∀(s:Shared) (u:Value),BindsTo s fd ⟨[u],[]⟩ [(x,u)]) ∧
    ∀base:Heap,(K w.params).In base→base.Ns mainGlobals mg→br l.prog w (K w.params) mg base (fe w) k fU fd [x] (sp w))
  (oH:∀(w:World) (H:ao) (a:Addr) (ns:List Int),ns.length≤n→D5 H→aO (K w.params) H a (ns.map V.int)→sp w [.ref a] H (fun v _=>v=.bV true) fun _ _ _=>False)
  (E5:∀(w:World) (H:ao) (s:Shared) (e:Value) (aJ:Shared),fe w [] H s (fun _ _ _=>False) e aJ→False) :
  PySem.W.WalkO q loose uD ri l.row.toRowW d [] (fun f vs=>PySem.call f vs):=by
 refine Qi.R6 aP wH fun w fP dn mg m4 fU o pm cd doc a vs ns G Y aC hd k_ wB DY hints hlen cF=>?_
 have ob:=Gy w _ Y
 obtain⟨fd,aa,abo⟩:=F w mg fU _ ob G.T.g wB
 exact Um ob G.T.g G.T.b G.T.builtins G.T.nolimit cF DY hints (le_trans hlen qR) aD abo aa (fun H xD l8=>oH w H a ns hlen xD l8) fun H e aJ=>E5 w H dn e aJ
end L2
namespace L2
open PySem PySem.Spec PyProof.Rows
def inClass (s:Stmt) (j:Nat):Stmt:=match s with
 | .ClassDef _ _ _ body _ _ _ _ _ _ _=>body.getD j (.Pass ⟨0,0,0,0⟩)
 | _=>.Pass ⟨0,0,0,0⟩
def ph (s:Stmt):Arguments:=match s with
 | .FunctionDef _ a _ _ _ _ _ _ _ _=>a
 | _=>{ posonlyargs:=[],args:=[],vararg:=none,kwonlyargs:=[],kw_defaults:=[],kwarg:=none,defaults:=[] }
def iQ (s:Stmt):List Stmt:=match s with
 | .FunctionDef _ _ b _ _ _ _ _ _ _=>b
 | _=>[]
def cR (s:Stmt):Scope:=match s with
 | .FunctionDef _ _ _ _ _ _ sc _ _ _=>sc
 | _=>{ kind:=.function,names:=[],isGenerator:=false,isCoroutine:=false }
abbrev bX:mU:=fun _ _ _ _ _ _=>False
abbrev Ro:hj:=fun _ _ _=>False
theorem de {X:bI}:Passes bX X Ro:=fun _ _ _ _ _ _ _ h=>h.elim
structure bW (K:PySem.W.Frag) (x qual:Str) (st:Stmt) (f:Addr) (fd:FuncData):Prop where
 ex:∃(m1:Value) (e8:Option Addr) (eo doc pm:Value) (an:Option Addr) (cy fc:Value) (pM:Array (Option Value)),
  fd=PySem.W.fnOf x qual (ph st) (iQ st) (cR st) .none eo doc pm an cy fc∧K.lookup f=some ⟨m1,e8,.func fd,pM⟩∧PySem.W.codeIn K cy qual=true
 bD:keepIn K (.ref f)=true
section
variable {P:Program}{w:World}{K:PySem.W.Frag}{mg:Str→Option Value}{base:Heap}
theorem bW.ok {x qual:Str}{st:Stmt}{f:Addr}{fd:FuncData}{N ps:List Str}{k:Nat}{sp:dj}(F:bW K x qual st f fd) (S:dI N ps (cR st)) (len:∀vs H Q E,sp vs H Q E→vs.length=ps.length)
  (vu:∀(cy:Value) (A:Around) (outer:List Env) (s:Shared) (H:ao) (vs:List V) (Q:cD) (E:hj),gE k (A.deeper (envOfC qual (cR st) s.heap.objs.size f cy))→sp vs H Q E →
   ∃t,hC (f9 bX P w K mg base N qual (cR st) f cy A outer s H E).mK (iQ st) t∧t { da:=fun _ af=>Q .cP af,l3:=Q } (start N vs) H):br P w K mg base bX (k+1) f fd ps sp:=by
 obtain⟨m1,e8,eo,doc,pm,an,cy,fc,pM,rfl,lk,k_⟩:=F.ex
 refine La lk k_ S len fun A outer s H vs Q E aD oH=>?_
 obtain⟨t,h,q⟩:=vu cy A outer s H vs Q E aD oH
 exact⟨t,h.mK,q⟩
theorem bW.binds {x qual:Str}{st:Stmt}{f:Addr}{fd:FuncData}{ps:List Str}(F:bW K x qual st f fd)
  (h:∀(eo doc pm:Value) (an:Option Addr) (cy fc:Value) (us:List Value),us.length=ps.length→bindArgs (PySem.W.fnOf x qual (ph st) (iQ st) (cR st) .none eo doc pm an cy fc) ⟨us,[]⟩=pure (ps.zip us)):Binds K fd ps []:=by
 obtain⟨m1,e8,eo,doc,pm,an,cy,fc,pM,rfl,lk,k_⟩:=F.ex
 exact .all (h eo doc pm an cy fc)
theorem Wa {x qual:Str}{st:Stmt}{f:Addr}{m1:Value}{e8 an:Option Addr}{pM:Array (Option Value)}{eo doc pm cy fc:Value}(l:K.lookup f=some ⟨m1,e8,.func (PySem.W.fnOf x qual (ph st) (iQ st) (cR st) .none eo doc pm an cy fc),pM⟩)
  (c:PySem.W.codeIn K cy qual=true) (k:keepIn K (.ref f)=true):bW K x qual st f (PySem.W.fnOf x qual (ph st) (iQ st) (cR st) .none eo doc pm an cy fc):=⟨⟨m1,e8,eo,doc,pm,an,cy,fc,pM,rfl,l,c⟩,k⟩
end
theorem g_ {A:Around}{k:Nat}(aD:gE k A):A.units+1<cLine:=lt_of_le_of_lt (Nat.add_le_add_left (by decide:1≤64) _) aD.units
theorem SA {n:Nat}(h:n≤1000):n<sizeLine:=lt_of_le_of_lt h (by decide)
section
variable {X:bI}
theorem ah (i:Nat) {x:Str}{pos:Pos}(f_:X.N[i]?=some x:=by rfl) (aX:Ff X.env.scope x:=by first | exact Or.inl rfl | exact Or.inr (Or.inl rfl) | exact Or.inr (Or.inr rfl)) (hd:(x == ("__debug__":Str))=false:=by decide)
  (k_:(x == ("__classdict__":Str))=false:=by decide):b9 X (.Name x pos) (Lw i):=VL f_ aX hd k_
end
theorem cV {A B:Prop}(h:B):if false=true then A else B:=by
 rw[if_neg Bool.false_ne_true]
 exact h
theorem el {A B:Prop}(h:A):if true=true then A else B:=by
 rw[if_pos rfl]
 exact h
theorem gq {c A B:Prop} [Decidable c] (ak:c→A) (az:¬c→B):if c then A else B:=by
 by_cases h:c
 ·rw[if_pos h]
  exact ak h
 ·rw[if_neg h]
  exact az h
theorem nq {c A B:Prop} [Decidable c] (ai:c) (h:B):if (!decide c)=true then A else B:=by
 rw[decide_eq_true ai]
 exact cV h
def bO (H af:ao):Prop:=∀b o,H b=some o→af b=some o
theorem bO.refl (H:ao):bO H H:=fun _ _ h=>h
theorem bO.trans {H H1 ay:ao}(a:bO H H1) (b:bO H1 ay):bO H ay:=fun c o h=>b c o (a c o h)
theorem bO.free {H af:ao}(e:bO H af) {l:Addr}(h:af l=Option.none):H l=Option.none:=by
 cases q:H l with
 | none=>rfl
 | some o =>
  rw[e l o q]at h
  cases h
theorem bO.seq {K:PySem.W.Frag}{H af:ao}{a:Addr}{xs:List V}(e:bO H af) (h:aO K H a xs):aO K af a xs:=by
 rcases h with (h | ⟨o,h⟩) | h
 ·exact .inl (.inl (e _ _ h))
 ·exact .inl (.inr ⟨o,e _ _ h⟩)
 ·exact .inr h
section
variable {κ:Type} [DecidableEq κ]
end
section
variable {X:bI}{pins:List (Addr × Obj)}{σ:St}{H:ao}{s:Shared}
theorem jB.Y_ {x:V}{u t:Value}(I:Inv X pins σ H s) (bH:RelV x u) (ty:jB X.K H x t) :
  ∃GY:Heap→Prop,PySem.W.KitX X.K u t GY∧GY s.heap∧u≠.builtin "__main__.__loader__#opaque":=by
 cases ty with
 | cP=>cases (show u=Value.none from bH);exact⟨_,PySem.W.kitx_none,True.intro,fun z=>nomatch z⟩
 | bV y=>cases (show u=Value.bool y from bH);exact⟨_,PySem.W.kitx_bool,True.intro,fun z=>nomatch z⟩
 | int i=>obtain⟨t,q⟩:=(show ∃t,u=Value.int i t from bH);cases q;exact⟨_,PySem.W.kitx_int,True.intro,fun z=>nomatch z⟩
 | str y=>obtain⟨t,q⟩:=(show ∃t,u=Value.str y t from bH);cases q;exact⟨_,PySem.W.kitx_str,True.intro,fun z=>nomatch z⟩
 | qY y=>obtain⟨t,q⟩:=(show ∃t,u=Value.float y t from bH);cases q;exact⟨_,PySem.W.kitx_float,True.intro,fun z=>nomatch z⟩
 | @lst a xs aU =>
  cases (show u=Value.ref a from bH)
  obtain⟨_,_,n,_,ak⟩:=(show fM X.prog X.w H s.heap a (.lst xs) from I.bG a _ aU)
  exact⟨_,PySem.W.kitx_list,⟨_,ak,rfl⟩,fun z=>nomatch z⟩
 | @jF a bY xs aU =>
  cases (show u=Value.ref a from bH)
  obtain⟨_,_,_,n,_,ak⟩:=(show fM X.prog X.w H s.heap a (.jF bY (.lst xs)) from I.bG a _ aU)
  exact⟨_,PySem.W.kitx_list,⟨_,ak,rfl⟩,fun z=>nomatch z⟩
 | @tup a xs aU =>
  cases (show u=Value.ref a from bH)
  obtain⟨_,_,_,o,ak,az,_⟩:=(show fM X.prog X.w H s.heap a (.tup xs) from I.bG a _ aU)
  exact⟨_,PySem.W.kitx_tuple,⟨o,ak,az⟩,fun z=>nomatch z⟩
 | @bS a kvs aU =>
  cases (show u=Value.ref a from bH)
  obtain⟨_,_,vs,_,o,aB,cp,ak,az,_⟩:=(show fM X.prog X.w H s.heap a (.bS kvs) from I.bG a _ aU)
  exact⟨_,PySem.W.kitx_dict,⟨o,ak,az.1⟩,fun z=>nomatch z⟩
 | @gJ a kvs aU =>
  cases (show u=Value.ref a from bH)
  obtain⟨_,_,xs,_,o,aB,cp,ak,az,_⟩:=(show fM X.prog X.w H s.heap a (.gJ kvs) from I.bG a _ aU)
  exact⟨_,PySem.W.kitx_dict,⟨o,ak,az.1⟩,fun z=>nomatch z⟩
 | @ins a C dx bP aU cl bk aP j8 hm =>
  cases (show u=Value.ref a from bH)
  obtain⟨ei,O,_⟩:=u7 I.bG aU
  obtain⟨e8,J,_⟩:=O.look
  exact⟨_,PySem.W.kitx_own (cl.get _) cl.hd bk aP j8 hm,J,fun z=>nomatch z⟩
end
section
variable {X:bI}
def XC (K:PySem.W.Frag):List V→ao→cD→Prop:=fun xs H Q=>∃x t T b,xs=[x,.ty T]∧jB K H x t∧kitOne K t (.type T)=some b∧Q (.bV b) H
theorem ju:nt X (.builtin "isinstance") (XC X.K):=by
 intro pins s σ H xs us Q I bL h
 obtain⟨x,t,T,b,rfl,ty,e,q⟩:=h
 obtain⟨u,v,rfl,eF,Ef⟩:=bL.two
 have tQ:v=Value.type T:=Ef
 subst tQ
 exact S5 I eF ty e fun bF=>⟨.bV b,H,I.tok bF,rfl,q⟩
theorem Jz:∀{sL:List String}{its:List Value},Vals (sL.map V.ty) its→its=sL.map Value.type
 | [],_,.nil=>rfl
 | T::sL,_,.cons r t=>by
  have e:_=Value.type T:=r
  rw[e,Jz t]
  all_goals rfl
def WA (K:PySem.W.Frag):List V→ao→cD→Prop:=fun xs H Q=>∃(x:V) (t:Value) (p:Addr) (sL:List String) (b:Bool),xs=[x,.ref p]∧jB K H x t∧H p=some (.tup (sL.map V.ty))∧PySem.W.kitAny K t (sL.map Value.type)=some b∧Q (.bV b) H
theorem Tn:nt X (.builtin "isinstance") (WA X.K):=by
 intro pins s σ H xs us Q I bL h
 obtain⟨x,t,p,sL,b,rfl,ty,aF,e,q⟩:=h
 obtain⟨u,v,rfl,eF,Ef⟩:=bL.two
 cases (show v=Value.ref p from Ef)
 obtain⟨its,r,⟨o,aC,ai,n,hd⟩,_⟩:=I.tuple (aG.of aF)
 obtain⟨c,dd,QZ,dz⟩:=o
 simp only at ai hd
 subst ai hd
 have h6:=Jz r
 subst h6
 obtain⟨GY,Z,dt,bh⟩:=jB.Y_ I eF ty
 exact PySem.W.kia_tup Z I.gN dt aC e bh fun bF=>⟨.bV b,H,I.tok bF,rfl,q⟩
def VG:jV:=fun x y H Q=>∃a b xs,x=.ref a∧y=.ref b∧H a=some (.lst xs)∧H b=some (.lst [])∧Q (.bV (!xs.isEmpty)) H
theorem Je (bf:X.A.units<cLine):hD X (compareOp .NotEq) VG:=by
 intro pins s σ H x y v u Q I bH bQ h
 obtain⟨a,b,xs,rfl,rfl,bk,aa,q⟩:=h
 cases bH
 cases bQ
 obtain⟨its,r,p,_⟩:=I.list (aO.of bk)
 obtain⟨j3,b3,es,_⟩:=I.list (aO.of aa)
 cases b3
 cases xs with
 | nil =>
  cases r
  exact SeqAt.RcNeAt.lists (e:=fun _=>true) p.isList es.isList rfl bf (fun j ak _=>absurd ak (by simp)) X.prog X.w X.dN _ ⟨.bV false,H,I,rfl,q⟩
 | cons x xs =>
  cases r
  exact SeqAt.RcNeAt.lists_lengths p.isList es.isList (by simp) bf X.prog X.w X.dN _ ⟨.bV true,H,I,rfl,q⟩
section
open AutoSeq1 (wpAny_loadPart')
theorem Ru (l:Addr) (items:Array Value) (n:Nat) (b:Addr) (vj:Array Value) (dP:Nat) (dd:Option Addr) (dz:Array (Option Value)) (bZ:¬(!items.isEmpty && Builtin.List.listTooLong (items.size+vj.size))=true) (Zo:items.size≤sizeLine) (jE:items.size+vj.size≤sizeLine+1) :
  Meets (Builtin.«list.extend» ⟨[.ref l,.ref b],[]⟩) (fun _ R s=>s.heap.get? l=some { cls:=.type "list",dict:=none,data:=.seq items n,slots := #[] }∧s.heap.get? b=some { cls:=.type "tuple",dict:=dd,data:=.seq vj dP,slots:=dz }∧R (.ok (.ret Value.none)) { s with heap:=s.heap.update l (Obj.mapSeq fun x=>x++vj),toks:=s.toks }) :=
 .of_wp fun prog w A R s h=>by
  obtain⟨aF,g,d,bF,os⟩:=s;obtain⟨aE,aa,h⟩:=h;have f1:=AutoSeq1.idx_int;have f2:=AutoSeq1.sub_tuple_tuple;have fy:=AutoSeq1.sub_list_list;have f4:=AutoSeq1.sub_tuple_list;have gk:=AutoSeq1.sub_list_tuple;
  have Aj:(items++vj).size≤sizeLine+1:=by rw[Array.size_append];exact jE
  wp_walk using (wpAny_updateSeq aE rfl (hz:=Zo) (_hz':=Aj)),wpAny_loadPart' aE,wpAny_loadPart' aa;exact⟨_,rfl,h⟩
end
def TJ:V→List V→ao→cD→Prop:=fun x vs H Q=>∃l b xs zs,x=.ref l∧vs=[.ref b]∧H l=some (.lst xs)∧H b=some (.tup zs)∧xs.length+zs.length≤sizeLine∧Q .cP (upd H l (.lst (xs++zs)))
theorem Se:wW X "list.extend" TJ:=by
 intro pins s σ H x vs v us Q I bH bL h
 obtain⟨l,b,xs,zs,rfl,rfl,hS,p8,hz,q⟩:=h
 cases bH
 obtain⟨u,rfl,eF⟩:=bL.one
 cases eF
 obtain⟨z,its,n,r,aE,e⟩:=I.qC hS
 obtain⟨j3,b3,⟨o,aC,ai,dP,hd⟩,_⟩:=I.tuple (aG.of p8)
 obtain⟨c,dd,QZ,dz⟩:=o
 simp only at ai hd
 subst ai hd
 have Ao:=b3.length
 have hsz:its.toArray.size+j3.toArray.size≤sizeLine:=by rw[size_toArray,size_toArray];omega
 have Du:¬(!its.toArray.isEmpty && Builtin.List.listTooLong (its.toArray.size+j3.toArray.size))=true:=by
  rw[Jg hsz,Bool.and_false]
  exact Bool.false_ne_true
 refine call_meets F.slot_list_extend ⟨_,e,rfl⟩ F.entry_list_extend (F.args_list_extend_2 _ _)
  (Ru l its.toArray n b j3.toArray dP dd dz Du (by rw[size_toArray];omega) (by omega)) ⟨e,aC,?_⟩
 refine⟨.cP,_,I.zK (its':=its++j3) hS e (by simp) (r.append b3) ?_,rfl,q⟩
 rw[length_append]
 omega
def TL:V→List V→ao→cD→Prop:=fun x vs H Q=>∃l b xs zs,x=.ref l∧vs=[.ref b]∧H l=some (.lst xs)∧(H b=some (.lst zs)∨H b=some (.tup zs))∧xs.length+zs.length≤sizeLine∧Q .cP (upd H l (.lst (xs++zs)))
theorem HX:wW X "list.extend" TL:=by
 intro pins s σ H x vs v us Q I bH bL h
 obtain⟨l,b,xs,zs,aH,aM,hS,p8 | p8,hz,q⟩:=h
 ·exact SY pins s σ H x vs v us Q I bH bL ⟨l,b,xs,zs,aH,aM,hS,p8,hz,q⟩
 ·exact Se pins s σ H x vs v us Q I bH bL ⟨l,b,xs,zs,aH,aM,hS,p8,hz,q⟩
end
section
variable {X:bI}{a b:Expr}{kM pJ:TT}{pos:Pos}
theorem mC (bk:gQ X a kM) (aa:gQ X b pJ):gQ X (.BoolOp .Or [a,b] pos) (zW kM pJ):=(pw_or bk (pw_or1 aa)).pt
theorem om (bk:gQ X a kM) (aa:gQ X b pJ):gQ X (.BoolOp .And [a,b] pos) (Lz kM pJ):=(pw_and bk (pw_and1 aa)).pt
end
theorem cZ {xs:List V}(h:Nat.ble xs.length 1000=true:=by rfl):xs.length≤sizeLine:=le_trans (le_of_ble_eq_true h) (by decide)
theorem R3 {prog:Program}{w:World}{A:Around}{R:Result→Shared→Prop}{s:Shared}{elt target iter:Expr}{scope:Scope}{pos:Pos}{it acc:Value}{env:Env}(I:Nat→Shared→Prop)
  (turn:∀n s,I n s→wpAny (model prog w) A (pyNext it) (fun r dn=>match r with
   | none=>R (.ok .next) dn
   | some v=>wpAny (model prog w) A (letOwnedTupleGo target it v) (fun _ iB=>wpAny (model prog w) A (assign target env v) (fun _ gY=>wpAny (model prog w) A (eval elt env) (fun x mX =>
     wpAny (model prog w) A (call (.builtin "list.append") [acc,x]) (fun _ w_=>∃m,m<n∧I m w_) (fun _ _=>False) mX) (fun _ _=>False) gY) (fun _ _=>False) iB) (fun _ _=>False) dn) (fun _ _=>False) s)
  (n:Nat) (h:I n s):codeAny (model prog w) A (.compLoop (.ListComp elt [⟨target,iter,[],0⟩] scope pos) 0 it acc env) R s:=by
 refine codeAny_loop rfl I (fun n s p7=>?_) n h
 show wpAny _ _ ((compTurn (.ListComp elt [⟨target,iter,[],0⟩] scope pos) 0 it acc env).onRaise (fun x=>do noteFrame x env;theTreesLotGoes x)) _ _ s
 refine wpAny_noted ?_
 rw[compTurn_list1]
 refine wpAny_bind (wpAny_standAt (wpAny_bind (wpAny_mono (turn n s p7) (fun r dn fT=>?_) fun _ _ z=>False.elim z)))
 cases r with
 | none=>exact wpAny_pure fT
 | some v =>
  refine wpAny_bind (wpAny_mono fT (fun _ iB m8=>?_) fun _ _ z=>False.elim z)
  exact wpAny_bind (wpAny_mono m8 (fun _ gY xB=>wpAny_bind (wpAny_bind (wpAny_mono xB (fun x mX AX=>wpAny_bind (wpAny_mono AX
   (fun _ w_ Gx=>wpAny_pure (wpAny_pure ⟨rfl,Gx⟩)) fun _ _ z=>False.elim z)) fun _ _ z=>False.elim z))) fun _ _ z=>False.elim z)
def ez (X:bI) (cY:List Str) (scope:Scope) (cl:List (Str × Addr)) (C:Addr) (s:Shared) (H:ao) (bJ:List Addr):bI :=
 { X with N:=cY,fP:=s,xZ:=H,env:=compEnvC scope cl C X.env,outer:=X.stack,stack:=X.stack,ex:=bJ,fn:=fun _=>false,dN:=fun _ _=>False }
def pick (σ:St) (fr:List Nat):St:=fr.map fun j=>(σ[j]?).getD none
structure k4 (X:bI) (x:Str) (fr:List Nat) (cY:List Str) (scope:Scope) (cl:List (Str × Addr)):Prop where
 qF:closureFor scope X.env=pure cl
 cell:∀y∈scope.names,y.2≠.cell
 kind:scope.kind=.function
 names:∀y∈scope.names,y.2=.local→scope.names.lookup y.1=some .local
 loc:scope.names.lookup x=some .local
 sub:∀y c,cl.lookup y=some c→X.env.cells.lookup y=some c
 has:∀y,((relabel scope X.env).names.lookup y=some .cell∨(relabel scope X.env).names.lookup y=some .free)→∃c,cl.lookup y=some c
 bh:cY[0]?=some x
 len:cY.length=fr.length+1
 a_:cY.Nodup
 rV:∀(i j:Nat) (y:Str),cY[i+1]?=some y→fr[i]?=some j→X.N[j]?=some y∧X.env.scope.names.lookup y=some .cell∧(relabel scope X.env).names.lookup y=some .cell
theorem Be:∀{names:List (Str × NameKind)}{y:Str}{k:NameKind},(∀z∈names,z.2=.local)→names.lookup y=some k→k=.local
 | [],_,_,_,h=>by simp at h
 | (n,hh)::r,y,k,bk,h=>by
  rw[lookup_cons]at h
  cases e:y == n with
  | true =>
   rw[e]at h
   have h':some hh=some k:=h
   cases h'
   exact bk (n,hh) mem_cons_self
  | false =>
   rw[e]at h
   exact Be (fun z hz=>bk z (mem_cons_of_mem _ hz)) h
theorem G4:∀{names:List (Str × NameKind)}{y:Str × NameKind},(∀z∈names,z.2=.local)→y∈names→names.lookup y.1=some .local
 | [],_,_,h=>by simp at h
 | (n,hh)::r,y,bk,h=>by
  rw[lookup_cons]
  cases e:y.1 == n with
  | true =>
   have:=bk (n,hh) mem_cons_self
   dsimp only at this ⊢
   rw[this]
  | false =>
   rcases mem_cons.mp h with z | z
   ·rw[z]at e
    simp at e
   ·exact G4 (fun z hz=>bk z (mem_cons_of_mem _ hz)) z
theorem RC {scope:Scope}{env:Env}(h:∀z∈scope.names,z.2=.local):(relabel scope env).names=scope.names:=by
 unfold relabel
 show scope.names.map _=scope.names
 refine map_eq_self fun z hz=>?_
 obtain⟨n,k⟩:=z
 have:=h (n,k) hz
 dsimp only at this
 subst this
 rfl
theorem k4.plain {X:bI}{x:Str}{scope:Scope}(aE:∀z∈scope.names,z.2=.local) (aS:scope.kind=.function) (bh:scope.names.lookup x=some .local):k4 X x [] [x] scope [] where
 qF:=closureFor_none fun z hz e=>by rw[aE z hz]at e;cases e
 cell:=fun y ck e=>by rw[aE y ck]at e;cases e
 kind:=aS
 names:=fun y ck _=>G4 aE ck
 loc:=bh
 sub:=fun y c e=>by simp at e
 has:=fun y e=>by
  rw[RC aE]at e
  rcases e with e | e
  ·cases Be aE e
  ·cases Be aE e
 bh:=rfl
 len:=rfl
 a_:=by simp
 rV:=fun i j y _ e=>by simp at e
def tC (J:jW) (b2:TE) (bA:St) (Q:cD) (H:ao) (acc:Addr):Prop :=
 ∃(n:Nat) (W:Nat→List V→ao→Prop),W 0 [] (upd H acc (.lst []))∧∀i ys ay,W i ys ay→(J.stop i ay∧Q (.ref acc) ay) ∨
  (J.go i ay∧i<n∧∀v aT,J.nB i ay v aT→b2 (some v::bA) aT fun y cO=>cO acc=some (.lst ys)∧ys.length<sizeLine∧W (i+1) (ys++[y]) (upd cO acc (.lst (ys++[y]))))
theorem Ti {X:bI}{pins:List (Addr × Obj)}{σ:St}{H:ao}{s:Shared}{x:Str}{iY:Pos}{elt iter:Expr}{scope:Scope}{pos:Pos}{cl:List (Str × Addr)}{cY:List Str}{fr:List Nat}{b2:TE}{J:jW}{bJ:List Addr}{it:Addr}
  {ek:Nat→Heap→Prop} {E:Value→Shared→Prop} {RR:Value→Addr→Result→Shared→Prop} {Q:cD} (B:k4 X x fr cY scope cl) (ai:X.calm=true) (I:Inv X pins σ H s) (T:Turn X.prog X.w X.K (.Name x iY) J bJ it ek)
  (st:ek 0 s.heap) (hf:∀b∈bJ,lQ X pins H b) (he:∀C aJ af,b9 (ez X cY scope cl C aJ af bJ) elt b2) (h:∀acc,H acc=none→tC J b2 (pick σ fr) Q H acc)
  (wJ:∀acc C af aJ m,Inv X pins σ af aJ→Q (.ref acc) af→aJ.heap.Ns C m→af C=none→C≠X.env.locals→(C∈X.ex∨X.fP.heap.objs.size≤C)→(∀y c,X.env.cells.lookup y=some c→c≠C)→(∀p∈X.bK++pins,p.1≠C)→RR (.ref acc) C (.ok .next) aJ) :
  wpAny (model X.prog X.w) X.A (newList []) (fun acc gY=>wpAny (model X.prog X.w) X.A (newFunctionEnv scope X.env.globals cl [] X.env.qual none .none (some X.env)) (fun qG mX =>
   codeAny (model X.prog X.w) X.A (.compStart (.ListComp elt [⟨.Name x iY,iter,[],0⟩] scope pos) 0 (.ref it) acc { qG with scope:=relabel scope X.env }) (RR acc qG.locals) mX) E gY) E s:=by
 refine wpAny_newObj_type (wpAny_newFunctionEnv B.cell (by intro y ck;simp at ck) (fun fT ny nx=>?_) B.kind)
 have cA:Inv X pins σ (upd H s.heap.objs.size (.lst [])) { s with heap:=s.heap.push { cls:=.type "list",data:=.seq ([]:List Value).toArray } }:=I.zL (its:=[]) (t':=s.toks) .nil (zero_le _)
 obtain⟨n,W,pY,turn⟩:=h s.heap.objs.size I.fresh
 dsimp only at ny nx ⊢
 generalize qP:({ s with heap:=s.heap.push { cls:=.type "list",data:=.seq ([]:List Value).toArray } }:Shared)=s3 at *
 have qS:s.heap.push { cls:=.type "list",data:=.seq ([]:List Value).toArray }=s3.heap:=by rw[←qP]
 have vM:s.heap.push { cls:=.type "list",dict:=none,data:=.seq ([]:List Value).toArray }=s3.heap:=qS
 rw[vM]at ny nx ⊢
 have jD:∀b o,s3.heap.get? b=some o→b≠s3.heap.objs.size:=fun b o e=>ne_of_lt (lt_size e)
 have jy:∀b o,s3.heap.get? b=some o→fT.get? b=some o:=fun b o e=>nx.extBut b o (jD b o e) (get?_push_of_some _ e)
 have qy:∀b o,s.heap.get? b=some o→s3.heap.get? b=some o:=fun b o e=>by rw[←qS];exact get?_push_of_some _ e
 have kE:ek 0 fT:=T.keep 0 _ _ st fun b _ o e=>jy b o (qy b o e)
 have vB:∀b∈bJ,∃o,s3.heap.get? b=some o:=fun b aa=>by
  obtain⟨o,e,_⟩:=T.obj 0 _ st b aa
  exact⟨o,qy b o e⟩
 have nu:∀b,b≠X.env.locals→b∉X.bP→b∉gO X.stack:=fun b ak az aa=>by
  rcases mem_cons.mp (cA.tn b aa) with z | z
  ·exact ak z
  ·exact az z
 have ok:(ez X cY scope cl s3.heap.objs.size s3 (upd H s.heap.objs.size (.lst [])) bJ).Ok:=by
  refine⟨I.ok.mod,?_,I.ok.glob,I.ok.blt,le_refl _,fun y z c ak az=>I.ok.inj y z c (B.sub y c ak) (B.sub z c az),fun y ck=>B.has y ck,fun y c e _=>absurd (show false=true from e) Bool.false_ne_true,I.ok.hd,I.ok.frames,.inl rfl,fun b aa=>?_,cA.bs,
   le_trans I.ok.ll cA.e7,fun b o e aa=>?_,fun b aa=>nu b (hf b aa).2.1 (hf b aa).2.2.1,cA.stack,cA.u4⟩
  ·exact B.kind
  ·obtain⟨o,e⟩:=vB b aa
   exact⟨jD b o e,fun y c e=>(hf b aa).2.2.2.2.1 y c (B.sub y c e)⟩
  ·rcases (hf b aa).2.2.2.1 with z | z
   ·exact I.ok.nv b o e z
   ·exact absurd (lt_of_lt_of_le (lt_size (I.ok.bs b o e).1) z) (lt_irrefl _)
 have cellK:∀c v,s3.heap.IsCell c v→fT.IsCell c v:=fun c v ⟨o,aC,hd⟩=>⟨o,jy c o aC,hd⟩
 have kB:∀{af:ao},(∀b∈bJ,af b=none)→∀b∈bJ,lQ (ez X cY scope cl s3.heap.objs.size s3 (upd H s.heap.objs.size (.lst [])) bJ) pins af b:=fun aP b aa =>
  ⟨aP b aa,(ok.pS b aa).1,nu b (hf b aa).2.1 (hf b aa).2.2.1,.inl aa,fun y c e=>(hf b aa).2.2.2.2.1 y c (B.sub y c e),(hf b aa).2.2.2.2.2⟩
 have jY:Inv (ez X cY scope cl s3.heap.objs.size s3 (upd H s.heap.objs.size (.lst [])) bJ) pins (none::pick σ fr) (upd H s.heap.objs.size (.lst [])) { s3 with heap:=fT }:=by
  refine⟨ok,rfl,cA.bare,hk.kept jy,⟨_,ny,fun i y v ak az cz=>?_⟩,fun y c e=>?_,cA.fresh,fun y c e=>cA.jz y c (B.sub y c e),fun p aF=>?_,cA.bG.kept jy,?_⟩
  ·cases i with
   | zero=>cases (show some none=some (some v) from az)
   | succ i =>
    have az:(pick σ fr)[i]?=some (some v):=az
    unfold pick at az
    rw[getElem?_map]at az
    cases mb:fr[i]? with
    | none=>rw[mb]at az;cases az
    | some j =>
     rw[mb]at az
     have la:(σ[j]?).getD none=some v:=Option.some.inj az
     have xC:σ[j]?=some (some v):=by
      cases q:σ[j]? with
      | none=>rw[q]at la;cases la
      | some o =>
       rw[q]at la
       have:o=some v:=la
       rw[this]
     obtain⟨e4,fK,iI⟩:=B.rV i j y ak mb
     obtain⟨fb,_,wC⟩:=cA.loc
     obtain⟨u,eF,lk⟩:=wC j y v e4 xC (.inr (.inl fK))
     refine⟨u,eF,.inr ⟨.inl iI,?_⟩⟩
     rcases lk with ⟨k,_⟩ | ⟨_,c,e,z⟩
     ·have hh:X.env.scope.names.lookup y=some .local:=k
      rw[fK]at hh
      cases hh
     ·obtain⟨fJ,cX⟩:=B.has y (.inl iI)
      have:=B.sub y fJ cX
      rw[e]at this
      cases this
      exact⟨_,cX,cellK _ _ z⟩
  ·obtain⟨v,z⟩:=cA.cell y c (B.sub y c e)
   exact⟨v,cellK c v z⟩
  ·obtain⟨e,q7,ne,kP,d⟩:=cA.pin p aF
   exact⟨jy _ _ e,q7,jD _ _ e,nu _ ne kP,d⟩
  ·show (none::pick σ fr).length=cY.length
   rw[B.len,length_cons]
   unfold pick
   rw[length_map]
 have fin:∀{af:ao} {bA:St} {aJ:Shared},Inv (ez X cY scope cl s3.heap.objs.size s3 (upd H s.heap.objs.size (.lst [])) bJ) pins bA af aJ→Q (.ref s.heap.objs.size) af→RR (.ref s.heap.objs.size) s3.heap.objs.size (.ok .next) aJ:=fun {af bA aJ} J q=>by
  obtain⟨m,aP,_⟩:=J.loc
  refine wJ _ _ af aJ m (cA.zl (ch:=bJ) J.os J.base J.bG J.bare fun b aa=>⟨(hf b aa).2.2.2.1,(hf b aa).2.1,(hf b aa).2.2.2.2.1,(hf b aa).2.2.2.2.2⟩) q aP J.free (ne_of_gt cA.lt) (.inr cA.e7) (fun y c e=>?_) fun p aF=>?_
  ·obtain⟨v,o,aC,_⟩:=cA.cell y c e
   exact jD c o aC
  ·exact jD _ _ (cA.pin p aF).1
 have loop:∀gY:Shared,gY={ s3 with heap:=fT }→codeAny (model X.prog X.w) X.A (.compLoop (.ListComp elt [⟨.Name x iY,iter,[],0⟩] scope pos) 0 (.ref it) (.ref s.heap.objs.size) (compEnvC scope cl s3.heap.objs.size X.env)) (RR (.ref s.heap.objs.size) s3.heap.objs.size) gY:=by
  rintro gY rfl
  refine R3 (fun m aJ=>∃i ys sm af,Inv (ez X cY scope cl s3.heap.objs.size s3 (upd H s.heap.objs.size (.lst [])) bJ) pins (sm::pick σ fr) af aJ∧ek i aJ.heap∧(∀b∈bJ,af b=none)∧W i ys af∧m=n - i) ?_ n ⟨0,[],none,_,jY,kE,fun b aa=>?_,pY,rfl⟩
  ·rintro m aJ ⟨i,ys,sm,af,fo,gK,qX,en,rfl⟩
   rcases turn i ys af en with ⟨stop,q⟩ | ⟨go,nK,step⟩
   ·refine bU (T.done (ez X cY scope cl s3.heap.objs.size s3 (upd H s.heap.objs.size (.lst [])) bJ) rfl rfl rfl ai i pins aJ _ af (fun _ _=>False) fo (kB qX) gK stop) fun r s1 ⟨aD,a3⟩=>?_
    subst aD
    exact fin a3 q
   ·refine bU (T.item (ez X cY scope cl s3.heap.objs.size s3 (upd H s.heap.objs.size (.lst [])) bJ) rfl rfl rfl ai i pins aJ _ af (fun _ _=>False) fo (kB qX) gK go) fun r s1 ⟨u,aD,dA⟩=>?_
    subst aD
    refine bU dA fun _ s5 ⟨v,dC,qd,l4,sl,kD,r7⟩=>?_
    have se:=qd.pinned (kB r7) (T.obj _ _ kD)
    have q_:(relabel scope X.env).names.lookup x=some .local:=lookup_relabel_local B.loc
    refine bU (ff (X:=ez X cY scope cl s3.heap.objs.size s3 (upd H s.heap.objs.size (.lst [])) bJ) (i:=0) (x:=x) B.a_ B.bh (.inl q_) (.inr q_) _ s5 _ dC v u
     (fun bA ed=>bA=some v::pick σ fr∧ed=dC) se l4 ⟨rfl,rfl⟩) fun _ l1 ⟨AG,ed,sQ,aH,aM⟩=>?_
    subst aH aM
    refine bU (he _ _ _ _ l1 _ _ _ sQ (step v _ sl)) fun y hE ⟨jI,dQ,jX,bQ,ec,hlen,pX⟩=>?_
    refine bU (ie _ hE _ dQ (.ref s.heap.objs.size) [jI] (.ref s.heap.objs.size) [y] (fun _ hl=>hl=upd dQ s.heap.objs.size (.lst (ys++[jI]))) jX rfl (.cons bQ .nil) ⟨_,ys,jI,rfl,rfl,ec,hlen,rfl⟩) fun _ jK ⟨_,hl,kU,_,kR⟩=>?_
    subst kR
    refine⟨n - (i+1),by omega,i+1,ys++[jI],some v,_,kU.tc,T.keep _ _ _ kD fun b aa o e=>(kU.pin (b,o) (mem_append_right _ (mem_append_right _ (qm aa e)))).1,fun b aa=>?_,pX,rfl⟩
    obtain⟨o,e,d⟩:=T.obj _ _ kD b aa
    exact (kU.pin (b,o) (mem_append_right _ (mem_append_right _ (qm aa e)))).2.1
  ·obtain⟨o,e,_⟩:=T.obj 0 _ st b aa
   rw[aA (ne_of_lt (lt_size e))]
   exact (hf b aa).1
 have b1:({ s with heap:=fT,toks:=s.toks+([]:List (Str × Value)).length }:Shared)={ s3 with heap:=fT }:=by rw[←qP];rfl
 rw[b1]
 exact codeAny_compStart_list (loop _ rfl) (T.self _ 0 _ _ _ kE (loop _ rfl))
section
variable {X:bI}{x y:Str}{iY py pos tE:Pos}{elt iter:Expr}{scope:Scope}{cl:List (Str × Addr)}{cY:List Str}{fr:List Nat}{gh:TI}{b2:TE}
def Ws (gh:TI) (fr:List Nat) (b2:TE):TE:=fun σ H Q=>gh σ H fun J H1=>∀acc,H1 acc=none→tC J b2 (pick σ fr) Q H1 acc
theorem Cv (fr:List Nat) (cY:List Str) (B:k4 X x fr cY scope cl) (ai:X.calm=true) (aL:o7 X (.Name x iY) iter gh) (he:∀C aJ af bJ,b9 (ez X cY scope cl C aJ af bJ) elt b2) (aY:∀x,foldedSetIterable iter X.env x=pure x:=by intro _;rfl) :
  b9 X (.ListComp elt [⟨.Name x iY,iter,[],0⟩] scope pos) (Ws gh fr b2):=by
 intro pins s σ H Q I h
 rw[eval_ListComp]
 refine wpAny_comprehension_free (use:=none) rfl aY B.qF B.kind B.names (bU (aL pins s σ H _ I h) fun v s1 ak=>bU ak fun tV s2 az=>?_)
 obtain⟨it,bJ,ek,J,ay,e,cL,T,pL,f2,aW⟩:=az
 subst e
 refine Ti (RR:=fun acc C=>compPost (model X.prog X.w) X.A X.dN none (hr X pins σ Q) acc C) B ai cL T pL f2 (fun C aJ af=>he C aJ af bJ) aW ?_
 intro acc C af aJ m fo q aP h0 ak cz dA gz
 refine⟨m,aP,fun h' jJ=>⟨.ref acc,af,fo.turned (t':=aJ.toks) (fun b o aa e=>(jJ.2 b aa).trans e) h0 ak cz dA gz,rfl,q⟩⟩
end
inductive D where
 | int (i:Int)
 | str (x:Str)
 | tup (l:List D)
 | lst (l:List D)
mutual
def D.e7:D→Nat
 | .int _=>1
 | .str _=>1
 | .tup l=>1+fs l
 | .lst l=>1+fs l
def fs:List D→Nat
 | []=>0
 | d::r=>d.e7+fs r
end
mutual
def Rep (H:ao):D→V→Prop
 | .int i,v=>v=.int i
 | .str x,v=>v=.str x
 | .tup l,v=>∃a xs,v=.ref a∧H a=some (.tup xs)∧bl H l xs
 | .lst l,v=>∃a xs,v=.ref a∧H a=some (.lst xs)∧bl H l xs
def bl (H:ao):List D→List V→Prop
 | [],xs=>xs=[]
 | d::r,xs=>∃x t,xs=x::t∧Rep H d x∧bl H r t
end
mutual
theorem Rep.mono {H af:ao}(s:bO H af):∀(d:D) (v:V),Rep H d v→Rep af d v
 | .int _,_,h=>h
 | .str _,_,h=>h
 | .tup l,_,h=>by
  unfold Rep at h ⊢
  obtain⟨a,xs,e,q,r⟩:=h
  exact⟨a,xs,e,s _ _ q,bl.mono s l xs r⟩
 | .lst l,_,h=>by
  unfold Rep at h ⊢
  obtain⟨a,xs,e,q,r⟩:=h
  exact⟨a,xs,e,s _ _ q,bl.mono s l xs r⟩
theorem bl.mono {H af:ao}(s:bO H af):∀(l:List D) (xs:List V),bl H l xs→bl af l xs
 | [],_,h=>h
 | d::r,_,h=>by
  unfold bl at h ⊢
  obtain⟨x,t,e,q,z⟩:=h
  exact⟨x,t,e,Rep.mono s d x q,bl.mono s r t z⟩
end
theorem D.Vx:∀d:D,1≤d.e7
 | .int _=>by unfold D.e7;omega
 | .str _=>by unfold D.e7;omega
 | .tup _=>by unfold D.e7;omega
 | .lst _=>by unfold D.e7;omega
theorem nh:fs []=0:=by unfold fs;rfl
theorem oj (d:D) (r:List D):fs (d::r)=d.e7+fs r:=by rw[fs]
theorem Kn (l:List D):(D.tup l).e7=1+fs l:=by rw[D.e7]
theorem tl (l:List D):(D.lst l).e7=1+fs l:=by rw[D.e7]
theorem CE (i:Int):(D.int i).e7=1:=by rw[D.e7]
theorem Ko (x:Str):(D.str x).e7=1:=by rw[D.e7]
theorem yl:∀a b:List D,fs (a++b)=fs a+fs b
 | [],b=>by rw[List.nil_append,nh,zero_add]
 | d::r,b=>by rw[List.cons_append,oj,oj,yl r b];omega
theorem Cz:∀a:List D,a.length≤fs a
 | []=>by rw[nh];exact le_refl _
 | d::r=>by
  have ak:=Cz r
  have az:=d.Vx
  rw[oj,length_cons]
  omega
theorem bl.nil {H:ao}:bl H [] []:=by unfold bl;rfl
theorem bl.cons {H:ao}{d:D}{r:List D}{x:V}{t:List V}(h:Rep H d x) (q:bl H r t):bl H (d::r) (x::t):=by
 unfold bl
 exact⟨x,t,rfl,h,q⟩
theorem bl.inv {H:ao}{d:D}{r:List D}{xs:List V}(h:bl H (d::r) xs):∃x t,xs=x::t∧Rep H d x∧bl H r t:=by
 unfold bl at h
 exact h
theorem bl.lP {H:ao}{xs:List V}(h:bl H [] xs):xs=[]:=by
 unfold bl at h
 exact h
theorem bl.append {H:ao}:∀{a b:List D}{xs ys:List V},bl H a xs→bl H b ys→bl H (a++b) (xs++ys)
 | [],_,_,_,h,q=>by rw[h.lP];exact q
 | d::r,_,_,_,h,q=>by
  obtain⟨x,t,rfl,ak,az⟩:=h.inv
  exact .cons ak (bl.append az q)
theorem bl.snoc {H:ao}:∀{a:List D}{d:D}{xs:List V},bl H (a++[d]) xs→∃ys x,xs=ys++[x]∧bl H a ys∧Rep H d x
 | [],d,xs,h=>by
  obtain⟨x,t,rfl,ak,az⟩:=bl.inv (r:=[]) h
  rw[az.lP]
  exact⟨[],x,rfl,.nil,ak⟩
 | c::r,d,xs,h=>by
  obtain⟨x,t,rfl,ak,az⟩:=bl.inv (r:=r++[d]) h
  obtain⟨ys,z,rfl,cz,dA⟩:=bl.snoc az
  exact⟨x::ys,z,rfl,.cons ak cz,dA⟩
theorem bl.length {H:ao}:∀{a:List D}{xs:List V},bl H a xs→xs.length=a.length
 | [],_,h=>by rw[h.lP];rfl
 | d::r,_,h=>by
  obtain⟨x,t,rfl,ak,az⟩:=h.inv
  rw[length_cons,length_cons,az.length]
theorem Rep.int_inv {H:ao}{i:Int}{v:V}(h:Rep H (.int i) v):v=.int i:=by unfold Rep at h;exact h
theorem Rep.str_inv {H:ao}{i:Str}{v:V}(h:Rep H (.str i) v):v=.str i:=by unfold Rep at h;exact h
theorem Rep.rx {H:ao}{l:List D}{v:V}(h:Rep H (.tup l) v):∃a xs,v=.ref a∧H a=some (.tup xs)∧bl H l xs:=by unfold Rep at h;exact h
theorem Rep.lst_inv {H:ao}{l:List D}{v:V}(h:Rep H (.lst l) v):∃a xs,v=.ref a∧H a=some (.lst xs)∧bl H l xs:=by unfold Rep at h;exact h
theorem Rep.g9 {H:ao}{l:List D}{a:Addr}{xs:List V}(h:H a=some (.tup xs)) (r:bl H l xs):Rep H (.tup l) (.ref a):=by unfold Rep;exact⟨a,xs,rfl,h,r⟩
theorem Rep.px {H:ao}{l:List D}{a:Addr}{xs:List V}(h:H a=some (.lst xs)) (r:bl H l xs):Rep H (.lst l) (.ref a):=by unfold Rep;exact⟨a,xs,rfl,h,r⟩
theorem Rep.ofInt {H:ao}{i:Int}:Rep H (.int i) (.int i):=by unfold Rep;rfl
theorem Rep.ofStr {H:ao}{i:Str}:Rep H (.str i) (.str i):=by unfold Rep;rfl
def W4:V→Option D
 | .int i=>some (.int i)
 | .str x=>some (.str x)
 | _=>none
def Atom (v:V):Prop:=∃d,W4 v=some d
theorem Atom.int (i:Int):Atom (.int i):=⟨_,rfl⟩
theorem Atom.str (i:Str):Atom (.str i):=⟨_,rfl⟩
theorem Atom.rep {H:ao}{v:V}(h:Atom v):∃d,Rep H d v∧d.e7=1:=by
 obtain⟨d,h⟩:=h
 cases v with
 | int i=>exact⟨.int i,.ofInt,CE i⟩
 | str x=>exact⟨.str x,.ofStr,Ko x⟩
 | _=>cases h
theorem yO {H:ao}{c:Nat}:∀{xs:List V},(∀v∈xs,∃d,Rep H d v∧d.e7≤c)→∃l,bl H l xs∧fs l≤xs.length * c
 | [],_=>⟨[],.nil,by rw[nh];exact zero_le _⟩
 | x::r,h=>by
  obtain⟨d,ak,az⟩:=h x mem_cons_self
  obtain⟨l,cz,dA⟩:=yO (xs:=r) fun v aX=>h v (mem_cons_of_mem _ aX)
  refine⟨d::l,.cons ak cz,?_⟩
  rw[oj,length_cons,Nat.add_mul,Nat.one_mul]
  omega
def Line (H:ao) (v:V):Prop:=∃a bP,v=.ref a∧H a=some (.tup bP)∧bP.length≤5∧∀f∈bP,Atom f
theorem Line.rep {H:ao}{v:V}(h:Line H v):∃d,Rep H d v∧d.e7≤6:=by
 obtain⟨a,bP,rfl,ak,az,cz⟩:=h
 obtain⟨l,r,z⟩:=yO (H:=H) (c:=1) fun v aX=>by
  obtain⟨d,q,e⟩:=(cz v aX).rep (H:=H)
  exact⟨d,q,le_of_eq e⟩
 exact⟨.tup l,.g9 ak r,by rw[Kn];omega⟩
def eh (H af:ao):Prop:=∀b xs,H b=some (.tup xs)→af b=some (.tup xs)
theorem bO.e5 {H af:ao}(s:bO H af):eh H af:=fun b xs h=>s b _ h
theorem ru {H:ao}{l:Addr}{xs:List V}{o:fp}(h:H l=some (.lst xs)):eh H (upd H l o):=fun b ys q=>by
 rw[aA (dv q h (fun z=>nomatch z))]
 exact q
theorem bR {H:ao}{p:Addr}(h:H p=none) (o:fp):bO H (upd H p o):=fun b u q=>by
 rw[aA (cB q h)]
 exact q
theorem bO.ig {H af:ao}{l:Addr}{o:fp}(s:bO H af) (h:H l=none):bO H (upd af l o):=fun b u q=>by
 rw[aA (cB q h)]
 exact s b u q
theorem C_ {α:Type}{xs:List α}{k:Int}(h0:0≤k) (ak:k<xs.length):∃v,nQ xs k=some v∧xs[k.toNat]?=some v:=by
 have aS:k.toNat<xs.length:=by omega
 have e:k=((k.toNat:Nat):Int):=by omega
 have q:xs[k.toNat]?=some xs[k.toNat]:=getElem?_eq_getElem aS
 have z:=fh q
 rw[←e]at z
 exact⟨_,z,q⟩
theorem V5 {n:Nat}{k:Int}(h0:0≤k) (ak:k<n):oF n k=some k.toNat:=by
 unfold oF
 rw[if_pos h0,if_pos ak]
theorem HA {n d:Nat}{k:Int}(h0:0≤k) (ak:k≤n):gm.d0 n d (some k)=k.toNat:=by
 have e:k=((k.toNat:Nat):Int):=by omega
 rw[e,gm.Cq,←e]
 omega
theorem H2 {xs:List V}{k:Int}(h0:0≤k) (ak:k≤xs.length):eX xs none (some k)=xs.take k.toNat:=by
 unfold eX
 rw[gm.yz,HA h0 ak,drop_zero,sub_zero]
theorem Sk {xs:List V}{k:Int}(h0:0≤k) (ak:k≤xs.length):eX xs (some k) none=xs.drop k.toNat:=by
 unfold eX
 rw[gm.yz,HA h0 ak]
 exact take_of_length_le (by rw[length_drop];exact le_refl _)
theorem Bt {ns:List Int}{i:Nat}{y:V}(h:(ns.map V.int)[i]?=some y):∃z,y=.int z∧ns[i]?=some z:=by
 rw[getElem?_map]at h
 cases e:ns[i]? with
 | none=>rw[e]at h;cases h
 | some z=>rw[e]at h;exact⟨z,(Option.some.inj h).symm,rfl⟩
def uf (K:PySem.W.Frag) (a:Addr):jW :=
 ⟨fun i H=>∃xs x,aO K H a xs∧xs[i]?=some x,fun i H x af=>∃p v,H p=none∧x=.ref p∧af=upd H p (.tup [.int i,v])∧∀xs,aO K H a xs→xs[i]?=some v,fun i H=>∃xs,aO K H a xs∧xs.length≤i⟩
theorem Ss {P:Program}{w:World}{K:PySem.W.Frag}{aB:List Expr}{k1:Nat}{Gh:Pos}(a e it:Addr) (iA:e≠it) :
  Turn P w K (.Tuple aB k1 Gh) (uf K a) [e,it] e (fun i h=>∃old,IsEnum h e it ((i:Nat):Int) old∧h.IsListIter it a i) where
 mem:=by simp
 obj:=fun i h ⟨old,he,hit⟩ b aa=>by
  rcases mem_cons.mp aa with z | z
  ·subst z
   exact⟨_,he,fun v z=>by
    have iX:Data.fields _=Data.cell v:=z
    cases iX⟩
  ·have z:=mem_singleton.mp z
   subst z
   obtain⟨o,e,c,d⟩:=hit
   exact⟨o,e,fun v z=>by rw[d]at z;cases z⟩
 keep:=fun i h h' ⟨old,he,hit⟩ k=>⟨old,k e (by simp) _ he,hit.at fun o x=>k it (by simp) o x⟩
 item:=by
  intro X gP hw hK ai i pins s σ H E I hf st cF
  subst gP hw hK
  obtain⟨old,he,hit⟩:=st
  obtain⟨xs,x,bo,bh⟩:=cF
  obtain⟨its,bL,p,hz⟩:=I.list bo
  obtain⟨u,bf,eF⟩:=bL.get bh
  have uy:=hf e (by simp)
  have sE:=hf it (by simp)
  have OB:e<s.heap.objs.size:=lt_size he
  refine wpAny_pyNext_enum_item he hit p.isList (x:=u) (by simpa using bf) iA fun fT qU X4 Zk acQ ZJ=>?_
  refine⟨_,rfl,wpAny_letOwnedTupleGo_enum qU fun m8 ZT wk=>?_⟩
  replace wk:Heap.SameBut e fT m8:=wk
  have k2:∀b o,b≠e→b≠it→s.heap.get? b=some o→m8.get? b=some o:=fun b o ak az q=>(wk.2 b ak).trans (ZJ b o ak az q)
  have eE:m8.get? s.heap.objs.size=some { cls:=.type "tuple",data:=.seq #[.int i s.toks,u] }:=(wk.2 _ (ne_of_gt OB)).trans Zk
  have mO:∀b,b∉[e,it]→b≠e∧b≠it:=fun b h=>⟨fun z=>h (by simp[z]),fun z=>h (by simp[z])⟩
  have z5:∀b o,H b=some o→b≠e∧b≠it:=fun b o q=>⟨cB q uy.1,cB q sE.1⟩
  have oK:H s.heap.objs.size=none:=I.fresh
  have h6:((i+1:Nat):Int)=(i:Int)+1:=by omega
  refine⟨.ref s.heap.objs.size,upd H s.heap.objs.size (.tup [.int i,x]),?_,rfl,⟨_,x,oK,rfl,rfl,fun ys ck=>by rw[I.B5 ck bo];exact bh⟩,⟨u,by rw[h6];exact ZT,X4.extBut wk.extBut (Ne.symm iA)⟩,fun b aa=>?_⟩
  ·refine Inv.step (s:=s) (h':=m8) (t':=s.toks+1) (g':=s.gens) (d':=s.drawn) (ch:=[e,it]) I (fun b aa=>?_) (fun b o _ _ h q _=>k2 b o (mO b h).1 (mO b h).2 q) (fun b o _ _ h q _=>⟨o.slots,k2 b o (mO b h).1 (mO b h).2 q⟩)
    (fun b o _ q n=>by rw[aA (ne_of_lt (lt_size q))];exact n) (fun b o h q=>⟨o,k2 b o (mO b h).1 (mO b h).2 q⟩) (fun b ys q=>by rw[aA (cB q oK)];exact q) (fun b o oV q=>by rw[aA (cB q oK)];exact q)
    (fun b ps q=>⟨#[],by rw[aA (cB q oK),q];simp⟩) (fun m hm=>?_) (fun b bY q=>?_) I.bare
   ·rcases mem_cons.mp aa with z | z
    ·rw[z];exact⟨uy.2.2.2.1,uy.2.1,uy.2.2.2.2.1,uy.2.2.2.2.2⟩
    ·rw[mem_singleton.mp z];exact⟨sE.2.2.2.1,sE.2.1,sE.2.2.2.2.1,sE.2.2.2.2.2⟩
   ·obtain⟨o,wL,cp,aC,r⟩:=hm
    exact⟨o,wL,cp,k2 _ o (Ne.symm uy.2.1) (Ne.symm sE.2.1) aC,r⟩
   ·by_cases aa:b=s.heap.objs.size
    ·subst aa
     rw[aR]at q
     cases q
     exact⟨by show 2≤sizeLine;decide,[.int i s.toks,u],.cons ⟨_,rfl⟩ (.cons eF .nil),_,eE,rfl,_,rfl⟩
    ·rw[aA aa]at q
     refine (I.bG b bY q).j2 (fun c v ai r=>?_) (fun c r=>by rw[aA (cB r oK)];exact r) (fun c ys r=>by rw[aA (cB r oK)];exact r)
     rcases ai with z | z
     ·rw[z]at r ⊢
      exact k2 b v (z5 b bY q).1 (z5 b bY q).2 r
     ·exact k2 c v (z5 c _ z).1 (z5 c _ z).2 r
  ·have t5:b<s.heap.objs.size:=by
    rcases mem_cons.mp aa with z | z
    ·rw[z];exact OB
    ·rw[mem_singleton.mp z]
     obtain⟨o,q,_⟩:=hit
     exact lt_size q
   rw[aA (ne_of_lt t5)]
   exact (hf b aa).1
 done:=by
  intro X gP hw hK ai i pins s σ H E I hf st cF
  subst gP hw hK
  obtain⟨old,he,hit⟩:=st
  obtain⟨xs,bo,bh⟩:=cF
  obtain⟨its,bL,p,hz⟩:=I.list bo
  obtain⟨f0,f1,f2,fy,f4,gk⟩:=hf it (by simp)
  have aE:=bL.length
  exact wpAny_pyNext_enum_end (I.ok.hd ai) he hit p.isList (by simp;omega) fun h' ea=>⟨rfl,I.turned (t':=s.toks) (fun b o aa e=>ea b o aa e) f0 f1 fy f4 gk⟩
 self:=fun _ _ _ _ _ st h=>by
  obtain⟨old,he,_⟩:=st
  exact wpAny_pyIter_enum he h
section
variable {X:bI}
def WU (K:PySem.W.Frag) (dh:iK):TI:=fun σ H R=>dh σ H fun vs H1=>∃a,vs=[.ref a]∧(∃xs,aO K H1 a xs)∧R (uf K a) H1
theorem Cu {aB:List Expr}{k1:Nat}{Gh:Pos}{l:Expr}{dh:iK}{p pos:Pos}(cF:lK X "enumerate") (hm:X.mg "enumerate"=none) (bk:mh X [l] dh) (aY:starEach [l] X.env=[(false,eval l X.env)]:=by rfl) :
  o7 X (.Tuple aB k1 Gh) (.Call (.Name "enumerate" p) [l] [] pos) (WU X.K dh):=by
 intro pins s σ H R I h
 refine Call_ (qv I cF hm boot_enumerate (PyProof.Rows.callWith_type1 (bU (bk pos pins s σ H _ I h) fun us s1 ⟨vs,H1,a3,bz,bx⟩=>?_) aY rfl))
 obtain⟨a,e,⟨xs,bo⟩,q⟩:=bx
 subst e
 cases bz with
 | cons r p0 =>
  cases p0
  cases r
  obtain⟨its,bL,p,hz⟩:=a3.list bo
  refine call_enumerate_list p.isList fun h' he hit hsz aS=>?_
  refine wpAny_pyIter_enum he ?_
  refine⟨s1.heap.objs.size+1,[s1.heap.objs.size+1,s1.heap.objs.size],_,_,H1,rfl,a3.kept (t':=s1.toks) aS,Ss a _ _ (Nat.succ_ne_self _),⟨.none,he,hit⟩,fun b aa=>?_,q⟩
  rcases mem_cons.mp aa with z | z
  ·rw[z]
   exact a3.rS (le_succ _) (a3.bG.fresh (le_succ _))
  ·rw[mem_singleton.mp z]
   exact a3.rS (le_refl _) (a3.bG.fresh (le_refl _))
end
theorem Jr {K:PySem.W.Frag}{a:Addr}{xs:List V}{g:h_}{dG:fW}{D:Ends}{σ:St}{H:ao}(Pv:Nat→St→ao→Prop) (h0:Pv 0 σ H) (aE:∀i σ H,i≤xs.length→Pv i σ H→aO K H a xs)
  (aY:∀i x σ H p,xs[i]?=some x→Pv i σ H→H p=none→g (.ref p) σ (upd H p (.tup [.int i,x])) fun gs ay=>dG { D with da:=Pv (i+1),fc:=Pv (i+1),hp:=D.da } gs ay) (hd:∀σ H,Pv xs.length σ H→D.da σ H) :
  ∃W:Nat→Nat→St→ao→Prop,(∃m,W 0 m σ H)∧∀i m σ H,W i m σ H →
   ((uf K a).stop i H∧D.da σ H)∨((uf K a).go i H∧∃N:St→ao→Prop,(∀bA af,N bA af→∃fG,fG<m∧W (i+1) fG bA af)∧∀x af,(uf K a).nB i H x af→g x σ af fun gs ay=>dG { D with da:=N,fc:=N,hp:=D.da } gs ay):=by
 refine⟨fun i m σ H=>m=xs.length - i∧i≤xs.length∧Pv i σ H,⟨xs.length,by simp,zero_le _,h0⟩,?_⟩
 rintro i m σ H ⟨rfl,aL,p⟩
 have q:=aE i σ H aL p
 by_cases c8:i<xs.length
 ·refine .inr ⟨⟨xs,xs[i],q,by simp[c8]⟩,Pv (i+1),fun bA af eg=>⟨xs.length - (i+1),by omega,rfl,c8,eg⟩,fun x af y=>?_⟩
  obtain⟨pr,v,n,rfl,rfl,y⟩:=y
  exact aY i v σ _ pr (y xs q) p n
 ·have e:i=xs.length:=by omega
  subst e
  exact .inl ⟨⟨xs,q,le_refl _⟩,hd σ H p⟩
theorem RO:typeLookup (.type "list") "keys"=pure none:=by rw[typeLookup_type,builtinLookup_eq_fast];kernel_rfl
theorem Rv {prog:Program}{w:World}{A:Around}{E:Value→Shared→Prop}{s:Shared}{a:Addr}{xs:Array Value}{k:Nat}{Q:Option Value→Shared→Prop}
  (bh:s.heap.get? a=some { cls:=.type "list",data:=.seq xs k }) (sA:A.handled=none)
  (h:∀h' bF,(∀b o,s.heap.get? b=some o→h'.get? b=some o)→Q none { s with heap:=h',toks:=bF }) :
  wpAny (model prog w) A (getAttr? (.ref a) "keys") Q E s:=by
 obtain⟨aF,g,d,bF,os⟩:=s
 have i3:∀Mz,(⟨aF,g,d,Mz,os⟩:Shared).TypeIs (.ref a) "list":=fun _=>⟨_,bh,rfl⟩
 have f1:=sub_AttributeError
 have fy:=F.slot_list_getattribute.lookup
 have f4:=F.slot_list_getattribute.bind (.ref a)
 have gk:=am_list_getattr_none
 unfold getAttr? getAttrBy? getAttrBy
 repeat (any_goals (first | assumption | exact i3 _ | ((with_reducible show wpAny _ _ (call (Value.builtin "list.__getattribute__") _ _) _ _ _);refine call_meets F.slot_list_getattribute (i3 _) am_entry_list_getattribute (F.args_list_getattribute_2 _ _) (meets_getattribute_miss_list a xs k #[] "keys" _ RO (by decide +kernel) (by size_fits)) ⟨bh,sA,fun h' Mz e Om=>?_⟩) | wp_step))
 obtain⟨t',oV,he⟩:=Om.there
 show wpAny _ _ (getattributeRaised _ _ _ _ _ _ _) _ _ _
 unfold getattributeRaised
 repeat (any_goals (first | assumption | wp_step))
 exact h _ _ Om.of.keeps
theorem x9:plainId "dict.update.loop"=true:=by decide +kernel
theorem G3:entryFor table "dict.update.loop"=some Builtin.«dict.update.loop» := entryFor_of_tree (by kernel_rfl)
def tu (H:ao) (x:V) (cK:Key × V):Prop:=∃a,x=.ref a∧H a=some (.tup [eo cK.1,cK.2])
def putAll (m:List (Key × V)) (kvs:List (Key × V)):List (Key × V):=kvs.foldl (fun m cK=>putK m cK.1 cK.2) m
theorem Tp {H:ao}{a:Addr}{o:fp}(h:H a=some o):upd H a o=H:=by
 funext b
 unfold upd
 split
 ·rename_i e;rw[e,h]
 ·rfl
theorem RT {X:bI}{pins:List (Addr × Obj)}{σ:St}{A:Around}{R:Result→Shared→Prop}{d p it:Addr}{ys:List V}{kvs:List (Key × V)}(dt:A.handled=none):∀(n i:Nat) (s:Shared) (H:ao) (m:List (Key × V)),
  ys.length - i=n→i≤ys.length→Inv X pins σ H s→H d=some (.bS m)→H p=some (.lst ys)→(∀(j:Nat) (x:V),ys[j]?=some x→∃cK,kvs[j]?=some cK∧tu H x cK)→kvs.length=ys.length→m.length+(ys.length - i)≤sizeLine →
  s.heap.IsListIter it p i→lQ X pins H it→(∀aJ,Inv X pins σ (upd H d (.bS (putAll m (kvs.drop i)))) aJ→R (.ok (.ret .none)) aJ) →
  wpAny (model X.prog X.w) A.in1 (Builtin.«dict.update.loop» ⟨[.ref d,.ref it,rawInt i,.none],[]⟩)
   (fun fin aJ=>match fin with | .done f=>R (.ok f) aJ | .again fJ=>fJ.quiet=true∧codeAny (model X.prog X.w) A fJ R aJ) (fun e aJ=>R (.error e) aJ) s:=by
 intro n
 induction n with
 | zero =>
  intro i s H m aP aL I hd aF gP aE hz st hf q
  obtain⟨its,bL,pl,_⟩:=I.list (aO.of aF)
  have hlen:=bL.length
  show wpAny _ _ (pyNext (.ref it) >>= _) _ _ s
  refine wpAny_bind (wpAny_pyNext_list_end dt st pl.isList (by simp;omega) fun h' ea=>?_)
  obtain⟨f0,f1,f2,fy,f4,gk⟩:=hf
  have a3:Inv X pins σ H { s with heap:=h' }:=I.turned (t':=s.toks) (fun b o aa e=>ea b o aa e) f0 f1 fy f4 gk
  have e0:upd H d (.bS (putAll m (kvs.drop i)))=H:=by
   rw[List.drop_eq_nil_of_le (by omega)]
   exact Tp hd
  show wpAny _ _ (Builtin.Dict.addKeywords d [] >>= _) _ _ _
  exact wpAny_bind (wpAny_pure (wpAny_pure (q _ (by rw[e0];exact a3))))
 | succ n cC =>
  intro i s H m aP aL I hd aF gP aE hz st hf q
  obtain⟨its,bL,pl,_⟩:=I.list (aO.of aF)
  have hlen:=bL.length
  have c8:i<ys.length:=by omega
  obtain⟨cK,ZK,a,aU,bk⟩:=gP i ys[i] (getElem?_eq_getElem c8)
  obtain⟨u,bf,eF⟩:=bL.get (getElem?_eq_getElem c8)
  rw[aU]at eF
  cases eF
  show wpAny _ _ (pyNext (.ref it) >>= _) _ _ s
  refine wpAny_bind (wpAny_pyNext_list_item st pl.isList (x:=.ref a) (by simpa using bf) fun h' gK jJ=>?_)
  obtain⟨f0,f1,f2,fy,f4,gk⟩:=hf
  have a3:Inv X pins σ H { s with heap:=h' }:=I.turned (t':=s.toks) (fun b o aa e=>(jJ.2 b aa).trans e) f0 f1 fy f4 gk
  obtain⟨j3,b3,⟨o,aC,ai,dP,Ma⟩,_⟩:=a3.tuple (aG.of bk)
  obtain⟨cl,dd,QZ,dz⟩:=o
  simp only at ai Ma
  subst ai Ma
  have i3:(⟨h',s.gens,s.drawn,s.toks,s.os⟩:Shared).TypeIs (.ref a) "tuple":=⟨_,aC,rfl⟩
  show wpAny _ _ (holding [.ref a] _ >>= _) _ _ _
  refine wpAny_bind (wpAny_holding (wpAny_bind (wpAny_tryCatch ?_)))
  unfold Builtin.Dict.pairItems
  refine wpAny_bind (wpAny_typeOf i3 ?_)
  rw[if_pos (by decide)]
  refine wpAny_bind (wpAny_seqItems aC rfl (wpAny_pure ?_))
  obtain⟨Qp,Qo,rfl,um,Yw⟩:=b3.two
  show wpAny _ _ (holding [Qp,Qo] (dictSet d Qp Qo)) _ _ _
  refine wpAny_holding ?_
  obtain⟨z,qV,vs,rel,kL⟩:=tB a3.bG hd
  have acV:(putK m cK.1 cK.2).length≤m.length+1:=qk m cK.1 cK.2
  refine wpAny_dictSet_pairs (knd:=hX X.prog X.w) (k:=cK.1) (ov um) kL (fun az PO jE=>?_) (by rw[←rel.length];exact z)
  have cL:Inv X pins σ (upd H d (.bS (putK m cK.1 cK.2))) { s with heap:=az,toks:=s.toks+1 } :=
   th (s:={ s with heap:=h' }) a3 (by rw[hd];exact True.intro) jE (let ⟨q,_,_,bo,_⟩:=PO;⟨q,bo⟩) (vn (by omega) qV (rel.put cK.1 Yw) PO)
  have YJ:p≠d:=dv aF hd (fun z=>nomatch z)
  have MP:it≠d:=(cB hd f0).symm
  have As:((i:Int)+1)=((i+1:Nat):Int):=by omega
  rw[As]
  refine wpAny_pure ⟨plainId_quiet x9 _,codeAny_builtin G3 ?_⟩
  rw[Around.under_plainId x9 _]
  refine cC (i+1) _ _ (putK m cK.1 cK.2) (by omega) (by omega) cL aR (by rw[aA YJ];exact aF) (fun j x bh=>?_) aE (by omega) (gK.extBut jE.extBut MP) ⟨by rw[aA MP];exact f0,f1,f2,fy,f4,gk⟩ fun aJ fo=>q aJ ?_
  ·obtain⟨Y7,ak,b,az,cz⟩:=gP j x bh
   exact⟨Y7,ak,b,az,by rw[aA (dv cz hd (fun z=>nomatch z))];exact cz⟩
  ·have aH:kvs.drop i=cK::kvs.drop (i+1):=by
    obtain⟨aS,e⟩:=List.getElem?_eq_some_iff.mp ZK
    rw[←e]
    exact List.drop_eq_getElem_cons aS
   rw[rv]at fo
   rw[aH]
   exact fo
def VJ:List V→ao→cD→Prop:=fun xs H Q=>∃p ys kvs,xs=[.ref p]∧H p=some (.lst ys)∧(∀(j:Nat) (x:V),ys[j]?=some x→∃cK,kvs[j]?=some cK∧tu H x cK)∧kvs.length=ys.length∧ys.length≤1000 ∧
 ∀d,H d=none→Q (.ref d) (upd H d (.bS (putAll [] kvs)))
theorem H9 {X:bI}(dt:X.A.handled=none):nt X (.type "dict") VJ:=by
 intro pins s σ H xs us Q I bL h
 obtain⟨p,ys,kvs,rfl,aF,gP,aE,hz,q⟩:=h
 obtain⟨u,rfl,eF⟩:=bL.one
 cases eF
 refine callType_codes (Q₁:=fun obj dn=>obj=.ref s.heap.objs.size∧dn={ s with heap:=s.heap.push { cls:=.type "dict",data:=.dict #[] } }) F.kt_called_dict (F.kt_typeCall_dict_1 _) F.entry_dict_init (kt_code_dict_new _ ⟨rfl,rfl⟩) ?_
 rintro obj dn ⟨rfl,rfl⟩
 have a3:Inv X pins σ (upd H s.heap.objs.size (.bS [])) { s with heap:=s.heap.push { cls:=.type "dict",data:=.dict #[] } } :=
  I.laid (a:=s.heap.objs.size) (o:=.bS []) (t':=s.toks) (fun _ _ q=>get?_push_of_some _ q) (le_refl _) (B_ s.heap I.big)
 have fr:H s.heap.objs.size=none:=I.fresh
 have np:p≠s.heap.objs.size:=cB aF fr
 have vL:(s.heap.push { cls:=.type "dict",data:=.dict #[] }).DictOf (hX X.prog X.w) s.heap.objs.size []:=Heap.DictOf.new s.heap
 refine⟨vL.typeIs,F.args_dict_init_2 _ _,?_⟩
 have EN:(upd H s.heap.objs.size (.bS [])) p=some (.lst ys):=by rw[aA np];exact aF
 obtain⟨_,its,q7,ly,e0,QU⟩:=a3.qC EN
 unfold Builtin.«dict.__init__»
 refine wpAny_bind ?_
 unfold Builtin.Dict.selfAndRest
 refine wpAny_bind (wpAny_notOrdered_dict vL.typeIs ?_)
 show wpAny _ _ (pure (s.heap.objs.size,[Value.ref p])) _ _ _
 refine wpAny_pure ?_
 show wpAny _ _ (Builtin.Dict.updateFrom "dict.__init__" s.heap.objs.size (.ref p) [] .none) _ _ _
 unfold Builtin.Dict.updateFrom
 refine wpAny_bind (wpAny_typeOf (T:="list") ⟨_,QU,rfl⟩ ?_)
 rw[if_pos (by decide)]
 refine wpAny_bind (Rv QU dt fun h' bF p4=>?_)
 have cL:Inv X pins σ (upd H s.heap.objs.size (.bS [])) { s with heap:=h',toks:=bF }:=a3.kept (t':=bF) p4
 obtain⟨j3,b3,pl,_⟩:=cL.list (aO.of EN)
 show wpAny _ _ (rule _ >>= fun _=>pyIter (.ref p) >>= _) _ _ _
 refine wpAny_bind (wpAny_rule (wpAny_bind (wpAny_pyIter_list pl.isList ?_)))
 refine wpAny_pure ⟨plainId_quiet x9 _,codeAny_builtin G3 ?_⟩
 rw[Around.under_plainId x9 _]
 have cA:=cL.kept (t':=bF) (h':=h'.push { cls:=.type "list_iterator",data:=.fields #[.ref p,.int 0 0] }) fun b o e=>get?_push_of_some _ e
 refine RT (A:=X.A.in1) (it:=h'.objs.size) (ys:=ys) (kvs:=kvs) (p:=p) dt ys.length 0 _ _ [] rfl (zero_le _) cA aR EN (fun j x bh=>?_) aE (by rw[length_nil,zero_add];exact le_of_lt (SA hz)) ⟨_,get?_push_size _ rfl,rfl,rfl⟩ (cL.rS (le_refl _) (cL.bG.fresh (le_refl _))) fun aJ fo=>?_
 ·obtain⟨cK,ak,a,az,cz⟩:=gP j x bh
  exact⟨cK,ak,a,az,by rw[aA (cB cz fr)];exact cz⟩
 ·rw[rv,drop_zero]at fo
  exact⟨rfl,.ref s.heap.objs.size,_,fo,rfl,q _ fr⟩
def f3 {α:Type}(R:α→V→Prop) (l:List α) (xs:List V):Prop:=l.length=xs.length∧∀(i:Nat) (a:α) (x:V),l[i]?=some a→xs[i]?=some x→R a x
section
variable {α:Type}{R Rb:α→V→Prop}{l:List α}{xs:List V}
theorem f3.nil:f3 R [] []:=⟨rfl,fun i a x h _=>by simp at h⟩
theorem f3.get (h:f3 R l xs) {i:Nat}{x:V}(e:xs[i]?=some x):∃a,l[i]?=some a∧R a x:=by
 have aL:i<xs.length:=(List.getElem?_eq_some_iff.mp e).1
 have aE:i<l.length:=by rw[h.1];exact aL
 exact⟨l[i],getElem?_eq_getElem aE,h.2 i _ x (getElem?_eq_getElem aE) e⟩
theorem f3.mono (h:f3 R l xs) (f:∀a x,R a x→Rb a x):f3 Rb l xs:=⟨h.1,fun i a x ak az=>f a x (h.2 i a x ak az)⟩
theorem f3.snoc {a:α}{x:V}(h:f3 R l xs) (q:R a x):f3 R (l++[a]) (xs++[x]):=by
 refine⟨by rw[length_append,length_append,h.1];rfl,fun i b y ak az=>?_⟩
 by_cases aL:i<l.length
 ·rw[getElem?_append_left aL]at ak
  rw[getElem?_append_left (by rw[←h.1];exact aL)]at az
  exact h.2 i b y ak az
 ·rw[getElem?_append_right (by omega)]at ak
  have bh:xs.length≤i:=by rw[←h.1];omega
  rw[getElem?_append_right bh,←h.1]at az
  cases z:i - l.length with
  | zero =>
   rw[z]at ak az
   have aH:a=b:=Option.some.inj ak
   have aM:x=y:=Option.some.inj az
   rw[←aH,←aM]
   exact q
  | succ n=>rw[z]at ak;simp at ak
theorem f3.drop (h:f3 R l xs) (n:Nat):f3 R (l.drop n) (xs.drop n):=by
 refine⟨by rw[length_drop,length_drop,h.1],fun i a x ak az=>?_⟩
 rw[List.getElem?_drop]at ak az
 exact h.2 _ a x ak az
theorem f3.mem (h:f3 R l xs) {x:V}(bh:x∈xs):∃a,a∈l∧R a x:=by
 obtain⟨i,e⟩:=List.mem_iff_getElem?.mp bh
 obtain⟨a,ak,az⟩:=h.get e
 exact⟨a,mem_of_getElem? ak,az⟩
end
theorem qj (ns:List Int) (j:Nat) (z:Int):(ns.map V.int).set j (.int z)=(ns.set j z).map V.int:=by rw[List.map_set]
theorem rp {ns:List Int}{i:Nat}{z:Int}(h:ns[i]?=some z):(ns.map V.int)[i]?=some (.int z):=by rw[getElem?_map,h];rfl
theorem kX {ns:List Int}{k:Int}(h0:0≤k) (ak:k<(ns.length:Int)):∃z,ns[k.toNat]?=some z∧nQ (ns.map V.int) k=some (.int z):=by
 obtain⟨v,aH,aM⟩:=C_ (xs:=ns.map V.int) h0 (by rw[length_map];exact ak)
 obtain⟨z,rfl,bT⟩:=Bt aM
 exact⟨z,bT,aH⟩
theorem IP (ns:List Int):(ns.map V.int).all pz=true:=by
 rw[List.all_eq_true]
 intro v aX
 obtain⟨z,_,rfl⟩:=mem_map.mp aX
 rfl
theorem Uo (d:Int) (ns:List Int):iw (.int d) (ns.map V.int)=decide (d∈ns):=by
 unfold iw
 induction ns with
 | nil=>rfl
 | cons n r cC =>
  rw[map_cons,any_cons,cC]
  have e:pT (.int n) (.int d)=(n == d):=rfl
  rw[e]
  by_cases h:n=d
  ·subst h
   simp
  ·have h':¬d=n:=fun z=>h z.symm
   simp[h,h']
theorem s6 {env:Env}{fv y:Str}:∀{names:List (Str × NameKind)}{k:NameKind},(∀z∈names,z.2≠.cell)→(∀z∈names,z.2=.free→z.1=fv) →
  (names.map fun (n,k)=>if (k == NameKind.free && env.scope.kind == .function && env.kindOf n == some .cell) then (n,NameKind.cell) else (n,k)).lookup y=some k→(k=.cell∨k=.free)→y=fv
 | [],_,_,_,h,_=>by simp at h
 | (n,k0)::r,k,ak,az,h,aS=>by
  rw[map_cons,lookup_cons]at h
  have ZE:=ak (n,k0) mem_cons_self
  have Ar:=az (n,k0) mem_cons_self
  by_cases ai:(k0 == NameKind.free && env.scope.kind == .function && env.kindOf n == some .cell)=true
  ·simp only[ai,if_true]at h
   cases e:y == n with
   | true =>
    have:k0=.free:=by
     rw[and_eq_true,and_eq_true]at ai
     exact beq_iff_eq.mp ai.1.1
    rw[beq_iff_eq.mp e]
    exact Ar this
   | false =>
    rw[e]at h
    exact s6 (fun z hz=>ak z (mem_cons_of_mem _ hz)) (fun z hz=>az z (mem_cons_of_mem _ hz)) h aS
  ·simp only[ai,Bool.false_eq_true,if_false]at h
   cases e:y == n with
   | true =>
    rw[e]at h
    have h':some k0=some k:=h
    cases h'
    rw[beq_iff_eq.mp e]
    rcases aS with z | z
    ·exact absurd z ZE
    ·exact Ar z
   | false =>
    rw[e]at h
    exact s6 (fun z hz=>ak z (mem_cons_of_mem _ hz)) (fun z hz=>az z (mem_cons_of_mem _ hz)) h aS
theorem k4.one {X:bI}{x fv:Str}{j:Nat}{c:Addr}{scope:Scope}(Dw:closureFor scope X.env=pure [(fv,c)]) (ow:∀y∈scope.names,y.2≠.cell) (kA:∀y∈scope.names,y.2=.free→y.1=fv) (vt:scope.kind=.function)
  (C8:∀y∈scope.names,y.2=.local→scope.names.lookup y.1=some .local) (X1:scope.names.lookup x=some .local) (ai:X.env.cells.lookup fv=some c) (iA:x≠fv) (f_:X.N[j]?=some fv) (aS:X.env.scope.names.lookup fv=some .cell)
  (aD:(relabel scope X.env).names.lookup fv=some .cell):k4 X x [j] [x,fv] scope [(fv,c)] where
 qF:=Dw
 cell:=ow
 kind:=vt
 names:=C8
 loc:=X1
 sub:=fun y d e=>by
  rw[lookup_cons]at e
  cases z:y == fv with
  | true =>
   rw[z]at e
   have cX:some c=some d:=e
   cases cX
   rw[beq_iff_eq.mp z]
   exact ai
  | false=>rw[z]at e;simp at e
 has:=fun y ck=>by
  have:y=fv:=by
   rcases ck with h | h
   ·exact s6 ow kA h (.inl rfl)
   ·exact s6 ow kA h (.inr rfl)
  subst this
  exact⟨c,by rw[lookup_cons,beq_self_eq_true]⟩
 bh:=rfl
 len:=rfl
 a_:=by
  rw[nodup_cons]
  exact⟨fun m=>iA (mem_singleton.mp m),by simp⟩
 rV:=fun i k y ak az=>by
  cases i with
  | zero =>
   have aH:fv=y:=Option.some.inj ak
   have aM:j=k:=Option.some.inj az
   subst aH aM
   exact⟨f_,aS,aD⟩
  | succ i=>simp at az
theorem Sl {K:PySem.W.Frag}{a:Addr}{ns:List Int}{b2:TE}{bA:St}{Q:cD}{H:ao}{acc:Addr}{w:V}(bk:H a=some (.lst (ns.map V.int))) (h0:H acc=none) (hz:ns.length≤1000)
  (he:∀(z:Int) aT (k:cD),(∀p,aT p=none→k (.ref p) (upd aT p (.tup [.int z,w])))→b2 (some (.int z)::bA) aT k)
  (q:∀(ys:List V) (af:ao),bO H af→af acc=some (.lst ys)→f3 (fun z x=>tu af x (Sum.inl z,w)) ns ys→Q (.ref acc) af):tC (oS K a) b2 bA Q H acc:=by
 have Ab:a≠acc:=cB bk h0
 refine⟨ns.length,fun i ys ay=>i≤ns.length∧bO H ay∧ay acc=some (.lst ys)∧f3 (fun z x=>tu ay x (Sum.inl z,w)) (ns.take i) ys,⟨zero_le _,bR h0 _,aR,.nil⟩,?_⟩
 rintro i ys ay ⟨aL,c6,ec,aF⟩
 have kJ:=c6 _ _ bk
 by_cases c8:i<ns.length
 ·refine .inr ⟨⟨_,.int ns[i],aO.of kJ,rp (getElem?_eq_getElem c8)⟩,c8,?_⟩
  rintro v aT ⟨rfl,aX⟩
  have ev:v=.int ns[i]:=by
   have:=aX _ (aO.of kJ)
   rw[rp (getElem?_eq_getElem c8)]at this
   exact (Option.some.inj this).symm
  subst ev
  refine he _ _ _ fun p j9=>?_
  have v_:p≠acc:=(cB ec j9).symm
  have Dz:(upd aT p (.tup [.int ns[i],w])) acc=some (.lst ys):=by rw[aA v_.symm];exact ec
  have lV:ys.length=i:=by rw[←aF.1,length_take];omega
  refine⟨Dz,lt_of_le_of_lt (by omega:ys.length≤1000) (by decide),c8,(c6.trans (bR j9 _)).ig h0,aR,?_⟩
  rw[take_add_one,getElem?_eq_getElem c8]
  refine f3.snoc (aF.mono fun z x bh=>?_) ⟨p,rfl,by rw[aA v_,aR];rfl⟩
  obtain⟨b,aH,aM⟩:=bh
  exact⟨b,aH,by rw[aA (dv aM ec (fun z=>nomatch z)),aA (cB aM j9)];exact aM⟩
 ·have e:i=ns.length:=by omega
  subst e
  rw[take_length]at aF
  exact .inl ⟨⟨_,aO.of kJ,by rw[length_map];exact le_refl _⟩,q ys ay c6 ec aF⟩
theorem putAll_has (w:V):∀(ns:List Int) (m:List (Key × V)) (z:Int),(dw (putAll m (ns.map fun n=>((Sum.inl n:Key),w))) (Sum.inl z)).isSome=(decide (z∈ns) || (dw m (Sum.inl z)).isSome)
 | [],m,z=>by
  show (dw m (Sum.inl z)).isSome=_
  simp
 | n::r,m,z=>by
  have cC:=putAll_has w r (putK m (Sum.inl n) w) z
  show (dw (putAll (putK m (Sum.inl n) w) (r.map fun n=>((Sum.inl n:Key),w))) (Sum.inl z)).isSome=_
  rw[cC,uW]
  by_cases h:z=n
  ·subst h
   simp
  ·have h':¬((Sum.inl z:Key)=Sum.inl n):=fun e=>h (Sum.inl.inj e)
   simp[h,h']
theorem Ho {prog:Program}{w:World}{A:Around}{R:Result→Shared→Prop}{s:Shared}{elt target iter c:Expr}{scope:Scope}{pos:Pos}{it acc:Value}{env:Env}(I:Nat→Shared→Prop)
  (turn:∀n s,I n s→wpAny (model prog w) A (pyNext it) (fun r dn=>match r with
   | none=>R (.ok .next) dn
   | some v=>wpAny (model prog w) A (letOwnedTupleGo target it v) (fun _ iB=>wpAny (model prog w) A (assign target env v) (fun _ gY=>wpAny (model prog w) A (isTrue c env (eval c env)) (fun ok mX =>
     if ok=true then wpAny (model prog w) A (eval elt env) (fun x w_ =>
      wpAny (model prog w) A (call (.builtin "list.append") [acc,x]) (fun _ Qv=>∃m,m<n∧I m Qv) (fun _ _=>False) w_) (fun _ _=>False) mX
     else ∃m,m<n∧I m mX) (fun _ _=>False) gY) (fun _ _=>False) iB) (fun _ _=>False) dn) (fun _ _=>False) s)
  (n:Nat) (h:I n s):codeAny (model prog w) A (.compLoop (.ListComp elt [⟨target,iter,[c],0⟩] scope pos) 0 it acc env) R s:=by
 refine codeAny_loop rfl I (fun n s p7=>?_) n h
 show wpAny _ A ((compTurn (.ListComp elt [⟨target,iter,[c],0⟩] scope pos) 0 it acc env).onRaise (fun x=>do noteFrame x env;theTreesLotGoes x)) _ _ s
 refine wpAny_noted ?_
 rw[compTurn_list]
 refine wpAny_bind (wpAny_standAt (wpAny_bind (wpAny_mono (turn n s p7) (fun r dn fT=>?_) fun _ _ z=>False.elim z)))
 cases r with
 | none=>exact wpAny_pure fT
 | some v =>
  refine wpAny_bind (wpAny_mono fT (fun _ iB m8=>?_) fun _ _ z=>False.elim z)
  refine wpAny_bind (wpAny_mono m8 (fun _ gY xB=>wpAny_bind (wpAny_mono (wpAny_tests_one xB) (fun ok mX AX=>?_) fun _ _ z=>False.elim z)) fun _ _ z=>False.elim z)
  cases ok with
  | false=>exact wpAny_pure ⟨rfl,AX⟩
  | true=>exact wpAny_bind (wpAny_bind (wpAny_mono AX (fun x w_ Gx=>wpAny_bind (wpAny_mono Gx (fun _ Qv abm=>wpAny_pure (wpAny_pure ⟨rfl,abm⟩)) fun _ _ z=>False.elim z)) fun _ _ z=>False.elim z))
def y4 (J:jW) (tt:TT) (b2:TE) (bA:St) (Q:cD) (H:ao) (acc:Addr):Prop :=
 ∃(n:Nat) (W:Nat→List V→ao→Prop),W 0 [] (upd H acc (.lst []))∧∀i ys ay,W i ys ay→(J.stop i ay∧Q (.ref acc) ay) ∨
  (J.go i ay∧i<n∧∀v aT,J.nB i ay v aT→tt (some v::bA) aT fun b P6=>if b=true then b2 (some v::bA) P6 fun y cO=>cO acc=some (.lst ys)∧ys.length<sizeLine∧W (i+1) (ys++[y]) (upd cO acc (.lst (ys++[y]))) else W (i+1) ys P6)
theorem H4 {X:bI}{pins:List (Addr × Obj)}{σ:St}{H:ao}{s:Shared}{x:Str}{iY:Pos}{elt iter c:Expr}{scope:Scope}{pos:Pos}{cl:List (Str × Addr)}{cY:List Str}{fr:List Nat}{b2:TE}{tt:TT}{J:jW}{bJ:List Addr}{it:Addr}
  {ek:Nat→Heap→Prop} {E:Value→Shared→Prop} {RR:Value→Addr→Result→Shared→Prop} {Q:cD} (B:k4 X x fr cY scope cl) (ai:X.calm=true) (I:Inv X pins σ H s) (T:Turn X.prog X.w X.K (.Name x iY) J bJ it ek)
  (st:ek 0 s.heap) (hf:∀b∈bJ,lQ X pins H b) (bo:∀C aJ af,gQ (ez X cY scope cl C aJ af bJ) c tt) (he:∀C aJ af,b9 (ez X cY scope cl C aJ af bJ) elt b2) (h:∀acc,H acc=none→y4 J tt b2 (pick σ fr) Q H acc)
  (wJ:∀acc C af aJ m,Inv X pins σ af aJ→Q (.ref acc) af→aJ.heap.Ns C m→af C=none→C≠X.env.locals→(C∈X.ex∨X.fP.heap.objs.size≤C)→(∀y c,X.env.cells.lookup y=some c→c≠C)→(∀p∈X.bK++pins,p.1≠C)→RR (.ref acc) C (.ok .next) aJ) :
  wpAny (model X.prog X.w) X.A (newList []) (fun acc gY=>wpAny (model X.prog X.w) X.A (newFunctionEnv scope X.env.globals cl [] X.env.qual none .none (some X.env)) (fun qG mX =>
   codeAny (model X.prog X.w) X.A (.compStart (.ListComp elt [⟨.Name x iY,iter,[c],0⟩] scope pos) 0 (.ref it) acc { qG with scope:=relabel scope X.env }) (RR acc qG.locals) mX) E gY) E s:=by
 refine wpAny_newObj_type (wpAny_newFunctionEnv B.cell (by intro y ck;simp at ck) (fun fT ny nx=>?_) B.kind)
 have cA:Inv X pins σ (upd H s.heap.objs.size (.lst [])) { s with heap:=s.heap.push { cls:=.type "list",data:=.seq ([]:List Value).toArray } }:=I.zL (its:=[]) (t':=s.toks) .nil (zero_le _)
 obtain⟨n,W,pY,turn⟩:=h s.heap.objs.size I.fresh
 dsimp only at ny nx ⊢
 generalize qP:({ s with heap:=s.heap.push { cls:=.type "list",data:=.seq ([]:List Value).toArray } }:Shared)=s3 at *
 have qS:s.heap.push { cls:=.type "list",data:=.seq ([]:List Value).toArray }=s3.heap:=by rw[←qP]
 have vM:s.heap.push { cls:=.type "list",dict:=none,data:=.seq ([]:List Value).toArray }=s3.heap:=qS
 rw[vM]at ny nx ⊢
 have jD:∀b o,s3.heap.get? b=some o→b≠s3.heap.objs.size:=fun b o e=>ne_of_lt (lt_size e)
 have jy:∀b o,s3.heap.get? b=some o→fT.get? b=some o:=fun b o e=>nx.extBut b o (jD b o e) (get?_push_of_some _ e)
 have qy:∀b o,s.heap.get? b=some o→s3.heap.get? b=some o:=fun b o e=>by rw[←qS];exact get?_push_of_some _ e
 have kE:ek 0 fT:=T.keep 0 _ _ st fun b _ o e=>jy b o (qy b o e)
 have vB:∀b∈bJ,∃o,s3.heap.get? b=some o:=fun b aa=>by
  obtain⟨o,e,_⟩:=T.obj 0 _ st b aa
  exact⟨o,qy b o e⟩
 have nu:∀b,b≠X.env.locals→b∉X.bP→b∉gO X.stack:=fun b ak az aa=>by
  rcases mem_cons.mp (cA.tn b aa) with z | z
  ·exact ak z
  ·exact az z
 have ok:(ez X cY scope cl s3.heap.objs.size s3 (upd H s.heap.objs.size (.lst [])) bJ).Ok:=by
  refine⟨I.ok.mod,?_,I.ok.glob,I.ok.blt,le_refl _,fun y z c ak az=>I.ok.inj y z c (B.sub y c ak) (B.sub z c az),fun y ck=>B.has y ck,fun y c e _=>absurd (show false=true from e) Bool.false_ne_true,I.ok.hd,I.ok.frames,.inl rfl,fun b aa=>?_,cA.bs,
   le_trans I.ok.ll cA.e7,fun b o e aa=>?_,fun b aa=>nu b (hf b aa).2.1 (hf b aa).2.2.1,cA.stack,cA.u4⟩
  ·exact B.kind
  ·obtain⟨o,e⟩:=vB b aa
   exact⟨jD b o e,fun y c e=>(hf b aa).2.2.2.2.1 y c (B.sub y c e)⟩
  ·rcases (hf b aa).2.2.2.1 with z | z
   ·exact I.ok.nv b o e z
   ·exact absurd (lt_of_lt_of_le (lt_size (I.ok.bs b o e).1) z) (lt_irrefl _)
 have cellK:∀c v,s3.heap.IsCell c v→fT.IsCell c v:=fun c v ⟨o,aC,hd⟩=>⟨o,jy c o aC,hd⟩
 have kB:∀{af:ao},(∀b∈bJ,af b=none)→∀b∈bJ,lQ (ez X cY scope cl s3.heap.objs.size s3 (upd H s.heap.objs.size (.lst [])) bJ) pins af b:=fun aP b aa =>
  ⟨aP b aa,(ok.pS b aa).1,nu b (hf b aa).2.1 (hf b aa).2.2.1,.inl aa,fun y c e=>(hf b aa).2.2.2.2.1 y c (B.sub y c e),(hf b aa).2.2.2.2.2⟩
 have jY:Inv (ez X cY scope cl s3.heap.objs.size s3 (upd H s.heap.objs.size (.lst [])) bJ) pins (none::pick σ fr) (upd H s.heap.objs.size (.lst [])) { s3 with heap:=fT }:=by
  refine⟨ok,rfl,cA.bare,hk.kept jy,⟨_,ny,fun i y v ak az cz=>?_⟩,fun y c e=>?_,cA.fresh,fun y c e=>cA.jz y c (B.sub y c e),fun p aF=>?_,cA.bG.kept jy,?_⟩
  ·cases i with
   | zero=>cases (show some none=some (some v) from az)
   | succ i =>
    have az:(pick σ fr)[i]?=some (some v):=az
    unfold pick at az
    rw[getElem?_map]at az
    cases mb:fr[i]? with
    | none=>rw[mb]at az;cases az
    | some j =>
     rw[mb]at az
     have la:(σ[j]?).getD none=some v:=Option.some.inj az
     have xC:σ[j]?=some (some v):=by
      cases q:σ[j]? with
      | none=>rw[q]at la;cases la
      | some o =>
       rw[q]at la
       have:o=some v:=la
       rw[this]
     obtain⟨e4,fK,iI⟩:=B.rV i j y ak mb
     obtain⟨fb,_,wC⟩:=cA.loc
     obtain⟨u,eF,lk⟩:=wC j y v e4 xC (.inr (.inl fK))
     refine⟨u,eF,.inr ⟨.inl iI,?_⟩⟩
     rcases lk with ⟨k,_⟩ | ⟨_,c,e,z⟩
     ·have hh:X.env.scope.names.lookup y=some .local:=k
      rw[fK]at hh
      cases hh
     ·obtain⟨fJ,cX⟩:=B.has y (.inl iI)
      have:=B.sub y fJ cX
      rw[e]at this
      cases this
      exact⟨_,cX,cellK _ _ z⟩
  ·obtain⟨v,z⟩:=cA.cell y c (B.sub y c e)
   exact⟨v,cellK c v z⟩
  ·obtain⟨e,q7,ne,kP,d⟩:=cA.pin p aF
   exact⟨jy _ _ e,q7,jD _ _ e,nu _ ne kP,d⟩
  ·show (none::pick σ fr).length=cY.length
   rw[B.len,length_cons]
   unfold pick
   rw[length_map]
 have fin:∀{af:ao} {bA:St} {aJ:Shared},Inv (ez X cY scope cl s3.heap.objs.size s3 (upd H s.heap.objs.size (.lst [])) bJ) pins bA af aJ→Q (.ref s.heap.objs.size) af→RR (.ref s.heap.objs.size) s3.heap.objs.size (.ok .next) aJ:=fun {af bA aJ} J q=>by
  obtain⟨m,aP,_⟩:=J.loc
  refine wJ _ _ af aJ m (cA.zl (ch:=bJ) J.os J.base J.bG J.bare fun b aa=>⟨(hf b aa).2.2.2.1,(hf b aa).2.1,(hf b aa).2.2.2.2.1,(hf b aa).2.2.2.2.2⟩) q aP J.free (ne_of_gt cA.lt) (.inr cA.e7) (fun y c e=>?_) fun p aF=>?_
  ·obtain⟨v,o,aC,_⟩:=cA.cell y c e
   exact jD c o aC
  ·exact jD _ _ (cA.pin p aF).1
 have loop:∀gY:Shared,gY={ s3 with heap:=fT }→codeAny (model X.prog X.w) X.A (.compLoop (.ListComp elt [⟨.Name x iY,iter,[c],0⟩] scope pos) 0 (.ref it) (.ref s.heap.objs.size) (compEnvC scope cl s3.heap.objs.size X.env)) (RR (.ref s.heap.objs.size) s3.heap.objs.size) gY:=by
  rintro gY rfl
  refine Ho (fun m aJ=>∃i ys sm af,Inv (ez X cY scope cl s3.heap.objs.size s3 (upd H s.heap.objs.size (.lst [])) bJ) pins (sm::pick σ fr) af aJ∧ek i aJ.heap∧(∀b∈bJ,af b=none)∧W i ys af∧m=n - i) ?_ n ⟨0,[],none,_,jY,kE,fun b aa=>?_,pY,rfl⟩
  ·rintro m aJ ⟨i,ys,sm,af,fo,gK,qX,en,rfl⟩
   rcases turn i ys af en with ⟨stop,q⟩ | ⟨go,nK,step⟩
   ·refine bU (T.done (ez X cY scope cl s3.heap.objs.size s3 (upd H s.heap.objs.size (.lst [])) bJ) rfl rfl rfl ai i pins aJ _ af (fun _ _=>False) fo (kB qX) gK stop) fun r s1 ⟨aD,a3⟩=>?_
    subst aD
    exact fin a3 q
   ·refine bU (T.item (ez X cY scope cl s3.heap.objs.size s3 (upd H s.heap.objs.size (.lst [])) bJ) rfl rfl rfl ai i pins aJ _ af (fun _ _=>False) fo (kB qX) gK go) fun r s1 ⟨u,aD,dA⟩=>?_
    subst aD
    refine bU dA fun _ s5 ⟨v,dC,qd,l4,sl,kD,r7⟩=>?_
    have se:=qd.pinned (kB r7) (T.obj _ _ kD)
    have q_:(relabel scope X.env).names.lookup x=some .local:=lookup_relabel_local B.loc
    refine bU (ff (X:=ez X cY scope cl s3.heap.objs.size s3 (upd H s.heap.objs.size (.lst [])) bJ) (i:=0) (x:=x) B.a_ B.bh (.inl q_) (.inr q_) _ s5 _ dC v u
     (fun bA ed=>bA=some v::pick σ fr∧ed=dC) se l4 ⟨rfl,rfl⟩) fun _ l1 ⟨AG,ed,sQ,aH,aM⟩=>?_
    subst aH aM
    have again:∀{hl:ao} {zs:List V} {jK:Shared},Inv (ez X cY scope cl s3.heap.objs.size s3 (upd H s.heap.objs.size (.lst [])) bJ) (pins++tr bJ s5.heap) (some v::pick σ fr) hl jK→W (i+1) zs hl →
      ∃m,m<n - i∧∃i ys sm af,Inv (ez X cY scope cl s3.heap.objs.size s3 (upd H s.heap.objs.size (.lst [])) bJ) pins (sm::pick σ fr) af jK∧ek i jK.heap∧(∀b∈bJ,af b=none)∧W i ys af∧m=n - i:=fun {hl zs jK} kU Gf=>by
     refine⟨n - (i+1),by omega,i+1,zs,some v,_,kU.tc,T.keep _ _ _ kD fun b aa o e=>(kU.pin (b,o) (mem_append_right _ (mem_append_right _ (qm aa e)))).1,fun b aa=>?_,Gf,rfl⟩
     obtain⟨o,e,d⟩:=T.obj _ _ kD b aa
     exact (kU.pin (b,o) (mem_append_right _ (mem_append_right _ (qm aa e)))).2.1
    refine bU (bo _ _ _ _ l1 _ _ _ sQ (step v _ sl)) fun ok Ed ⟨aar,w0,vY⟩=>?_
    cases ok with
    | false=>exact again w0 vY
    | true =>
     refine bU (he _ _ _ _ Ed _ _ _ w0 vY) fun y hE ⟨jI,dQ,jX,bQ,ec,hlen,pX⟩=>?_
     refine bU (ie _ hE _ dQ (.ref s.heap.objs.size) [jI] (.ref s.heap.objs.size) [y] (fun _ hl=>hl=upd dQ s.heap.objs.size (.lst (ys++[jI]))) jX rfl (.cons bQ .nil) ⟨_,ys,jI,rfl,rfl,ec,hlen,rfl⟩) fun _ jK ⟨_,hl,kU,_,kR⟩=>?_
     subst kR
     exact again kU pX
  ·obtain⟨o,e,_⟩:=T.obj 0 _ st b aa
   rw[aA (ne_of_lt (lt_size e))]
   exact (hf b aa).1
 have b1:({ s with heap:=fT,toks:=s.toks+([]:List (Str × Value)).length }:Shared)={ s3 with heap:=fT }:=by rw[←qP];rfl
 rw[b1]
 exact codeAny_compStart_list (loop _ rfl) (T.self _ 0 _ _ _ kE (loop _ rfl))
section
variable {X:bI}{x y:Str}{iY py pos tE:Pos}{elt iter c:Expr}{scope:Scope}{cl:List (Str × Addr)}{cY:List Str}{fr:List Nat}{gh:TI}{b2:TE}{tt:TT}
def Km (gh:TI) (fr:List Nat) (tt:TT) (b2:TE):TE:=fun σ H Q=>gh σ H fun J H1=>∀acc,H1 acc=none→y4 J tt b2 (pick σ fr) Q H1 acc
theorem TS (fr:List Nat) (cY:List Str) (B:k4 X x fr cY scope cl) (ai:X.calm=true) (aL:o7 X (.Name x iY) iter gh) (bo:∀C aJ af bJ,gQ (ez X cY scope cl C aJ af bJ) c tt) (he:∀C aJ af bJ,b9 (ez X cY scope cl C aJ af bJ) elt b2) (aY:∀x,foldedSetIterable iter X.env x=pure x:=by intro _;rfl) :
  b9 X (.ListComp elt [⟨.Name x iY,iter,[c],0⟩] scope pos) (Km gh fr tt b2):=by
 intro pins s σ H Q I h
 rw[eval_ListComp]
 refine wpAny_comprehension_free (use:=none) rfl aY B.qF B.kind B.names (bU (aL pins s σ H _ I h) fun v s1 ak=>bU ak fun tV s2 az=>?_)
 obtain⟨it,bJ,ek,J,ay,e,cL,T,pL,f2,aW⟩:=az
 subst e
 refine H4 (RR:=fun acc C=>compPost (model X.prog X.w) X.A X.dN none (hr X pins σ Q) acc C) B ai cL T pL f2 (fun C aJ af=>bo C aJ af bJ) (fun C aJ af=>he C aJ af bJ) aW ?_
 intro acc C af aJ m fo q aP h0 ak cz dA gz
 refine⟨m,aP,fun h' jJ=>⟨.ref acc,af,fo.turned (t':=aJ.toks) (fun b o aa e=>(jJ.2 b aa).trans e) h0 ak cz dA gz,rfl,q⟩⟩
def VE (i:Nat) (gh:TI) (fr:List Nat) (tt:TT) (b2:TE):fW:=fun D σ H=>Km gh fr tt b2 σ H fun v H1=>D.da (σ.set i (some v)) H1
theorem TO {i:Nat}(fr:List Nat) (cY:List Str) (f_:X.N.Nodup) (jg:X.N[i]?=some y) (ck:X.env.kindOf y=some .local) (B:k4 X x fr cY scope cl) (ai:X.calm=true) (aL:o7 X (.Name x iY) iter gh)
  (bo:∀C aJ af bJ,gQ (ez X cY scope cl C aJ af bJ) c tt) (he:∀C aJ af bJ,b9 (ez X cY scope cl C aJ af bJ) elt b2) (EK:swapsWith (.ListComp elt [⟨.Name x iY,iter,[c],0⟩] scope pos) (some (.Name y py)) tE.line X.env=pure true:=by rfl) (aY:∀x,foldedSetIterable iter X.env x=pure x:=by intro _;rfl) :
  kp X (.Assign [.Name y py] (.ListComp elt [⟨.Name x iY,iter,[c],0⟩] scope pos) tE) (VE i gh fr tt b2):=by
 intro pins s σ H D I h
 rw[exec_Assign_Name_used _ _ _ _ EK]
 refine wpAny_bind (wpAny_standAt (wpAny_bind ?_))
 show wpAny _ X.A (do let _ ← comprehension (.ListComp elt [⟨.Name x iY,iter,[c],0⟩] scope pos) scope X.env _ (newList []) false (eval iter X.env) (some (assign (.Name y py) X.env))) _ _ s
 refine wpAny_bind (wpAny_mono (wpAny_comprehension_free (use:=some (assign (.Name y py) X.env)) (Q:=fun _ aJ=>qc X pins D .next aJ) rfl aY B.qF B.kind B.names (bU (aL pins s σ H _ I h) fun v s1 ak=>bU ak fun tV s2 az=>?_))
  (fun _ aJ bo=>wpAny_pure (wpAny_pure bo)) fun _ _ e=>e)
 obtain⟨it,bJ,ek,J,ay,e,cL,T,pL,f2,aW⟩:=az
 subst e
 refine H4 (RR:=fun acc C=>compPost (model X.prog X.w) X.A X.dN (some (assign (.Name y py) X.env)) (fun _ aJ=>qc X pins D .next aJ) acc C) B ai cL T pL f2 (fun C aJ af=>bo C aJ af bJ) (fun C aJ af=>he C aJ af bJ) aW ?_
 intro acc C af aJ m fo q aP h0 ak cz dA gz
 show wpAny _ X.A (assign (.Name y py) X.env (.ref acc)) _ _ _
 refine wpAny_assign_Name (BK (v:=.ref acc) fo f_ jg (.inl ck) rfl (fun rW Fp EL=>?_) (.inr ck))
 obtain⟨a,jJ,bk⟩:=EL
 have E4:C≠a:=by
  rcases bk with z | z
  ·rw[z];exact ak
  ·exact Ne.symm (dA _ _ z)
 refine⟨m,aP.sameBut jJ E4,fun h' D_=>⟨_,af,Fp.turned (t':=rW.toks) (fun b o aa e=>(D_.2 b aa).trans e) h0 ak cz dA gz,q⟩⟩
end
inductive bN where
 | put (d:Int) (p:Nat) (o n:Int)
 | fin (d:Int)
 deriving DecidableEq
def jZ (log:List bN) (d:Int):Bool:=log.any fun ln=>match ln with
 | .fin e=>e == d
 | .put .. => false
def oi (full:List bN):List bN→Nat→Option Int
 | [],_=>none
 | .put d p o _::r,q=>if p=q∧jZ full d=false then some o else oi full r q
 | .fin _::r,q=>oi full r q
def eu:List bN→Nat→Option Int→Option Int
 | [],_,a=>a
 | .put _ p _ n::r,q,a=>eu r q (if p=q then some n else a)
 | .fin _::r,q,a=>eu r q a
def vp (log:List bN) (q:Nat) (v:Int):Int:=(oi log log q).getD ((eu log q none).getD v)
theorem uK (a b:List bN) (q:Nat) (x:Option Int):eu (a++b) q x=eu b q (eu a q x):=by
 induction a generalizing x with
 | nil=>rfl
 | cons ln r cC=>cases ln <;> exact cC _
theorem HE (l:List bN) (q:Nat) (x:Option Int):eu l q x=(eu l q none).or x:=by
 induction l generalizing x with
 | nil=>cases x <;> rfl
 | cons ln r cC =>
  cases ln with
  | fin d=>exact cC x
  | put d p o n =>
   show eu r q (if p=q then some n else x)=(eu r q (if p=q then some n else none)).or x
   by_cases h:p=q
   ·rw[if_pos h,if_pos h,cC (some n)]
    cases eu r q none <;> rfl
   ·rw[if_neg h,if_neg h]
    exact cC x
structure aao (log:List bN) (ss:List Int) (q:Nat) (t uA cK:Int):Prop where
 dG:t = -1∨(0≤t∧t≤2)
 gy:∀x,eu log q none=some x→x=uA
 iE:eu log q none=none→uA=cK
 fr:t = -1→uA=cK∧∀d o n,bN.put d q o n∈log→jZ log d=true
 bF:0≤t→∃d,ss[t.toNat]?=some d∧oi log log q=some cK∧∀d' o n,bN.put d' q o n∈log→jZ log d'=false→d'=d
structure Ye (m:Int) (log:List bN) (ss:List Int):Prop where
 len:ss.length=3
 lt:∀(s:Nat) (d:Int),ss[s]?=some d→d<m∧jZ log d=false
 inj:∀(s aJ:Nat) (d:Int),ss[s]?=some d→ss[aJ]?=some d→s=aJ
 sE:∀d,bN.fin d∈log→d<m
 pu:∀d p o n,bN.put d p o n∈log→d<m
theorem BG {log:List bN}{d:Int}:jZ log d=true↔bN.fin d∈log:=by
 unfold jZ
 rw[any_eq_true]
 constructor
 ·rintro⟨ln,ak,az⟩
  cases ln with
  | fin e=>rw[←eq_of_beq az];exact ak
  | put d p o n=>cases az
 ·intro h
  exact⟨_,h,beq_self_eq_true d⟩
structure ad9 (n:Nat) (m:Int) (log:List bN) (ds bM ss aQ:List Int):Prop where
 num:Ye m log ss
 ct:∀q,q<n→∃t uA cK,aQ[q]?=some t∧ds[q]?=some uA∧bM[q]?=some cK∧aao log ss q t uA cK
def je (H:ao):bN→V→Prop
 | .put d p o n,x=>∃a,x=.ref a∧H a=some (.tup [.str "put",.int d,.int (p:Nat),.int o,.int n])
 | .fin d,x=>∃a,x=.ref a∧H a=some (.tup [.str "end",.int d])
def bN.ok (c:Nat):bN→Prop
 | .put _ p _ _=>p<c
 | .fin _=>True
theorem je.mono {H af:ao}(k:eh H af):∀{ln:bN}{x:V},je H ln x→je af ln x
 | .put d p o n,x,⟨a,e,h⟩=>⟨a,e,k _ _ h⟩
 | .fin d,x,⟨a,e,h⟩=>⟨a,e,k _ _ h⟩
theorem je.line {H:ao}:∀{ln:bN}{x:V},je H ln x→Line H x
 | .put d p o n,x,⟨a,e,h⟩=>⟨a,_,e,h,le_of_ble_eq_true rfl,fun f hf=>by
  simp only[mem_cons,not_mem_nil,or_false]at hf
  rcases hf with z | z | z | z | z
  all_goals (rw[z];first | exact .str _ | exact .int _)⟩
 | .fin d,x,⟨a,e,h⟩=>⟨a,_,e,h,le_of_ble_eq_true rfl,fun f hf=>by
  simp only[mem_cons,not_mem_nil,or_false]at hf
  rcases hf with z | z
  all_goals (rw[z];first | exact .str _ | exact .int _)⟩
abbrev gT (H:ao) (log:List bN) (xs:List V):Prop:=f3 (je H) log xs
theorem ry {n j:Nat}(h:j<n):oF n (j:Int)=some j:=by
 rw[V5 (Int.natCast_nonneg _) (by omega)]
 rfl
theorem ti (xs:List V) (k:Nat):eX xs (some (k:Int)) none=xs.drop k:=by
 unfold eX
 rw[gm.yz,gm.Cq]
 rw[take_of_length_le (by rw[length_drop];exact le_refl _)]
 by_cases h:k≤xs.length
 ·rw[Nat.min_eq_left h]
 ·rw[Nat.min_eq_right (by omega),drop_length,List.drop_eq_nil_of_le (by omega)]
theorem Uv (ns:List Int) (k:Nat):eX (ns.map V.int) (some (k:Int)) none=(ns.drop k).map V.int:=by rw[ti,List.map_drop]
theorem ints_of:∀{ys:List V},(∀v∈ys,∃z:Int,v=.int z)→∃ns:List Int,ys=ns.map V.int
 | [],_=>⟨[],rfl⟩
 | y::r,h=>by
  obtain⟨z,rfl⟩:=h y mem_cons_self
  obtain⟨ns,rfl⟩:=ints_of (ys:=r) fun v aX=>h v (mem_cons_of_mem _ aX)
  exact⟨z::ns,rfl⟩
theorem Iq (H:ao) (ns:List Int):∃l,bl H l (ns.map V.int)∧fs l≤ns.length:=by
 obtain⟨l,ak,az⟩:=yO (H:=H) (c:=1) (xs:=ns.map V.int) fun v aX=>by
  obtain⟨z,_,rfl⟩:=mem_map.mp aX
  exact⟨.int z,.ofInt,le_of_eq (CE z)⟩
 rw[length_map]at az
 exact⟨l,ak,by omega⟩
theorem oo {n:Nat}(h:n≤2000):n<sizeLine:=lt_of_le_of_lt h (by decide)
theorem tw:¬(V.str "end"=V.str "put"):=by decide +kernel
theorem Lb:¬(V.str "put"=V.str "end"):=by decide +kernel
structure x4 (d6:ao) (n:Nat) (r:Addr) (H:ao) (i:Nat) (xs:List V) (log:List bN):Prop where
 c6:bO d6 H
 aE:H r=some (.lst xs)
 dX:gT H log xs
 ok:∀ln∈log,ln.ok n
 le:log.length≤i
structure ad6 (d6:ao) (n:Nat) (l jU bD dz bF:Addr) (H:ao) (i:Nat) (xs:List V) (log:List bN) (ds bM ss aQ:List Int):Prop where
 g:x4 d6 n l H i xs log
 hd:H jU=some (.lst (ds.map V.int))
 aS:H bD=some (.lst (bM.map V.int))
 aY:H dz=some (.lst (ss.map V.int))
 aZ:H bF=some (.lst (aQ.map V.int))
 a_:ds.length=n
 q6:bM.length=n
 ns:ss.length=3
 m3:aQ.length=n
structure aco (d6:ao) (l jU bD dz bF:Addr):Prop where
 ak:d6 l=none
 az:d6 jU=none
 cz:d6 bD=none
 dA:d6 dz=none
 gz:d6 bF=none
 acM:l≠jU
 acL:l≠bD
 acK:l≠dz
 acJ:l≠bF
 acI:jU≠bD
 acH:jU≠dz
 acG:jU≠bF
 acF:bD≠dz
 acE:bD≠bF
 acD:dz≠bF
section
variable {d6:ao}{n:Nat}{l jU bD dz bF:Addr}{H:ao}{i:Nat}{xs:List V}{log:List bN}{ds bM ss aQ:List Int}
end
theorem Kh {K:PySem.W.Frag}{t:Addr}{x y:V}{H:ao}{Q:cD}(aZ:H t=some (.lst [x,y])) (ak:Q x H) (az:Q y H) (k:Bool):DQ K (.ref t) (.int (if k then 1 else 0)) H Q:=by
 cases k with
 | false=>exact⟨t,_,0,x,rfl,rfl,aO.of aZ,rfl,ak⟩
 | true=>exact⟨t,_,1,y,rfl,rfl,aO.of aZ,rfl,az⟩
def V_ (log:List bN) (p:Nat):Prop:=∃d o n,bN.put d p o n∈log
theorem RP {log:List bN}{p:Nat}(h:V_ log p):eu log p none≠none:=by
 obtain⟨d,o,n,hm⟩:=h
 obtain⟨a,b,e⟩:=List.append_of_mem hm
 rw[e,uK]
 show eu b p (if p=p then some n else _)≠none
 rw[if_pos rfl,HE]
 cases eu b p none <;> exact fun z=>nomatch z
def ends (log:List bN):List Int:=log.filterMap fun ln=>match ln with
 | .fin d=>some d
 | .put .. => none
def iR (q:Nat):bN→Bool
 | .put _ p _ _=>decide (p=q)
 | .fin _=>false
theorem Jt {log:List bN}{d:Int}:d∈ends log↔jZ log d=true:=by
 rw[BG]
 unfold ends
 rw[mem_filterMap]
 constructor
 ·rintro⟨ln,ak,az⟩
  cases ln with
  | fin e=>cases az;exact ak
  | put d p o n=>cases az
 ·intro h
  exact⟨_,h,rfl⟩
def endOf:bN→List Int
 | .fin d=>[d]
 | .put .. => []
theorem IQ {log:List bN}{i:Nat}{ln:bN}(h:log[i]?=some ln):ends (log.take (i+1))=ends (log.take i)++endOf ln:=by
 unfold ends
 rw[take_add_one,h,List.filterMap_append]
 cases ln <;> rfl
section
variable {X:bI}{K:PySem.W.Frag}
theorem J3 (h:X.K=K):wY X (LL K):=by subst h;exact b6
theorem Jo (h:X.K=K):wY X (DQ K):=by subst h;exact fq
end
theorem Bm:∀{xs:List V}{us:List Value},us.length=xs.length→(∀(j:Nat) (u:Value),us[j]?=some u→∃x,xs[j]?=some x∧RelV x u)→Vals xs us
 | [],[],_,_=>.nil
 | [],_::_,h,_=>by simp at h
 | _::_,[],h,_=>by simp at h
 | x::xs,u::us,h,f=>by
  obtain⟨y,e,r⟩:=f 0 u rfl
  have cX:x=y:=Option.some.inj e
  subst cX
  refine .cons r (Bm (by simpa using h) fun j oV bf=>?_)
  obtain⟨z,aM,b3⟩:=f (j+1) oV (by simpa using bf)
  exact⟨z,by simpa using aM,b3⟩
section
variable {X:bI}
def VH:List V→ao→cD→Prop:=fun xs H Q=>∃d kvs,xs=[.ref d]∧H d=some (.bS kvs)∧∀l,H l=none→Q (.ref l) (upd H l (.lst (kvs.map fun z=>eo z.1)))
theorem BH (dt:X.A.handled=none):nt X (.type "list") VH:=by
 intro pins s σ H xs us Q I bL h
 obtain⟨d,kvs,rfl,hd,q⟩:=h
 obtain⟨u,rfl,eF⟩:=bL.one
 cases eF
 obtain⟨z,qV,vs,rel,dd⟩:=tB I.bG hd
 obtain⟨cp,abw⟩:=dd.dictAt
 have aE:kvs.length=vs.length:=rel.length
 refine PySem.W.kdl_call (PySem.W.kdl_dict qV) dt abw (by rw[←aE];exact z) fun h' bF zS fJ aS gb ec=>?_
 have aX:Vals (kvs.map fun z=>eo z.1) zS.toList:=by
  refine Bm (by rw[length_map,Array.length_toList,ec.1,aE]) fun j u bf=>?_
  obtain⟨k,x,e,aS⟩:=ec.2 j u (by rw[←Array.getElem?_toList];exact bf)
  have di:j<kvs.length:=by rw[aE];exact (List.getElem?_eq_some_iff.mp e).1
  have WW:=rel.keys
  have aM:(kvs.map (·.1))[j]?=some k:=by rw[WW,getElem?_map,e];rfl
  rw[getElem?_map,getElem?_eq_getElem di]at aM
  have bT:kvs[j].1=k:=Option.some.inj aM
  refine⟨eo k,by rw[getElem?_map,getElem?_eq_getElem di,←bT];rfl,?_⟩
  rcases oe aS with ⟨i,t,rfl,rfl⟩ | ⟨y,t,rfl,rfl⟩
  ·exact⟨t,rfl⟩
  ·exact⟨t,rfl⟩
 refine⟨.ref s.heap.objs.size,_,I.laid (t':=bF) (o:=.lst (kvs.map fun z=>eo z.1)) aS (le_refl _) ⟨by rw[length_map];exact z,zS.toList,fJ,aX,by rw[Array.toArray_toList];exact gb⟩,rfl,q _ I.fresh⟩
theorem HB:∀(ns:List Int) (j:Nat),j≤ns.length→preSum (fun i=>ns.getD i 0) j=(ns.take j).sum
 | _,0,_=>rfl
 | ns,j+1,h=>by
  have di:j<ns.length:=by omega
  show preSum (fun i=>ns.getD i 0) j+ns.getD j 0=_
  rw[HB ns j (by omega),take_add_one,getElem?_eq_getElem di,sum_append,getD_eq_getElem?_getD,getElem?_eq_getElem di]
  simp
def Xw (K:PySem.W.Frag):List V→ao→cD→Prop:=fun xs H Q=>∃(l:Addr) (ns:List Int),xs=[.ref l]∧aO K H l (ns.map V.int)∧Q (.int ns.sum) H
theorem Uz (dt:X.A.handled=none):nt X (.builtin "sum") (Xw X.K):=by
 intro pins s σ H xs us Q I bL h
 obtain⟨l,ns,rfl,aE,q⟩:=h
 obtain⟨u,rfl,eF⟩:=bL.one
 cases eF
 obtain⟨its,r,p,hz⟩:=I.list aE
 have jo:=r.length
 rw[length_map]at jo
 refine call_sum_walkAnyS ?_
 refine wpAny_pyIter_list p.isList ?_
 have iA:l≠s.heap.objs.size:=by
  obtain⟨o,aC,_⟩:=p.isList
  exact ne_of_lt (lt_size aC)
 refine⟨s.heap.objs.size,_,_,_,its.toArray.size,_,_,fun i=>ns.getD i 0,rfl,(Walks.list (A:=X.A.in1) dt s.heap.objs.size l iA its.toArray).toS,⟨⟨_,get?_push_size _ rfl,rfl,rfl⟩,p.isList.push _⟩,fun b aa=>?_,fun i v aX=>?_,fun aJ t' M=>?_⟩
 ·rw[size_push]
  rcases mem_cons.mp aa with z | z
  ·rw[z];exact Nat.lt_succ_self _
  ·rw[mem_singleton.mp z]
   obtain⟨o,aC,_⟩:=p.isList
   exact Nat.lt_succ_of_lt (lt_size aC)
 ·have iy:its[i]?=some v:=by simpa using aX
  have aL:i<ns.length:=by rw[jo];exact (List.getElem?_eq_some_iff.mp iy).1
  obtain⟨u,e,eF⟩:=r.get (rp (getElem?_eq_getElem aL))
  rw[iy]at e
  cases e
  obtain⟨t,i4⟩:=eF
  refine⟨t,?_⟩
  have abu:ns.getD i 0=ns[i]:=by rw[getD_eq_getElem?_getD,getElem?_eq_getElem aL];rfl
  show _=Value.int (ns.getD i 0) t
  rw[i4,abu]
 ·have e:preSum (fun i=>ns.getD i 0) its.toArray.size=ns.sum:=by
   rw[size_toArray,←jo,HB ns ns.length (le_refl _),take_length]
  rw[e]
  have p4:∀b o,s.heap.get? b=some o→aJ.heap.get? b=some o:=fun b o ea=>M.heap b o (fun aa=>absurd (mem_singleton.mp aa) (ne_of_lt (lt_size ea))) (get?_push_of_some _ ea)
  obtain⟨h',g',d',t0,os'⟩:=aJ
  obtain rfl:g'=s.gens:=M.gens
  obtain rfl:d'=s.drawn:=M.drawn
  obtain rfl:os'=s.os:=M.os
  exact⟨.int ns.sum,H,I.kept (t':=t0) p4,⟨t',rfl⟩,q⟩
end
theorem S0:typeLookup (.type "list_reverseiterator") "__len__"=pure none:=by rw[typeLookup_type,builtinLookup_eq_fast];kernel_rfl
theorem Ul:typeLookup (.type "list_reverseiterator") "__length_hint__"=pure (some (.builtin "list_reverseiterator.__length_hint__")):=by rw[typeLookup_type,builtinLookup_eq_fast];kernel_rfl
theorem TF {prog:Program}{w:World}{A:Around}{E:Value→Shared→Prop}{s:Shared}{r:Addr}{Q:Bool→Shared→Prop}(i3:s.TypeIs (.ref r) "list_reverseiterator") (h:Q false s):wpAny (model prog w) A (Builtin.List.listLengthHint (.ref r)) Q E s:=by
 unfold Builtin.List.listLengthHint
 refine wpAny_bind (wpAny_specialOf i3 S0 ?_)
 show wpAny _ A (specialOf (Value.ref r) (Str.ofString "__length_hint__") >>= _) _ _ _
 refine wpAny_bind (wpAny_specialOf i3 Ul ?_)
 generalize Oz:("list_reverseiterator.__length_hint__":String)=Za
 wp_delta
 rw[show splitId Za=some ("list_reverseiterator","__length_hint__") from by subst Oz;decide +kernel]
 subst Oz
 refine wpAny_bind (wpAny_isInstance (T:="list_reverseiterator") (b:=true) i3 (by rw[isSubtype_type];kernel_rfl) ?_)
 refine wpAny_ite_split (fun wI=>absurd wI (by decide)) (fun _=>?_)
 refine wpAny_ite_split (fun _=>?_) (fun wI=>absurd (by decide +kernel) wI)
 refine wpAny_ite_split (fun wI=>absurd wI (by decide +kernel)) (fun _=>?_)
 exact wpAny_pure h
theorem TC {prog:Program}{w:World}{A:Around}{E:Value→Shared→Prop}{s:Shared}{it l:Addr}{items:Array Value}{Q:Value→Shared→Prop}(dt:A.handled=none) (hit:s.heap.IsRevIter it l ((items.size:Int) - 1)) (aE:s.heap.IsList l items) (iA:l≠it) (aP:items.size≤sizeLine)
  (p6:∀h' bF acc c,(∀b o,b≠it→s.heap.get? b=some o→h'.get? b=some o)→h'.get? s.heap.objs.size=some { cls:=.type "list",dict:=none,data:=.seq acc c,slots := #[] }→ItemsOf (fun i v=>items[items.size - 1 - i]?=some v) acc items.size→Q (.ref s.heap.objs.size) { s with heap:=h',toks:=bF }) :
  wpAny (model prog w) A (call (.type "list") [.ref it]) Q E s:=by
 refine callType_codes (Q₁:=fun bY dn=>bY=.ref s.heap.objs.size∧dn={ s with heap:=s.heap.push { cls:=.type "list",data:=.seq #[] } }) PySem.F.called_list (PySem.F.typeCall_list_1 _) PySem.F.entry_list_init (code_list_new _ ⟨rfl,rfl⟩) fun bY dn EO=>?_
 obtain⟨rfl,rfl⟩:=EO
 have L_:it<s.heap.objs.size:=by obtain⟨o,aC,_⟩:=hit;exact lt_size aC
 have ZH:l<s.heap.objs.size:=by obtain⟨o,aC,_⟩:=aE;exact lt_size aC
 have g1:(s.heap.push { cls:=.type "list",data:=.seq #[] }).get? s.heap.objs.size=some { cls:=.type "list",data:=.seq #[] }:=get?_push_size _ rfl
 refine⟨⟨_,g1,rfl⟩,PySem.F.args_list_init_2 _ _,?_⟩
 show wpAny _ _ (do let old ← Builtin.List.listItems (.ref s.heap.objs.size);Builtin.List.listUpdate (.ref s.heap.objs.size) (fun _ => #[]);letGo old.toList.reverse;Builtin.List.listExtendWith (.ref s.heap.objs.size) (.ref it) .none) _ _ _
 refine wpAny_bind ?_
 unfold Builtin.List.listItems
 refine wpAny_bind (wpAny_seqItems g1 rfl (wpAny_pure ?_))
 show wpAny _ _ (updateSeq s.heap.objs.size (fun _ => #[]) >>= fun _=>letGo (#[]:Array Value).toList.reverse >>= fun _=>Builtin.List.listExtendWith (.ref s.heap.objs.size) (.ref it) .none) _ _ _
 refine wpAny_bind (wpAny_updateSeq g1 rfl ?_)
 have g2:=get?_update_self (Obj.mapSeq (fun _=>(#[]:Array Value))) g1 rfl
 have zv:∀b o,s.heap.get? b=some o→((s.heap.push { cls:=.type "list",data:=.seq #[] }).update s.heap.objs.size (Obj.mapSeq (fun _=>(#[]:Array Value)))).get? b=some o :=
  fun b o e=>(get?_update_other _ _ (ne_of_gt (lt_size e))).trans (get?_push_of_some _ e)
 refine wpAny_bind (wpAny_letGo ?_)
 have abG:=(Walks.listRev (prog:=prog) (w:=w) (A:=A.in1.in1) dt it l iA items)
 have Z0:s.heap.objs.size∉[it,l]:=fun hm=>by
  rcases mem_cons.mp hm with z | z
  ·exact ne_of_gt L_ z
  ·exact ne_of_gt ZH (mem_singleton.mp z)
 have e0:(items.size:Int) - 1 - ((0:Nat):Int)=(items.size:Int) - 1:=by omega
 have key:∀(h:Heap) (c₁ bF:Nat),(∀b o,s.heap.get? b=some o→h.get? b=some o)→h.get? s.heap.objs.size=some { cls:=.type "list",data:=.seq #[] c₁ } →
   codeAny (model prog w) A.in1 (.builtin "list.extend.loop" ⟨[.ref s.heap.objs.size,.ref it,.none],[]⟩) (wants (fun r iB=>r=.none∧Q (.ref s.heap.objs.size) iB) E) { s with heap:=h,toks:=bF }:=by
  intro h c₁ bF aS g
  refine codeAny_extend_loopS abG.toS aP s.heap.objs.size Z0 .none items.size 0 _ #[] c₁ rfl (zero_le _) ⟨zero_le _,by rw[e0];exact hit.at fun o e=>aS it o e,aE.at fun o e=>aS l o e⟩ g (ItemsOf.nil _) fun aJ zS fJ hm g' ec=>?_
  rw[Moved.eq_with hm]
  refine⟨rfl,p6 aJ.heap aJ.toks zS fJ (fun b o aa e=>hm.heap b o (fun X0=>?_) (aS b o e)) g' ec⟩
  rcases mem_cons.mp X0 with z | z
  ·exact absurd (lt_size e) (by rw[z];exact lt_irrefl _)
  ·exact aa (mem_singleton.mp z)
 have i3:Shared.TypeIs { s with heap:=(s.heap.push { cls:=.type "list",data:=.seq #[] }).update s.heap.objs.size (Obj.mapSeq (fun _=>(#[]:Array Value))) } (.ref it) "list_reverseiterator":=(hit.at fun o e=>zv it o e).typeIs
 unfold Builtin.List.listExtendWith
 refine wpAny_bind (wpAny_typeOf i3 ?_)
 have ak:Builtin.List.listSameRef (.ref s.heap.objs.size) (.ref it)=false:=by simp[Builtin.List.listSameRef,ne_of_gt L_]
 rw[if_neg (by rw[ak];decide)]
 refine wpAny_bind (wpAny_pyIter_revIter (hit.at fun o e=>zv it o e) ?_)
 refine wpAny_bind (wpAny_holding (TF i3 ?_))
 refine wpAny_ite_split (fun _=>?_) (fun _=>wpAny_pure ⟨plainId_quiet PySem.F.plain_extend_loop _,key _ _ _ zv g2⟩)
 refine wpAny_bind (wpAny_rule ?_)
 refine wpAny_bind ?_
 show wpAny _ _ (updateSeq s.heap.objs.size (·.push .none) >>= fun _=>updateSeq s.heap.objs.size (·.pop)) _ _ _
 refine wpAny_bind (wpAny_updateSeq g2 rfl ?_)
 have g3:=get?_update_self (Obj.mapSeq (·.push Value.none)) g2 rfl
 refine wpAny_updateSeq (hz:=by seq_fits) g3 rfl ?_
 have jt:=get?_update_self (Obj.mapSeq (·.pop)) g3 rfl
 refine wpAny_pure ⟨plainId_quiet PySem.F.plain_extend_loop _,key _ _ _ (fun b o e=>?_) jt⟩
 exact (get?_update_other _ _ (ne_of_gt (lt_size e))).trans ((get?_update_other _ _ (ne_of_gt (lt_size e))).trans (zv b o e))
section
variable {X:bI}
def Tu (K:PySem.W.Frag) (b2:TE):TE:=fun σ H Q=>b2 σ H fun x H1=>∃a xs,x=.ref a∧aO K H1 a xs∧∀l,H1 l=none→Q (.ref l) (upd H1 l (.lst xs.reverse))
theorem R_ {e:Expr}{b2:TE}{eV es kh l5:Pos}(dt:X.A.handled=none) (cF:lK X "list") (hm:X.mg "list"=none) (ZP:lK X "reversed") (ZG:X.mg "reversed"=none) (he:b9 X e b2)
  (aY:starEach [.Call (.Name "reversed" es) [e] [] kh] X.env=[(false,eval (.Call (.Name "reversed" es) [e] [] kh) X.env)]:=by rfl) (jE:starEach [e] X.env=[(false,eval e X.env)]:=by rfl) :
  b9 X (.Call (.Name "list" eV) [.Call (.Name "reversed" es) [e] [] kh] [] l5) (Tu X.K b2):=by
 intro pins s σ H Q I h
 refine Call_ (qv I cF hm boot_list (PyProof.Rows.callWith_type1 ?_ aY rfl))
 rw[aY]
 show wpAny _ _ (spliced [(false,eval (.Call (.Name "reversed" es) [e] [] kh) X.env)]) _ _ s
 refine Calls.spliced_cons ?_
 refine Call_ (qv I ZP ZG boot_reversed (PyProof.Rows.callWith_type1 ?_ jE rfl))
 rw[jE]
 show wpAny _ _ (spliced [(false,eval e X.env)]) _ _ s
 refine Calls.spliced_cons (bU (he pins s σ H _ I h) fun u s1 ⟨x,H1,a3,bz,a,xs,ex,bh,q⟩=>?_)
 subst ex
 cases bz
 obtain⟨its,bL,pl,hz⟩:=a3.list bh
 have jo:=bL.length
 refine Calls.spliced_nil (call_reversed_list pl.isList ?_)
 refine Calls.spliced_nil ?_
 have iA:a≠s1.heap.objs.size:=by
  obtain⟨o,aC,_⟩:=pl.isList
  exact ne_of_lt (lt_size aC)
 refine TC (items:=its.toArray) dt ⟨_,get?_push_size _ rfl,rfl,rfl⟩ (pl.isList.push _) iA (by rw[size_toArray];omega) fun h' bF acc c aS gb ec=>?_
 have ZN:∀b o,s1.heap.get? b=some o→h'.get? b=some o:=fun b o ea=>aS b o (ne_of_lt (lt_size ea)) (get?_push_of_some _ ea)
 have aX:Vals xs.reverse acc.toList:=by
  refine Bm (by rw[length_reverse,Array.length_toList,ec.1,size_toArray,jo]) fun j u bf=>?_
  have aH:=ec.2 j u (by rw[←Array.getElem?_toList];exact bf)
  have di:j<xs.length:=by
   have:=(List.getElem?_eq_some_iff.mp bf).1
   rw[Array.length_toList,ec.1,size_toArray]at this
   omega
  rw[size_toArray]at aH
  have aM:its[its.length - 1 - j]?=some u:=by simpa using aH
  have tZ:its.length - 1 - j<xs.length:=by omega
  obtain⟨gu,bT,h4⟩:=bL.get (getElem?_eq_getElem tZ)
  rw[aM]at bT
  cases bT
  refine⟨_,?_,h4⟩
  rw[getElem?_reverse di]
  have b1:xs.length - 1 - j=its.length - 1 - j:=by omega
  rw[b1]
  exact getElem?_eq_getElem tZ
 rw[size_push]at gb
 have et:(s1.heap.push (revObj a ((its.toArray.size:Int) - 1))).objs.size=s1.heap.objs.size+1:=size_push ..
 have oK:H1 (s1.heap.objs.size+1)=none:=a3.bG.fresh (le_succ _)
 show hr X pins σ Q (.ref (s1.heap.push (revObj a ((its.toArray.size:Int) - 1))).objs.size) _
 rw[et]
 refine⟨.ref (s1.heap.objs.size+1),upd H1 (s1.heap.objs.size+1) (.lst xs.reverse),?_,rfl,q _ oK⟩
 refine Inv.laid (s:=s1) (t':=bF) (a:=s1.heap.objs.size+1) (o:=.lst xs.reverse) a3 ZN (le_succ _) ⟨by rw[length_reverse];exact hz,acc.toList,c,aX,by rw[Array.toArray_toList];exact gb⟩
end
def q4 (K:PySem.W.Frag) (a:Addr) (n:Nat):jW :=
 ⟨fun i H=>i<n∧∃xs x,aO K H a xs∧xs[n - 1 - i]?=some x,fun i H x af=>af=H∧∀xs,aO K H a xs→xs[n - 1 - i]?=some x,fun i _=>i=n⟩
theorem Ts {P:Program}{w:World}{K:PySem.W.Frag}{er:Expr}(a it:Addr) (n:Nat):Turn P w K er (q4 K a n) [it] it (fun i h=>h.IsRevIter it a ((n:Int) - 1 - (i:Int))) where
 mem:=by simp
 obj:=fun i h st b aa=>by
  have e:b=it:=by simpa using aa
  subst e
  obtain⟨o,e,c,d⟩:=st
  exact⟨o,e,fun v z=>by rw[d]at z;cases z⟩
 keep:=fun i h h' st k=>st.at fun o e=>k it (by simp) o e
 item:=by
  intro X gP hw hK ai i pins s σ H E I hf st cF
  subst gP hw hK
  obtain⟨aP,xs,x,bo,bh⟩:=cF
  obtain⟨its,bL,p,hz⟩:=I.list bo
  obtain⟨u,bf,eF⟩:=bL.get bh
  obtain⟨f0,f1,f2,fy,f4,gk⟩:=hf it (by simp)
  have h6:(n:Int) - 1 - (i:Int)=((n - 1 - i:Nat):Int):=by omega
  have Ys:s.heap.IsRevIter it a ((n - 1 - i:Nat):Int):=by rw[←h6];exact st
  refine wpAny_pyNext_rev_item Ys p.isList (x:=u) (by simpa using bf) fun h' gK jJ=>?_
  have a3:Inv X pins σ H { s with heap:=h' }:=I.turned (t':=s.toks) (fun b o aa e=>(jJ.2 b aa).trans e) f0 f1 fy f4 gk
  have mb:((n - 1 - i:Nat):Int) - 1=(n:Int) - 1 - ((i+1:Nat):Int):=by omega
  rw[mb]at gK
  obtain⟨o,e,c,d⟩:=id gK
  exact⟨u,rfl,zj (s:={ s with heap:=h' }) e c d (by decide) ⟨x,H,a3,eF,⟨rfl,fun ys ck=>by rw[I.B5 ck bo];exact bh⟩,gK,fun b aa=>(hf b aa).1⟩⟩
 done:=by
  intro X gP hw hK ai i pins s σ H E I hf st cF
  subst gP hw hK
  have cF:i=n:=cF
  subst cF
  obtain⟨f0,f1,f2,fy,f4,gk⟩:=hf it (by simp)
  have h6:(i:Int) - 1 - (i:Int) = -1:=by omega
  rw[h6]at st
  exact wpAny_pyNext_rev_end (I.ok.hd ai) st fun h' ea=>⟨rfl,I.turned (t':=s.toks) (fun b o aa e=>ea b o aa e) f0 f1 fy f4 gk⟩
 self:=fun _ _ _ _ _ st h=>wpAny_pyIter_revIter st h
section
variable {X:bI}{er:Expr}
def XT (K:PySem.W.Frag) (b2:TE):TI:=fun σ H R=>b2 σ H fun x H1=>∃a xs,x=.ref a∧aO K H1 a xs∧R (q4 K a xs.length) H1
theorem KH {l:Expr}{h3:TE}{p pos:Pos}(cF:lK X "reversed") (hm:X.mg "reversed"=none) (aE:b9 X l h3) (aY:starEach [l] X.env=[(false,eval l X.env)]:=by rfl):o7 X er (.Call (.Name "reversed" p) [l] [] pos) (XT X.K h3):=by
 intro pins s σ H R I h
 refine Call_ (qv I cF hm boot_reversed (PyProof.Rows.callWith_type1 ?_ aY rfl))
 rw[aY]
 show wpAny _ _ (spliced [(false,eval l X.env)]) _ _ s
 refine Calls.spliced_cons (bU (aE pins s σ H _ I h) fun u s1 ⟨x,H1,a3,bz,a,xs,ex,bh,q⟩=>?_)
 subst ex
 cases bz
 obtain⟨its,bL,pl,hz⟩:=a3.list bh
 have jo:=bL.length
 refine Calls.spliced_nil (call_reversed_list pl.isList ?_)
 have st:(s1.heap.push (revObj a ((its.toArray.size:Int) - 1))).IsRevIter s1.heap.objs.size a ((xs.length:Int) - 1 - ((0:Nat):Int)):=by
  have e:((its.toArray.size:Nat):Int) - 1=(xs.length:Int) - 1 - ((0:Nat):Int):=by rw[size_toArray];omega
  rw[←e]
  exact⟨_,get?_push_size _ rfl,rfl,rfl⟩
 refine wpAny_pyIter_revIter (s:={ s1 with heap:=s1.heap.push (revObj a ((its.toArray.size:Int) - 1)) }) st ?_
 refine⟨s1.heap.objs.size,[s1.heap.objs.size],_,_,H1,rfl,a3.kept (t':=s1.toks) fun b o e=>get?_push_of_some _ e,Ts a _ xs.length,st,fun b aa=>?_,q⟩
 have e:b=s1.heap.objs.size:=by simpa using aa
 subst e
 exact a3.rS (le_refl _) (a3.bG.fresh (le_refl _))
end
theorem Vm {K:PySem.W.Frag}{a:Addr}{xs:List V}{g:h_}{dG:fW}{D:Ends}{σ:St}{H:ao}(Pv:Nat→St→ao→Prop) (h0:Pv 0 σ H) (aE:∀i σ H,i≤xs.length→Pv i σ H→aO K H a xs)
  (aY:∀i x σ H,i<xs.length→xs[xs.length - 1 - i]?=some x→Pv i σ H→g x σ H fun gs ay=>dG { D with da:=Pv (i+1),fc:=Pv (i+1),hp:=D.da } gs ay) (hd:∀σ H,Pv xs.length σ H→D.da σ H) :
  ∃W:Nat→Nat→St→ao→Prop,(∃m,W 0 m σ H)∧∀i m σ H,W i m σ H →
   ((q4 K a xs.length).stop i H∧D.da σ H)∨((q4 K a xs.length).go i H∧∃N:St→ao→Prop,(∀bA af,N bA af→∃fG,fG<m∧W (i+1) fG bA af)∧∀x af,(q4 K a xs.length).nB i H x af→g x σ af fun gs ay=>dG { D with da:=N,fc:=N,hp:=D.da } gs ay):=by
 refine⟨fun i m σ H=>m=xs.length - i∧i≤xs.length∧Pv i σ H,⟨xs.length,by simp,zero_le _,h0⟩,?_⟩
 rintro i m σ H ⟨rfl,aL,p⟩
 have q:=aE i σ H aL p
 by_cases c8:i<xs.length
 ·have di:xs.length - 1 - i<xs.length:=by omega
  refine .inr ⟨⟨c8,xs,xs[xs.length - 1 - i],q,getElem?_eq_getElem di⟩,Pv (i+1),fun bA af eg=>⟨xs.length - (i+1),by omega,rfl,c8,eg⟩,fun x af y=>?_⟩
  obtain⟨e,y⟩:=y
  subst e
  exact aY i x σ _ c8 (y xs q) p
 ·have e:i=xs.length:=by omega
  subst e
  exact .inl ⟨rfl,hd σ H p⟩
theorem So {K:PySem.W.Frag}{a:Addr}{xs:List V}{log:List bN}{tt:TT}{b2:TE}{bA:St}{Q:cD}{H:ao}{acc:Addr}{w:V}(bk:H a=some (.lst xs)) (eS:gT H log xs) (h0:H acc=none) (hz:log.length≤1000)
  (aZ:∀ln x aT (k:Bool→ao→Prop),je aT ln x→k (match ln with | .fin _=>true | .put .. => false) aT→tt (some x::bA) aT k)
  (he:∀d x aT (k:cD),je aT (.fin d) x→(∀p,aT p=none→k (.ref p) (upd aT p (.tup [.int d,w])))→b2 (some x::bA) aT k)
  (q:∀(ys:List V) (af:ao),bO H af→af acc=some (.lst ys)→f3 (fun z x=>tu af x (Sum.inl z,w)) (ends log) ys→ys.length≤log.length→Q (.ref acc) af):y4 (oS K a) tt b2 bA Q H acc:=by
 have iD:=eS.1
 refine⟨xs.length,fun i ys ay=>i≤xs.length∧bO H ay∧ay acc=some (.lst ys)∧ys.length≤i∧f3 (fun z x=>tu ay x (Sum.inl z,w)) (ends (log.take i)) ys,⟨zero_le _,bR h0 _,aR,le_refl _,.nil⟩,?_⟩
 rintro i ys ay ⟨aL,c6,ec,gx,aF⟩
 have kJ:=c6 _ _ bk
 by_cases c8:i<xs.length
 ·have bh:xs[i]?=some xs[i]:=getElem?_eq_getElem c8
  obtain⟨ln,fO,gF⟩:=eS.get bh
  refine .inr ⟨⟨xs,xs[i],aO.of kJ,bh⟩,c8,?_⟩
  rintro v aT ⟨rfl,aX⟩
  have ev:v=xs[i]:=by
   have:=aX _ (aO.of kJ)
   rw[bh]at this
   exact (Option.some.inj this).symm
  subst ev
  have Me:=gF.mono c6.e5
  refine aZ ln _ _ _ Me ?_
  cases ln with
  | put d p o n =>
   refine cV ⟨c8,c6,ec,by omega,?_⟩
   rw[IQ fO]
   show f3 _ (ends (log.take i)++[]) ys
   rw[append_nil]
   exact aF
  | fin d =>
   refine el (he d _ _ _ Me fun p j9=>?_)
   have v_:p≠acc:=(cB ec j9).symm
   have Dz:(upd aT p (.tup [.int d,w])) acc=some (.lst ys):=by rw[aA v_.symm];exact ec
   refine⟨Dz,lt_of_le_of_lt (by omega:ys.length≤1000) (by decide),c8,(c6.trans (bR j9 _)).ig h0,aR,by rw[length_append,length_singleton];omega,?_⟩
   rw[IQ fO]
   refine f3.snoc (aF.mono fun z x bh=>?_) ⟨p,rfl,by rw[aA v_,aR];rfl⟩
   obtain⟨b,aH,aM⟩:=bh
   exact⟨b,aH,by rw[aA (dv aM ec (fun z=>nomatch z)),aA (cB aM j9)];exact aM⟩
 ·have e:i=xs.length:=by omega
  subst e
  have aM:log.take xs.length=log:=take_of_length_le (by omega)
  rw[aM]at aF
  exact .inl ⟨⟨xs,aO.of kJ,le_refl _⟩,q ys ay c6 ec aF (by omega)⟩
def nR (log:List bN) (i:Nat) (ps ns:List Int):Prop:=ns.length=ps.length∧∀(q:Nat) (v:Int),ps[q]?=some v→ns[q]?=some ((eu (log.take i) q none).getD v)
theorem nR.start (log:List bN) (ps:List Int):nR log 0 ps ps:=⟨rfl,fun q v h=>h⟩
theorem Hg {log:List bN}{i:Nat}{ln:bN}(h:log[i]?=some ln) (q:Nat):eu (log.take (i+1)) q none=eu [ln] q (eu (log.take i) q none):=by
 rw[take_add_one,h,uK]
 rfl
theorem nR.put {log:List bN}{i:Nat}{ps ns:List Int}{d o n:Int}{p:Nat}(F:nR log i ps ns) (h:log[i]?=some (.put d p o n)):nR log (i+1) ps (ns.set p n):=by
 refine⟨by rw[length_set];exact F.1,fun q v aX=>?_⟩
 have e:=F.2 q v aX
 rw[Hg h]
 show _=some ((if p=q then some n else eu (log.take i) q none).getD v)
 by_cases z:p=q
 ·subst z
  rw[if_pos rfl,getElem?_set_self (List.getElem?_eq_some_iff.mp e).1]
  rfl
 ·rw[if_neg z,getElem?_set_ne z]
  exact e
theorem nR.fin {log:List bN}{i:Nat}{ps ns:List Int}{d:Int}(F:nR log i ps ns) (h:log[i]?=some (.fin d)):nR log (i+1) ps ns:=by
 refine⟨F.1,fun q v aX=>?_⟩
 rw[Hg h]
 exact F.2 q v aX
def lr (log:List bN) (i:Nat) (ps ns:List Int):Prop:=ns.length=ps.length∧∀(q:Nat) (v:Int),ps[q]?=some v→ns[q]?=some ((oi log (log.drop (log.length - i)) q).getD v)
theorem lr.start (log:List bN) (ps:List Int):lr log 0 ps ps:=⟨rfl,fun q v h=>by
 rw[sub_zero,drop_length]
 exact h⟩
theorem BV {α:Type}{l:List α}{i:Nat}{a:α}(aL:i<l.length) (h:l[l.length - 1 - i]?=some a):l.drop (l.length - (i+1))=a::l.drop (l.length - i):=by
 have aH:l.length - (i+1)=l.length - 1 - i:=by omega
 have aM:l.length - i=l.length - 1 - i+1:=by omega
 rw[aH,aM]
 obtain⟨aS,e⟩:=List.getElem?_eq_some_iff.mp h
 rw[←e]
 exact List.drop_eq_getElem_cons aS
theorem lr.DX {log:List bN}{i:Nat}{ps ns:List Int}{d o n:Int}{p:Nat}(F:lr log i ps ns) (aL:i<log.length) (h:log[log.length - 1 - i]?=some (.put d p o n)) (hd:jZ log d=false):lr log (i+1) ps (ns.set p o):=by
 refine⟨by rw[length_set];exact F.1,fun q v aX=>?_⟩
 have e:=F.2 q v aX
 rw[BV aL h]
 show _=some ((if p=q∧jZ log d=false then some o else oi log (log.drop (log.length - i)) q).getD v)
 by_cases z:p=q
 ·subst z
  rw[if_pos ⟨rfl,hd⟩,getElem?_set_self (List.getElem?_eq_some_iff.mp e).1]
  rfl
 ·rw[if_neg fun w=>z w.1,getElem?_set_ne z]
  exact e
theorem lr.kept {log:List bN}{i:Nat}{ps ns:List Int}{d o n:Int}{p:Nat}(F:lr log i ps ns) (aL:i<log.length) (h:log[log.length - 1 - i]?=some (.put d p o n)) (hd:jZ log d=true):lr log (i+1) ps ns:=by
 refine⟨F.1,fun q v aX=>?_⟩
 rw[BV aL h]
 show _=some ((if p=q∧jZ log d=false then some o else oi log (log.drop (log.length - i)) q).getD v)
 rw[if_neg fun w=>by rw[hd]at w;cases w.2]
 exact F.2 q v aX
theorem lr.fin {log:List bN}{i:Nat}{ps ns:List Int}{d:Int}(F:lr log i ps ns) (aL:i<log.length) (h:log[log.length - 1 - i]?=some (.fin d)):lr log (i+1) ps ns:=by
 refine⟨F.1,fun q v aX=>?_⟩
 rw[BV aL h]
 exact F.2 q v aX
theorem UB {log:List bN}{ps ms ns:List Int}(F:nR log log.length ps ms) (B:lr log log.length ms ns):ns.length=ps.length∧∀(q:Nat) (v:Int),ps[q]?=some v→ns[q]?=some (vp log q v):=by
 refine⟨B.1.trans F.1,fun q v aX=>?_⟩
 have e:=B.2 q _ (F.2 q v aX)
 rw[sub_self,take_length]at e
 exact e
structure vU (X:bI) (m:Nat) (fr:List Nat) (cY:List Str) (scope:Scope) (cl:List (Str × Addr)):Prop where
 qF:closureFor scope X.env=pure cl
 cell:∀y∈scope.names,y.2≠.cell
 kind:scope.kind=.function
 names:∀y∈scope.names,y.2=.local→scope.names.lookup y.1=some .local
 sub:∀y c,cl.lookup y=some c→X.env.cells.lookup y=some c
 has:∀y,((relabel scope X.env).names.lookup y=some .cell∨(relabel scope X.env).names.lookup y=some .free)→∃c,cl.lookup y=some c
 len:cY.length=m+fr.length
 a_:cY.Nodup
 rV:∀(i j:Nat) (y:Str),cY[i+m]?=some y→fr[i]?=some j→X.N[j]?=some y∧X.env.scope.names.lookup y=some .cell∧(relabel scope X.env).names.lookup y=some .cell
theorem vU.XF {X:bI}{x1 x2 fv:Str}{j:Nat}{c:Addr}{scope:Scope}(Dw:closureFor scope X.env=pure [(fv,c)]) (ow:∀y∈scope.names,y.2≠.cell) (kA:∀y∈scope.names,y.2=.free→y.1=fv) (vt:scope.kind=.function)
  (C8:∀y∈scope.names,y.2=.local→scope.names.lookup y.1=some .local) (ai:X.env.cells.lookup fv=some c) (ZD:[x1,x2,fv].Nodup) (f_:X.N[j]?=some fv) (aS:X.env.scope.names.lookup fv=some .cell)
  (aD:(relabel scope X.env).names.lookup fv=some .cell):vU X 2 [j] [x1,x2,fv] scope [(fv,c)] where
 qF:=Dw
 cell:=ow
 kind:=vt
 names:=C8
 sub:=fun y d e=>by
  rw[lookup_cons]at e
  cases z:y == fv with
  | true =>
   rw[z]at e
   have cX:some c=some d:=e
   cases cX
   rw[beq_iff_eq.mp z]
   exact ai
  | false=>rw[z]at e;simp at e
 has:=fun y ck=>by
  have:y=fv:=by
   rcases ck with h | h
   ·exact s6 ow kA h (.inl rfl)
   ·exact s6 ow kA h (.inr rfl)
  subst this
  exact⟨c,by rw[lookup_cons,beq_self_eq_true]⟩
 len:=rfl
 a_:=ZD
 rV:=fun i k y ak az=>by
  cases i with
  | zero =>
   have aH:fv=y:=Option.some.inj ak
   have aM:j=k:=Option.some.inj az
   subst aH aM
   exact⟨f_,aS,aD⟩
  | succ i=>simp at az
theorem KI {X:bI}{cY:List Str}{scope:Scope}{cl:List (Str × Addr)}{C:Addr}{s:Shared}{H:ao}{bJ:List Addr}{x:Str}{iY:Pos}{i:Nat}(f_:cY.Nodup) (aL:cY[i]?=some x) (bh:scope.names.lookup x=some .local):o8 (ez X cY scope cl C s H bJ) (.Name x iY) (vv i):=by
 have q_:(relabel scope X.env).names.lookup x=some .local:=lookup_relabel_local bh
 exact ff (X:=ez X cY scope cl C s H bJ) (i:=i) f_ aL (.inl q_) (.inr q_)
theorem UX {X:bI}{K:PySem.W.Frag}{aB:List Expr}{k:Nat}{t:q3}{n:Nat}{pos:Pos}(hK:X.K=K) (ai:X.calm=true) (h:wU X aB t)
  (aP:(assignEach aB X.env).length=n:=by rfl) (iz:(assignEach aB X.env).findIdx? (·.1)=none:=by rfl):o8 X (.Tuple aB k pos) (D1 K n t):=by
 subst hK
 exact pq ai h aP iz
def DC (J:jW) (m:Nat) (g:h_) (tt:TT) (b2:TE) (bA:St) (Q:cD) (H:ao) (acc:Addr):Prop :=
 ∃(n:Nat) (W:Nat→List V→ao→Prop),W 0 [] (upd H acc (.lst []))∧∀i ys ay,W i ys ay→(J.stop i ay∧Q (.ref acc) ay) ∨
  (J.go i ay∧i<n∧∀v aT aQ,J.nB i ay v aT→aQ.length=m→g v (aQ++bA) aT fun gs cO=>∃hA,hA.length=m∧gs=hA++bA∧tt (hA++bA) cO fun b dC=>if b=true then b2 (hA++bA) dC fun y ed=>ed acc=some (.lst ys)∧ys.length<sizeLine∧W (i+1) (ys++[y]) (upd ed acc (.lst (ys++[y]))) else W (i+1) ys dC)
theorem Sm {X:bI}{pins:List (Addr × Obj)}{σ:St}{H:ao}{s:Shared}{er:Expr}{g:h_}{m:Nat}{elt iter c:Expr}{scope:Scope}{pos:Pos}{cl:List (Str × Addr)}{cY:List Str}{fr:List Nat}{b2:TE}{tt:TT}{J:jW}{bJ:List Addr}{it:Addr}
  {ek:Nat→Heap→Prop} {E:Value→Shared→Prop} {RR:Value→Addr→Result→Shared→Prop} {Q:cD} (B:vU X m fr cY scope cl) (ai:X.calm=true) (I:Inv X pins σ H s) (T:Turn X.prog X.w X.K er J bJ it ek)
  (st:ek 0 s.heap) (hf:∀b∈bJ,lQ X pins H b) (cF:∀C aJ af,o8 (ez X cY scope cl C aJ af bJ) er g) (bo:∀C aJ af,gQ (ez X cY scope cl C aJ af bJ) c tt) (he:∀C aJ af,b9 (ez X cY scope cl C aJ af bJ) elt b2) (h:∀acc,H acc=none→DC J m g tt b2 (pick σ fr) Q H acc)
  (wJ:∀acc C af aJ m,Inv X pins σ af aJ→Q (.ref acc) af→aJ.heap.Ns C m→af C=none→C≠X.env.locals→(C∈X.ex∨X.fP.heap.objs.size≤C)→(∀y c,X.env.cells.lookup y=some c→c≠C)→(∀p∈X.bK++pins,p.1≠C)→RR (.ref acc) C (.ok .next) aJ) :
  wpAny (model X.prog X.w) X.A (newList []) (fun acc gY=>wpAny (model X.prog X.w) X.A (newFunctionEnv scope X.env.globals cl [] X.env.qual none .none (some X.env)) (fun qG mX =>
   codeAny (model X.prog X.w) X.A (.compStart (.ListComp elt [⟨er,iter,[c],0⟩] scope pos) 0 (.ref it) acc { qG with scope:=relabel scope X.env }) (RR acc qG.locals) mX) E gY) E s:=by
 refine wpAny_newObj_type (wpAny_newFunctionEnv B.cell (by intro y ck;simp at ck) (fun fT ny nx=>?_) B.kind)
 have cA:Inv X pins σ (upd H s.heap.objs.size (.lst [])) { s with heap:=s.heap.push { cls:=.type "list",data:=.seq ([]:List Value).toArray } }:=I.zL (its:=[]) (t':=s.toks) .nil (zero_le _)
 obtain⟨n,W,pY,turn⟩:=h s.heap.objs.size I.fresh
 dsimp only at ny nx ⊢
 generalize qP:({ s with heap:=s.heap.push { cls:=.type "list",data:=.seq ([]:List Value).toArray } }:Shared)=s3 at *
 have qS:s.heap.push { cls:=.type "list",data:=.seq ([]:List Value).toArray }=s3.heap:=by rw[←qP]
 have vM:s.heap.push { cls:=.type "list",dict:=none,data:=.seq ([]:List Value).toArray }=s3.heap:=qS
 rw[vM]at ny nx ⊢
 have jD:∀b o,s3.heap.get? b=some o→b≠s3.heap.objs.size:=fun b o e=>ne_of_lt (lt_size e)
 have jy:∀b o,s3.heap.get? b=some o→fT.get? b=some o:=fun b o e=>nx.extBut b o (jD b o e) (get?_push_of_some _ e)
 have qy:∀b o,s.heap.get? b=some o→s3.heap.get? b=some o:=fun b o e=>by rw[←qS];exact get?_push_of_some _ e
 have kE:ek 0 fT:=T.keep 0 _ _ st fun b _ o e=>jy b o (qy b o e)
 have vB:∀b∈bJ,∃o,s3.heap.get? b=some o:=fun b aa=>by
  obtain⟨o,e,_⟩:=T.obj 0 _ st b aa
  exact⟨o,qy b o e⟩
 have nu:∀b,b≠X.env.locals→b∉X.bP→b∉gO X.stack:=fun b ak az aa=>by
  rcases mem_cons.mp (cA.tn b aa) with z | z
  ·exact ak z
  ·exact az z
 have ok:(ez X cY scope cl s3.heap.objs.size s3 (upd H s.heap.objs.size (.lst [])) bJ).Ok:=by
  refine⟨I.ok.mod,?_,I.ok.glob,I.ok.blt,le_refl _,fun y z c ak az=>I.ok.inj y z c (B.sub y c ak) (B.sub z c az),fun y ck=>B.has y ck,fun y c e _=>absurd (show false=true from e) Bool.false_ne_true,I.ok.hd,I.ok.frames,.inl rfl,fun b aa=>?_,cA.bs,
   le_trans I.ok.ll cA.e7,fun b o e aa=>?_,fun b aa=>nu b (hf b aa).2.1 (hf b aa).2.2.1,cA.stack,cA.u4⟩
  ·exact B.kind
  ·obtain⟨o,e⟩:=vB b aa
   exact⟨jD b o e,fun y c e=>(hf b aa).2.2.2.2.1 y c (B.sub y c e)⟩
  ·rcases (hf b aa).2.2.2.1 with z | z
   ·exact I.ok.nv b o e z
   ·exact absurd (lt_of_lt_of_le (lt_size (I.ok.bs b o e).1) z) (lt_irrefl _)
 have cellK:∀c v,s3.heap.IsCell c v→fT.IsCell c v:=fun c v ⟨o,aC,hd⟩=>⟨o,jy c o aC,hd⟩
 have kB:∀{af:ao},(∀b∈bJ,af b=none)→∀b∈bJ,lQ (ez X cY scope cl s3.heap.objs.size s3 (upd H s.heap.objs.size (.lst [])) bJ) pins af b:=fun aP b aa =>
  ⟨aP b aa,(ok.pS b aa).1,nu b (hf b aa).2.1 (hf b aa).2.2.1,.inl aa,fun y c e=>(hf b aa).2.2.2.2.1 y c (B.sub y c e),(hf b aa).2.2.2.2.2⟩
 have jY:Inv (ez X cY scope cl s3.heap.objs.size s3 (upd H s.heap.objs.size (.lst [])) bJ) pins (List.replicate m none++pick σ fr) (upd H s.heap.objs.size (.lst [])) { s3 with heap:=fT }:=by
  refine⟨ok,rfl,cA.bare,hk.kept jy,⟨_,ny,fun i y v ak az cz=>?_⟩,fun y c e=>?_,cA.fresh,fun y c e=>cA.jz y c (B.sub y c e),fun p aF=>?_,cA.bG.kept jy,?_⟩
  ·by_cases ET:i<m
   ·rw[getElem?_append_left (by rw[length_replicate];exact ET),List.getElem?_replicate,if_pos ET]at az
    cases az
   ·rw[getElem?_append_right (by rw[length_replicate];omega),length_replicate]at az
    unfold pick at az
    rw[getElem?_map]at az
    cases mb:fr[i - m]? with
    | none=>rw[mb]at az;cases az
    | some j =>
     rw[mb]at az
     have la:(σ[j]?).getD none=some v:=Option.some.inj az
     have xC:σ[j]?=some (some v):=by
      cases q:σ[j]? with
      | none=>rw[q]at la;cases la
      | some o =>
       rw[q]at la
       have:o=some v:=la
       rw[this]
     obtain⟨e4,fK,iI⟩:=B.rV (i - m) j y (by rw[Nat.sub_add_cancel (Nat.le_of_not_lt ET)];exact ak) mb
     obtain⟨fb,_,wC⟩:=cA.loc
     obtain⟨u,eF,lk⟩:=wC j y v e4 xC (.inr (.inl fK))
     refine⟨u,eF,.inr ⟨.inl iI,?_⟩⟩
     rcases lk with ⟨k,_⟩ | ⟨_,c,e,z⟩
     ·have hh:X.env.scope.names.lookup y=some .local:=k
      rw[fK]at hh
      cases hh
     ·obtain⟨fJ,cX⟩:=B.has y (.inl iI)
      have:=B.sub y fJ cX
      rw[e]at this
      cases this
      exact⟨_,cX,cellK _ _ z⟩
  ·obtain⟨v,z⟩:=cA.cell y c (B.sub y c e)
   exact⟨v,cellK c v z⟩
  ·obtain⟨e,q7,ne,kP,d⟩:=cA.pin p aF
   exact⟨jy _ _ e,q7,jD _ _ e,nu _ ne kP,d⟩
  ·show (List.replicate m none++pick σ fr).length=cY.length
   rw[B.len,length_append,length_replicate]
   unfold pick
   rw[length_map]
 have fin:∀{af:ao} {bA:St} {aJ:Shared},Inv (ez X cY scope cl s3.heap.objs.size s3 (upd H s.heap.objs.size (.lst [])) bJ) pins bA af aJ→Q (.ref s.heap.objs.size) af→RR (.ref s.heap.objs.size) s3.heap.objs.size (.ok .next) aJ:=fun {af bA aJ} J q=>by
  obtain⟨m,aP,_⟩:=J.loc
  refine wJ _ _ af aJ m (cA.zl (ch:=bJ) J.os J.base J.bG J.bare fun b aa=>⟨(hf b aa).2.2.2.1,(hf b aa).2.1,(hf b aa).2.2.2.2.1,(hf b aa).2.2.2.2.2⟩) q aP J.free (ne_of_gt cA.lt) (.inr cA.e7) (fun y c e=>?_) fun p aF=>?_
  ·obtain⟨v,o,aC,_⟩:=cA.cell y c e
   exact jD c o aC
  ·exact jD _ _ (cA.pin p aF).1
 have loop:∀gY:Shared,gY={ s3 with heap:=fT }→codeAny (model X.prog X.w) X.A (.compLoop (.ListComp elt [⟨er,iter,[c],0⟩] scope pos) 0 (.ref it) (.ref s.heap.objs.size) (compEnvC scope cl s3.heap.objs.size X.env)) (RR (.ref s.heap.objs.size) s3.heap.objs.size) gY:=by
  rintro gY rfl
  refine Ho (fun k aJ=>∃i ys aQ af,Inv (ez X cY scope cl s3.heap.objs.size s3 (upd H s.heap.objs.size (.lst [])) bJ) pins (aQ++pick σ fr) af aJ∧aQ.length=m∧ek i aJ.heap∧(∀b∈bJ,af b=none)∧W i ys af∧k=n - i) ?_ n ⟨0,[],List.replicate m none,_,jY,length_replicate,kE,fun b aa=>?_,pY,rfl⟩
  ·rintro k aJ ⟨i,ys,aQ,af,fo,EA,gK,qX,en,rfl⟩
   rcases turn i ys af en with ⟨stop,q⟩ | ⟨go,nK,step⟩
   ·refine bU (T.done (ez X cY scope cl s3.heap.objs.size s3 (upd H s.heap.objs.size (.lst [])) bJ) rfl rfl rfl ai i pins aJ _ af (fun _ _=>False) fo (kB qX) gK stop) fun r s1 ⟨aD,a3⟩=>?_
    subst aD
    exact fin a3 q
   ·refine bU (T.item (ez X cY scope cl s3.heap.objs.size s3 (upd H s.heap.objs.size (.lst [])) bJ) rfl rfl rfl ai i pins aJ _ af (fun _ _=>False) fo (kB qX) gK go) fun r s1 ⟨u,aD,dA⟩=>?_
    subst aD
    refine bU dA fun _ s5 ⟨v,dC,qd,l4,sl,kD,r7⟩=>?_
    have se:=qd.pinned (kB r7) (T.obj _ _ kD)
    refine bU (cF _ _ _ _ s5 _ dC v u _ se l4 (step v _ aQ sl EA)) fun _ l1 ⟨AG,ed,sQ,hA,XO,aH,xh⟩=>?_
    subst aH
    have again:∀{hl:ao} {zs:List V} {jK:Shared},Inv (ez X cY scope cl s3.heap.objs.size s3 (upd H s.heap.objs.size (.lst [])) bJ) (pins++tr bJ s5.heap) (hA++pick σ fr) hl jK→W (i+1) zs hl →
      ∃k,k<n - i∧∃i ys aQ af,Inv (ez X cY scope cl s3.heap.objs.size s3 (upd H s.heap.objs.size (.lst [])) bJ) pins (aQ++pick σ fr) af jK∧aQ.length=m∧ek i jK.heap∧(∀b∈bJ,af b=none)∧W i ys af∧k=n - i:=fun {hl zs jK} kU Gf=>by
     refine⟨n - (i+1),by omega,i+1,zs,hA,_,kU.tc,XO,T.keep _ _ _ kD fun b aa o e=>(kU.pin (b,o) (mem_append_right _ (mem_append_right _ (qm aa e)))).1,fun b aa=>?_,Gf,rfl⟩
     obtain⟨o,e,d⟩:=T.obj _ _ kD b aa
     exact (kU.pin (b,o) (mem_append_right _ (mem_append_right _ (qm aa e)))).2.1
    refine bU (bo _ _ _ _ l1 _ _ _ sQ xh) fun ok Ed ⟨aar,w0,vY⟩=>?_
    cases ok with
    | false=>exact again w0 vY
    | true =>
     refine bU (he _ _ _ _ Ed _ _ _ w0 vY) fun y hE ⟨jI,dQ,jX,bQ,ec,hlen,pX⟩=>?_
     refine bU (ie _ hE _ dQ (.ref s.heap.objs.size) [jI] (.ref s.heap.objs.size) [y] (fun _ hl=>hl=upd dQ s.heap.objs.size (.lst (ys++[jI]))) jX rfl (.cons bQ .nil) ⟨_,ys,jI,rfl,rfl,ec,hlen,rfl⟩) fun _ jK ⟨_,hl,kU,_,kR⟩=>?_
     subst kR
     exact again kU pX
  ·obtain⟨o,e,_⟩:=T.obj 0 _ st b aa
   rw[aA (ne_of_lt (lt_size e))]
   exact (hf b aa).1
 have b1:({ s with heap:=fT,toks:=s.toks+([]:List (Str × Value)).length }:Shared)={ s3 with heap:=fT }:=by rw[←qP];rfl
 rw[b1]
 exact codeAny_compStart_list (loop _ rfl) (T.self _ 0 _ _ _ kE (loop _ rfl))
section
variable {X:bI}{y:Str}{py pos tE:Pos}{er:Expr}{g:h_}{m:Nat}{elt iter c:Expr}{scope:Scope}{cl:List (Str × Addr)}{cY:List Str}{fr:List Nat}{gh:TI}{b2:TE}{tt:TT}
def Vw (gh:TI) (m:Nat) (g:h_) (fr:List Nat) (tt:TT) (b2:TE):TE:=fun σ H Q=>gh σ H fun J H1=>∀acc,H1 acc=none→DC J m g tt b2 (pick σ fr) Q H1 acc
def VF (i:Nat) (gh:TI) (m:Nat) (g:h_) (fr:List Nat) (tt:TT) (b2:TE):fW:=fun D σ H=>Vw gh m g fr tt b2 σ H fun v H1=>D.da (σ.set i (some v)) H1
theorem TP {i:Nat}(fr:List Nat) (cY:List Str) (f_:X.N.Nodup) (jg:X.N[i]?=some y) (ck:X.env.kindOf y=some .local) (B:vU X m fr cY scope cl) (ai:X.calm=true) (aL:o7 X er iter gh)
  (cF:∀C aJ af bJ,o8 (ez X cY scope cl C aJ af bJ) er g) (bo:∀C aJ af bJ,gQ (ez X cY scope cl C aJ af bJ) c tt) (he:∀C aJ af bJ,b9 (ez X cY scope cl C aJ af bJ) elt b2) (EK:swapsWith (.ListComp elt [⟨er,iter,[c],0⟩] scope pos) (some (.Name y py)) tE.line X.env=pure true:=by rfl) (aY:∀x,foldedSetIterable iter X.env x=pure x:=by intro _;rfl) :
  kp X (.Assign [.Name y py] (.ListComp elt [⟨er,iter,[c],0⟩] scope pos) tE) (VF i gh m g fr tt b2):=by
 intro pins s σ H D I h
 rw[exec_Assign_Name_used _ _ _ _ EK]
 refine wpAny_bind (wpAny_standAt (wpAny_bind ?_))
 show wpAny _ X.A (do let _ ← comprehension (.ListComp elt [⟨er,iter,[c],0⟩] scope pos) scope X.env _ (newList []) false (eval iter X.env) (some (assign (.Name y py) X.env))) _ _ s
 refine wpAny_bind (wpAny_mono (wpAny_comprehension_free (use:=some (assign (.Name y py) X.env)) (Q:=fun _ aJ=>qc X pins D .next aJ) rfl aY B.qF B.kind B.names (bU (aL pins s σ H _ I h) fun v s1 ak=>bU ak fun tV s2 az=>?_))
  (fun _ aJ bo=>wpAny_pure (wpAny_pure bo)) fun _ _ e=>e)
 obtain⟨it,bJ,ek,J,ay,e,cL,T,pL,f2,aW⟩:=az
 subst e
 refine Sm (RR:=fun acc C=>compPost (model X.prog X.w) X.A X.dN (some (assign (.Name y py) X.env)) (fun _ aJ=>qc X pins D .next aJ) acc C) B ai cL T pL f2 (fun C aJ af=>cF C aJ af bJ) (fun C aJ af=>bo C aJ af bJ) (fun C aJ af=>he C aJ af bJ) aW ?_
 intro acc C af aJ m fo q aP h0 ak cz dA gz
 show wpAny _ X.A (assign (.Name y py) X.env (.ref acc)) _ _ _
 refine wpAny_assign_Name (BK (v:=.ref acc) fo f_ jg (.inl ck) rfl (fun rW Fp EL=>?_) (.inr ck))
 obtain⟨a,jJ,bk⟩:=EL
 have E4:C≠a:=by
  rcases bk with z | z
  ·rw[z];exact ak
  ·exact Ne.symm (dA _ _ z)
 refine⟨m,aP.sameBut jJ E4,fun h' D_=>⟨_,af,Fp.turned (t':=rW.toks) (fun b o aa e=>(D_.2 b aa).trans e) h0 ak cz dA gz,q⟩⟩
end
def bN.D:bN→D
 | .put d p o n=>.tup [.str "put",.int d,.int (p:Nat),.int o,.int n]
 | .fin d=>.tup [.str "end",.int d]
inductive bp where
 | line (ln:bN)
 | d9 (p:Nat) (n:Int)
 | cut (k:Nat)
def bp.D:bp→D
 | .line ln=>.tup [.str "line",ln.D]
 | .d9 p n=>.tup [.str "page",.int (p:Nat),.int n]
 | .cut k=>.tup [.str "cut",.int (k:Nat)]
inductive b7 where
 | begin
 | put (d p n:Int)
 | fin (d:Int)
 | drop (d:Int)
 | look (p:Int)
 | carry (p:Int)
 | cut
def b7.D:b7→D
 | .begin=>.tup [.str "begin"]
 | .put d p n=>.tup [.str "put",.int d,.int p,.int n]
 | .fin d=>.tup [.str "end",.int d]
 | .drop d=>.tup [.str "drop",.int d]
 | .look p=>.tup [.str "look",.int p]
 | .carry p=>.tup [.str "carry",.int p]
 | .cut=>.tup [.str "cut"]
inductive cW where
 | num (i:Int)
 | word (x:Str)
def cW.D:cW→D
 | .num i=>.int i
 | .word x=>.str x
def cW.v:cW→V
 | .num i=>.int i
 | .word x=>.str x
mutual
def D.flat:D→Bool
 | .int _=>true
 | .str _=>true
 | .tup l=>qz l
 | .lst _=>false
def qz:List D→Bool
 | []=>true
 | d::r=>d.flat && qz r
end
mutual
theorem Rep.keep {H af:ao}(k:eh H af):∀(d:D) (v:V),d.flat=true→Rep H d v→Rep af d v
 | .int _,_,_,h=>h
 | .str _,_,_,h=>h
 | .tup l,_,f,h=>by
  unfold Rep at h ⊢
  obtain⟨a,xs,e,q,r⟩:=h
  unfold D.flat at f
  exact⟨a,xs,e,k _ _ q,bl.keep k l xs f r⟩
 | .lst l,_,f,_=>by unfold D.flat at f;cases f
theorem bl.keep {H af:ao}(k:eh H af):∀(l:List D) (xs:List V),qz l=true→bl H l xs→bl af l xs
 | [],_,_,h=>h
 | d::r,_,f,h=>by
  unfold bl at h ⊢
  unfold qz at f
  rw[and_eq_true]at f
  obtain⟨x,t,e,q,z⟩:=h
  exact⟨x,t,e,Rep.keep k d x f.1 q,bl.keep k r t f.2 z⟩
end
theorem eK {α:Type}{f:α→D}(h:∀a,(f a).flat=true):∀l:List α,qz (l.map f)=true
 | []=>by unfold qz;rfl
 | a::r=>by
  rw[map_cons]
  unfold qz
  rw[h a,eK h r]
  rfl
theorem bp.gD (s:bp):s.D.flat=true:=by
 cases s with
 | line ln=>cases ln <;> rfl
 | d9 p n=>rfl
 | cut k=>rfl
theorem b7.gD (d:b7):d.D.flat=true:=by cases d <;> rfl
theorem qp {H:ao}{a:D}{v:V}(h:Rep H (.tup [a]) v):∃c x,v=.ref c∧H c=some (.tup [x])∧Rep H a x:=by
 obtain⟨c,xs,rfl,ai,r⟩:=h.rx
 obtain⟨x,t,rfl,ak,r⟩:=r.inv
 cases r.lP
 exact⟨c,x,rfl,ai,ak⟩
theorem f7 {H:ao}{a b:D}{v:V}(h:Rep H (.tup [a,b]) v):∃c x y,v=.ref c∧H c=some (.tup [x,y])∧Rep H a x∧Rep H b y:=by
 obtain⟨c,xs,rfl,ai,r⟩:=h.rx
 obtain⟨x,t,rfl,ak,r⟩:=r.inv
 obtain⟨y,t,rfl,az,r⟩:=r.inv
 cases r.lP
 exact⟨c,x,y,rfl,ai,ak,az⟩
theorem yD {H:ao}{a b d:D}{v:V}(h:Rep H (.tup [a,b,d]) v):∃c x y z,v=.ref c∧H c=some (.tup [x,y,z])∧Rep H a x∧Rep H b y∧Rep H d z:=by
 obtain⟨c,xs,rfl,ai,r⟩:=h.rx
 obtain⟨x,t,rfl,ak,r⟩:=r.inv
 obtain⟨y,t,rfl,az,r⟩:=r.inv
 obtain⟨z,t,rfl,cz,r⟩:=r.inv
 cases r.lP
 exact⟨c,x,y,z,rfl,ai,ak,az,cz⟩
theorem yC {H:ao}{a b d e:D}{v:V}(h:Rep H (.tup [a,b,d,e]) v):∃c x y z u,v=.ref c∧H c=some (.tup [x,y,z,u])∧Rep H a x∧Rep H b y∧Rep H d z∧Rep H e u:=by
 obtain⟨c,xs,rfl,ai,r⟩:=h.rx
 obtain⟨x,t,rfl,ak,r⟩:=r.inv
 obtain⟨y,t,rfl,az,r⟩:=r.inv
 obtain⟨z,t,rfl,cz,r⟩:=r.inv
 obtain⟨u,t,rfl,dA,r⟩:=r.inv
 cases r.lP
 exact⟨c,x,y,z,u,rfl,ai,ak,az,cz,dA⟩
theorem TG {H:ao}{a b d e f:D}{v:V}(h:Rep H (.tup [a,b,d,e,f]) v):∃c x y z u w,v=.ref c∧H c=some (.tup [x,y,z,u,w])∧Rep H a x∧Rep H b y∧Rep H d z∧Rep H e u∧Rep H f w:=by
 obtain⟨c,xs,rfl,ai,r⟩:=h.rx
 obtain⟨x,t,rfl,ak,r⟩:=r.inv
 obtain⟨y,t,rfl,az,r⟩:=r.inv
 obtain⟨z,t,rfl,cz,r⟩:=r.inv
 obtain⟨u,t,rfl,dA,r⟩:=r.inv
 obtain⟨w,t,rfl,gz,r⟩:=r.inv
 cases r.lP
 exact⟨c,x,y,z,u,w,rfl,ai,ak,az,cz,dA,gz⟩
theorem je.zf {H:ao}{ln:bN}{x:V}(h:Rep H ln.D x):je H ln x:=by
 cases ln with
 | put d p o n =>
  obtain⟨c,x1,x2,aa6,adV,adU,rfl,ai,ak,az,cz,dA,gz⟩:=TG h
  cases ak.str_inv
  cases az.int_inv
  cases cz.int_inv
  cases dA.int_inv
  cases gz.int_inv
  exact⟨c,rfl,ai⟩
 | fin d =>
  obtain⟨c,x1,x2,rfl,ai,ak,az⟩:=f7 h
  cases ak.str_inv
  cases az.int_inv
  exact⟨c,rfl,ai⟩
structure aq where
 b_:List Int
 av:List Int
 log:List bN
 aK:List (Int × List (Nat × Int))
 room:Int
 begun:Nat
 c7:List bp
namespace aq
def isOpen (h:aq) (d:Int):Bool:=h.aK.any fun z=>z.1 == d
def bound (h:aq):Int:=(h.aK.map fun z=>(z.2.length:Int)+1).sum
def c5 (h:aq) (d:Int):List (Nat × Int):=((h.aK.find? fun z=>z.1 == d).map (·.2)).getD []
def dK (h:aq) (p:Nat):Option Int:=(h.aK.find? fun z=>z.2.any fun y=>y.1 == p).map (·.1)
def c9 (h:aq) (s:bp):aq:=match s with
 | .line ln=>{ h with c7:=h.c7++[s],log:=h.log++[ln] }
 | .d9 p n=>{ h with c7:=h.c7++[s],b_:=h.b_.set p n }
 | .cut k=>{ h with c7:=h.c7++[s],log:=h.log.drop k }
end aq
def ep (ce aj:List Int) (op:Int→Bool):List bN→Nat
 | []=>0
 | .fin _::r=>ep ce aj op r+1
 | .put d p _ _::r=>if op d=true∨(r.any (iR p)=false∧ce[p]?≠aj[p]?) then 0 else ep ce aj op r+1
namespace aq
def dS (h:aq):aq:=if 0<ep h.b_ h.av h.isOpen h.log then h.c9 (.cut (ep h.b_ h.av h.isOpen h.log)) else h
def dZ (h:aq) (p:Nat):aq:=if h.b_[p]?=h.av[p]? then h else h.c9 (.d9 p (h.av.getD p 0))
def hx (h:aq) (more:Int):Bool:=decide ((h.log.length:Int)+h.bound+more≤h.room)
def gd (h:aq):aq:=((List.range h.av.length).foldl dZ h).dS
def full (h:aq) (more:Int):aq × Bool:=if h.hx more=true then (h,false) else (h.gd, !h.gd.hx more)
def putIn (h:aq) (d:Int) (p:Nat) (n:Int):aq:={ h.c9 (.line (.put d p (h.av.getD p 0) n)) with av:=h.av.set p n }
def dM (h:aq) (d:Int):aq:=(h.c5 d).reverse.foldl (fun h z=>h.putIn d z.1 z.2) h
def fC (h:aq) (d:Int):aq:={ h.c9 (.line (.fin d)) with aK:=h.aK.filter fun z=>z.1 != d }
def c1 (h:aq) (d:Int) (p:Nat):aq:={ h with aK:=h.aK.map fun z=>if z.1=d then (z.1,z.2++[(p,h.av.getD p 0)]) else z }
def began (h:aq):aq:={ h with begun:=h.begun+1 }
def opened (h:aq):aq:={ h with aK:=h.aK++[(((h.begun:Int) - 1),[])] }
def refusal (h:aq):b7→Option Str
 | .begin=>none
 | .put d p _=>if h.isOpen d=false then some "no dealing" else if p<0∨(h.av.length:Int)≤p then some "no page" else if h.dK p.toNat=none∨h.dK p.toNat=some d then none else some "taken"
 | .fin d=>if h.isOpen d=false then some "no dealing" else none
 | .drop d=>if h.isOpen d=false then some "no dealing" else none
 | .look p=>if p<0∨(h.av.length:Int)≤p then some "no page" else none
 | .carry p=>if p<0∨(h.av.length:Int)≤p then some "no page" else none
 | .cut=>none
def gg (h:aq):b7→aq × cW
 | .begin=>if (h.began.full 1).2=true then ((h.began.full 1).1,.word "no room") else ((h.began.full 1).1.opened,.num h.begun)
 | .put d p n=>if (h.full 2).2=true then ((h.full 2).1,.word "no room") else ((((h.full 2).1.c1 d p.toNat).putIn d p.toNat n),.word "done")
 | .fin d=>(h.fC d,.word "done")
 | .drop d=>((h.dM d).fC d,.word "done")
 | .look p=>(h,.num (h.av.getD p.toNat 0))
 | .carry p=>(h.dZ p.toNat,.word "done")
 | .cut=>(h.dS,.word "done")
def a4 (h:aq) (x:b7):aq × cW:=match h.refusal x with
 | some w=>(h,.word w)
 | none=>h.gg x
end aq
open PySem
theorem Vq {ns:List Int}{i:Nat}{v:Int}(h:ns[i]?=some v):nQ (ns.map V.int) ((i:Nat):Int)=some (.int v):=fh (rp h)
def iu (ps bM:List Int):Nat→List bp
 | 0=>[]
 | i+1=>iu ps bM i++(if bM[i]?=ps[i]? then [] else [bp.d9 i ((bM[i]?).getD 0)])
def nA (n:Nat):List bp:=if n=0 then [] else [.cut n]
def lR (ps bM:List Int) (n:Nat):List bp:=iu ps bM bM.length++nA n
theorem Iz (ps bM:List Int):∀i,(iu ps bM i).length≤i
 | 0=>le_refl _
 | i+1=>by
  have:=Iz ps bM i
  show (iu ps bM i++_).length≤_
  rw[length_append]
  split
  ·rw[length_nil];omega
  ·rw[length_singleton];omega
theorem Uw (n:Nat):(nA n).length≤1:=by
 unfold nA
 split
 ·exact zero_le _
 ·exact le_refl _
theorem UE (ps bM:List Int) (n:Nat):(lR ps bM n).length≤bM.length+1:=by
 unfold lR
 rw[length_append]
 have:=Iz ps bM bM.length
 have:=Uw n
 omega
theorem HR {ps bM:List Int}{i:Nat}{k:Int}(ak:bM[i]?=some k) (az:ps[i]?=some k):iu ps bM (i+1)=iu ps bM i:=by
 show iu ps bM i++(if bM[i]?=ps[i]? then [] else _)=_
 rw[if_pos (ak.trans az.symm),append_nil]
theorem HS {ps bM:List Int}{i:Nat}{k p:Int}(ak:bM[i]?=some k) (az:ps[i]?=some p) (h:¬k=p):iu ps bM (i+1)=iu ps bM i++[.d9 i k]:=by
 show iu ps bM i++(if bM[i]?=ps[i]? then [] else _)=_
 rw[if_neg (by rw[ak,az];exact fun z=>h (Option.some.inj z)),ak]
 rfl
theorem Jb {H:ao}{a:Addr}{p:Nat}{n:Int}(h:H a=some (.tup [.str "page",.int (p:Nat),.int n])):Rep H (bp.d9 p n).D (.ref a) :=
 Rep.g9 h (.cons .ofStr (.cons .ofInt (.cons .ofInt .nil)))
theorem JS {H:ao}{a:Addr}{k:Nat}(h:H a=some (.tup [.str "cut",.int (k:Nat)])):Rep H (bp.cut k).D (.ref a) :=
 Rep.g9 h (.cons .ofStr (.cons .ofInt .nil))
theorem Ip {H:ao}{l:List bp}{s:bp}{zs:List V}{v:V}(h:bl H (l.map bp.D) zs) (r:Rep H s.D v):bl H ((l++[s]).map bp.D) (zs++[v]):=by
 rw[map_append]
 exact h.append (.cons r .nil)
theorem Hj (l:List bp):qz (l.map bp.D)=true:=eK bp.gD l
theorem Hw:∀l:List bp,fs (l.map bp.D)≤l.length * 8
 | []=>by rw[map_nil,nh];exact zero_le _
 | s::r=>by
  have:=Hw r
  rw[map_cons,oj,length_cons]
  have h:s.D.e7≤8:=by
   cases s with
   | line ln=>cases ln <;> exact le_of_ble_eq_true rfl
   | d9 p n=>exact le_of_ble_eq_true rfl
   | cut k=>exact le_of_ble_eq_true rfl
  omega
theorem R4 {K:PySem.W.Frag}{l6:Addr}{bM ps:List Int}{tt:TT}{b2:TE}{bA:St}{Q:cD}{H:ao}{acc:Addr}(aP:H l6=some (.lst (bM.map V.int))) (h0:H acc=none) (hz:bM.length≤1000) (aE:bM.length=ps.length)
  (aZ:∀(i:Nat) (k p:Int) aT (c:Bool→ao→Prop),bM[i]?=some k→ps[i]?=some p→bO H aT→c (!decide (V.int k=V.int p)) aT→tt (some (.int (i:Nat))::some (.int k)::bA) aT c)
  (he:∀(i:Nat) (k:Int) aT (c:cD),bO H aT→(∀a,aT a=none→c (.ref a) (upd aT a (.tup [.str "page",.int (i:Nat),.int k])))→b2 (some (.int (i:Nat))::some (.int k)::bA) aT c)
  (q:∀(ys:List V) (af:ao),bO H af→af acc=some (.lst ys)→bl af ((iu ps bM bM.length).map bp.D) ys→ys.length≤bM.length→Q (.ref acc) af):DC (uf K l6) 2 (D1 K 2 (DB (vv 0) (DB (vv 1) Mg))) tt b2 bA Q H acc:=by
 refine⟨bM.length,fun i ys ay=>i≤bM.length∧bO H ay∧ay acc=some (.lst ys)∧ys.length≤i∧bl ay ((iu ps bM i).map bp.D) ys,⟨zero_le _,bR h0 _,aR,le_refl _,.nil⟩,?_⟩
 rintro i ys ay ⟨aL,c6,ec,gx,aD⟩
 have qR:=c6 _ _ aP
 by_cases c8:i<bM.length
 ·have aS:bM[i]?=some bM[i]:=getElem?_eq_getElem c8
  have aF:ps[i]?=some (ps[i]'(by omega)):=getElem?_eq_getElem (by omega)
  generalize bM[i]=k at aS
  generalize ps[i]'(by omega)=p at aF
  refine .inr ⟨⟨_,.int k,aO.of qR,rp aS⟩,c8,?_⟩
  rintro v aT aQ ⟨pr,x,Ek,rfl,rfl,bh⟩ EA
  have ex:x=.int k:=by
   have:=bh _ (aO.of qR)
   rw[rp aS]at this
   exact (Option.some.inj this).symm
  subst ex
  obtain⟨t1,eE,rfl⟩:∃t1 eE,aQ=[t1,eE]:=by
   match aQ,EA with
   | [a,b],_=>exact⟨a,b,rfl⟩
  refine⟨pr,_,rfl,aG.of aR,rfl,_,_,rfl,_,_,rfl,rfl,[some (.int (i:Nat)),some (.int k)],rfl,rfl,?_⟩
  have s3:=c6.trans (bR Ek (.tup [.int (i:Nat),.int k]))
  have vR:=(bR Ek (.tup [.int (i:Nat),.int k])) _ _ ec
  have h4:=bl.mono (bR Ek (.tup [.int (i:Nat),.int k])) _ _ aD
  generalize upd ay pr (.tup [.int (i:Nat),.int k])=aT at s3 vR h4 ⊢
  refine aZ i k p aT _ aS aF s3 ?_
  by_cases e:k=p
  ·subst e
   have d:(!decide (V.int k=V.int k))=false:=by rw[decide_eq_true rfl];rfl
   rw[d]
   refine cV ⟨c8,s3,vR,by omega,?_⟩
   rw[HR aS aF]
   exact h4
  ·have d:(!decide (V.int k=V.int p))=true:=by rw[decide_eq_false (fun z=>e (by injection z))];rfl
   rw[d]
   refine el (he i k aT _ s3 fun a bk=>?_)
   have YY:a≠acc:=(cB vR bk).symm
   have s4:=bR bk (.tup [.str "page",.int (i:Nat),.int k])
   refine⟨s4 _ _ vR,lt_of_le_of_lt (by omega:ys.length≤1000) (by decide),c8,(s3.trans s4).ig h0,aR,by rw[length_append,length_singleton];omega,?_⟩
   rw[HS aS aF e]
   have kt:eh (upd aT a (.tup [.str "page",.int (i:Nat),.int k])) (upd (upd aT a (.tup [.str "page",.int (i:Nat),.int k])) acc (.lst (ys++[.ref a]))):=fun b xs aa=>by
    rw[aA (dv aa (s4 _ _ vR) (fun z=>nomatch z))]
    exact aa
   refine Ip (bl.keep kt _ _ (Hj _) (bl.mono s4 _ _ h4)) (Jb ?_)
   rw[aA YY,aR]
 ·have e:i=bM.length:=by omega
  subst e
  exact .inl ⟨⟨_,aO.of qR,by rw[length_map];exact le_refl _⟩,q ys ay c6 ec aD gx⟩
inductive iL where
 | line (v:V)
 | d9 (p:Nat) (n:Int)
 | cut (k:Int)
def D4 (H:ao):iL→V→Prop
 | .line v,x=>∃a,x=.ref a∧H a=some (.tup [.str "line",v])
 | .d9 p n,x=>∃a,x=.ref a∧H a=some (.tup [.str "page",.int (p:Nat),.int n])
 | .cut k,x=>∃a,x=.ref a∧H a=some (.tup [.str "cut",.int k])
def iL.ok (c:Nat):iL→Prop
 | .d9 p _=>p<c
 | _=>True
def iL.ct (ps:List V):iL→List V
 | .d9 p n=>ps.set p (.int n)
 | _=>ps
def iL.dX (ls:List V):iL→List V
 | .line v=>ls++[v]
 | .cut k=>eX ls (some k) none
 | _=>ls
inductive Fj (H:ao):List iL→List V→Prop where
 | nil:Fj H [] []
 | snoc {MC:List iL} {xs:List V} {fQ:iL} {x:V} (h:Fj H MC xs) (q:D4 H fQ x):Fj H (MC++[fQ]) (xs++[x])
theorem IM {α β:Type}(f:β→α→β) (b:β) (l:List α) (i:Nat) (x:α) (h:l[i]?=some x):(l.take (i+1)).foldl f b=f ((l.take i).foldl f b) x:=by
 rw[take_add_one,h,foldl_append]
 rfl
theorem W3:¬(V.str "cut"=V.str "page"):=by decide +kernel
theorem C4:¬(("pages":Str)="log"):=by decide +kernel
def lO (ct dX:Addr):List (Str × V):=d5 "log" (.ref dX) (d5 "pages" (.ref ct) [])
theorem Ca (ct dX:Addr):lO ct dX=([("pages",V.ref ct),("log",V.ref dX)]:List (Str × V)):=by
 show (if ("pages":Str)="log" then [(("pages":Str),V.ref dX)] else (("pages":Str),V.ref ct)::d5 "log" (V.ref dX) [])=_
 rw[if_neg C4]
 rfl
theorem Bu (ct dX:Addr):(lO ct dX).lookup ("pages":Str)=some (.ref ct):=by
 unfold lO
 rw[rq,if_neg C4,rq,if_pos rfl]
theorem yx (ct dX:Addr):(lO ct dX).lookup ("log":Str)=some (.ref dX):=by
 unfold lO
 rw[rq,if_pos rfl]
theorem Uy (ct dX:Addr) {m:Str}(ak:¬m="log") (az:¬m="pages"):(lO ct dX).lookup m=none:=by
 unfold lO
 rw[rq,if_neg ak,rq,if_neg az]
 rfl
theorem Tj (ct dX mQ:Addr):d5 "log" (.ref mQ) (lO ct dX)=lO ct mQ:=by
 rw[Ca,Ca]
 show (if ("pages":Str)="log" then _ else (("pages":Str),V.ref ct)::(if ("log":Str)="log" then [(("log":Str),V.ref mQ)] else _))=_
 rw[if_neg C4,if_pos rfl]
structure y5 (C:Addr) (H:ao) (c ct dX:Addr) (ps ls:List V):Prop where
 bY:∃dx,H c=some (.ins C dx (lO ct dX))
 aF:H ct=some (.lst ps)
 aE:H dX=some (.lst ls)
 ne:ct≠dX
structure qo (K:PySem.W.Frag) (mg:Str→Option Value) (C:Addr):Prop where
 cl:lq K C
 AQ:jx K C "pages"
 uq:jx K C "log"
 Es:mg "Cellar"=some (.ref C)
def Cg (C:Addr):dj:=fun vs H Q _=>∃(c dx a b:Addr) (ps ls:List V),vs=[.ref c,.ref a,.ref b]∧H c=some (.ins C dx [])∧H a=some (.lst ps)∧H b=some (.lst ls) ∧
 ∀(ct dX:Addr) (af:ao),H ct=none→H dX=none→y5 C af c ct dX ps ls→(∀b o,H b=some o→b≠c→af b=some o)→Q .cP af
def sJ (ps:List Int) (log:List bN) (bM:List Int):Prop:=bM.length=ps.length∧∀(q:Nat) (v:Int),ps[q]?=some v→bM[q]?=some (vp log q v)
theorem sJ.uniq {ps:List Int}{log:List bN}{bM Oh:List Int}(h:sJ ps log bM) (h':sJ ps log Oh):Oh=bM:=by
 refine List.ext_getElem? fun q=>?_
 by_cases bo:q<ps.length
 ·rw[h.2 q _ (getElem?_eq_getElem bo),h'.2 q _ (getElem?_eq_getElem bo)]
 ·rw[getElem?_eq_none (by rw[h'.1];omega),getElem?_eq_none (by rw[h.1];omega)]
def tS (ps:List Int):bp→List Int
 | .d9 p n=>ps.set p n
 | _=>ps
theorem UY (ps:List Int) (s:bp):(tS ps s).length=ps.length:=by
 cases s with
 | d9 p n=>exact length_set ..
 | line _=>rfl
 | cut _=>rfl
theorem Jd:∀(l:List bp) (ps:List Int),(l.foldl tS ps).length=ps.length
 | [],_=>rfl
 | s::r,ps=>by rw[foldl_cons,Jd r,UY]
theorem IA {ps bM:List Int}(aE:bM.length=ps.length):∀i,i≤bM.length→∀q:Nat,((iu ps bM i).foldl tS ps)[q]?=if q<i then bM[q]? else ps[q]?
 | 0,_,q=>by
  rw[if_neg (not_lt_zero _)]
  rfl
 | i+1,aL,q=>by
  have cC:=IA aE i (by omega)
  have aS:bM[i]?=some bM[i]:=getElem?_eq_getElem (by omega)
  have aF:ps[i]?=some (ps[i]'(by omega)):=getElem?_eq_getElem (by omega)
  generalize bM[i]=k at aS
  generalize ps[i]'(by omega)=p at aF
  by_cases e:k=p
  ·subst e
   rw[HR aS aF,cC q]
   by_cases bo:q<i
   ·rw[if_pos bo,if_pos (by omega)]
   ·rw[if_neg bo]
    by_cases z:q=i
    ·subst z
     rw[if_pos (by omega),aS,aF]
    ·rw[if_neg (by omega)]
  ·rw[HS aS aF e,foldl_append]
   show (((iu ps bM i).foldl tS ps).set i k)[q]?=_
   by_cases z:q=i
   ·subst z
    rw[if_pos (by omega),aS,getElem?_set_self (by rw[Jd];omega)]
   ·rw[getElem?_set_ne (Ne.symm z),cC q]
    by_cases bo:q<i
    ·rw[if_pos bo,if_pos (by omega)]
    ·rw[if_neg bo,if_neg (by omega)]
theorem Sa {ps bM:List Int}(aE:bM.length=ps.length):(iu ps bM bM.length).foldl tS ps=bM:=by
 refine List.ext_getElem? fun q=>?_
 rw[IA aE _ (le_refl _)]
 by_cases bo:q<bM.length
 ·rw[if_pos bo]
 ·rw[if_neg bo,getElem?_eq_none (by omega),getElem?_eq_none (by omega)]
theorem Iv {ps bM:List Int}:∀{i:Nat}{s:bp},s∈iu ps bM i→i≤bM.length→∃q k,s=.d9 q k∧q<i∧bM[q]?=some k
 | 0,s,h,_=>by cases h
 | i+1,s,h,aL=>by
  rcases mem_append.mp h with z | z
  ·obtain⟨q,k,e,ak,az⟩:=Iv z (by omega)
   exact⟨q,k,e,by omega,az⟩
  ·have aS:bM[i]?=some bM[i]:=getElem?_eq_getElem (by omega)
   rw[aS]at z
   split at z
   ·cases z
   ·rw[mem_singleton.mp z]
    exact⟨i,bM[i],rfl,by omega,aS⟩
theorem Io {H:ao}:∀{l:List D}{zs:List V}(j:Nat),bl H l zs→bl H (l.take j) (zs.take j)
 | [],zs,j,h=>by
  rw[h.lP,take_nil,take_nil]
  exact .nil
 | d::r,zs,0,h=>by
  rw[List.take_zero,List.take_zero]
  exact .nil
 | d::r,zs,j+1,h=>by
  obtain⟨x,t,rfl,ak,az⟩:=h.inv
  rw[List.take_succ_cons,List.take_succ_cons]
  exact .cons ak (Io j az)
theorem Wf (xs:List V) (k:Nat):eX xs none (some (k:Int))=xs.take k:=by
 by_cases h:k≤xs.length
 ·rw[H2 (by omega) (by omega)]
  rfl
 ·unfold eX
  rw[gm.yz,gm.Cq,Nat.min_eq_right (by omega),drop_zero,sub_zero,take_length,take_of_length_le (by omega)]
def aS (ce aj lo pu st:Addr) (room begun:Int):List (Key × V):=[(Sum.inr "cellar",.ref ce),(Sum.inr "desk",.ref aj),(Sum.inr "log",.ref lo),(Sum.inr "puts",.ref pu),(Sum.inr "room",.int room),(Sum.inr "begun",.int begun),(Sum.inr "strokes",.ref st)]
section
variable (ce aj lo pu st lo' gK:Addr) (room begun KV:Int)
theorem S8:dw (aS ce aj lo pu st room begun) (Sum.inr "cellar")=some (.ref ce):=by kernel_rfl
theorem Vi:dw (aS ce aj lo pu st room begun) (Sum.inr "desk")=some (.ref aj):=by kernel_rfl
theorem V9:dw (aS ce aj lo pu st room begun) (Sum.inr "log")=some (.ref lo):=by kernel_rfl
theorem Vh:dw (aS ce aj lo pu st room begun) (Sum.inr "puts")=some (.ref pu):=by kernel_rfl
theorem Vg:dw (aS ce aj lo pu st room begun) (Sum.inr "room")=some (.int room):=by kernel_rfl
theorem Up:dw (aS ce aj lo pu st room begun) (Sum.inr "begun")=some (.int begun):=by kernel_rfl
theorem Si:dw (aS ce aj lo pu st room begun) (Sum.inr "strokes")=some (.ref st):=by kernel_rfl
theorem II:putK (aS ce aj lo pu st room begun) (Sum.inr "log") (.ref lo')=aS ce aj lo' pu st room begun:=by kernel_rfl
theorem HG:putK (aS ce aj lo pu st room begun) (Sum.inr "begun") (.int KV)=aS ce aj lo pu st room KV:=by kernel_rfl
theorem RG:putK (aS ce aj lo pu st room begun) (Sum.inr "strokes") (.ref gK)=aS ce aj lo pu gK room begun:=by kernel_rfl
end
def pairD (z:Nat × Int):D:=.tup [.int (z.1:Nat),.int z.2]
theorem hn (z:Nat × Int):(pairD z).flat=true:=rfl
def d3 (pl:List (Int × Addr)):List (Key × V):=pl.map fun z=>(Sum.inl z.1,V.ref z.2)
def own (h ce aj pu st:Addr) (pl:List (Int × Addr)):List Addr:=h::ce::aj::pu::st::pl.map (·.2)
structure bw (H:ao) (h ce aj lo pu st:Addr) (pl:List (Int × Addr)) (x:aq):Prop where
 dt:H h=some (.bS (aS ce aj lo pu st x.room x.begun))
 ai:H ce=some (.lst (x.b_.map V.int))
 hd:H aj=some (.lst (x.av.map V.int))
 aE:∃xs,H lo=some (.lst xs)∧gT H x.log xs
 aF:H pu=some (.bS (d3 pl))
 e1:pl.map (·.1)=x.aK.map (·.1)
 ah:∀(i:Nat) z w,pl[i]?=some z→x.aK[i]?=some w→∃ys,H z.2=some (.lst ys)∧bl H (w.2.map pairD) ys
 bK:(x.aK.map (·.1)).Nodup
 fQ:∃zs,H st=some (.lst zs)∧bl H (x.c7.map bp.D) zs
 ap:(own h ce aj pu st pl).Nodup
 nl:lo∉own h ce aj pu st pl
 cd:x.b_.length=x.av.length
def gX (gv:List Addr) (H af:ao):Prop:=∀b o,b∉gv→H b=some o→af b=some o
theorem gX.refl (gv:List Addr) (H:ao):gX gv H H:=fun _ _ _ h=>h
theorem gX.trans {gv:List Addr}{H H1 ay:ao}(a:gX gv H H1) (b:gX gv H1 ay):gX gv H ay:=fun c o ai h=>b c o ai (a c o ai h)
theorem bO.ew {gv:List Addr}{H af:ao}(s:bO H af):gX gv H af:=fun b o _ h=>s b o h
theorem kv {gv:List Addr}{H:ao}{a:Addr}{o:fp}(h:a∈gv):gX gv H (upd H a o):=fun b u aa q=>by
 rw[aA (fun e=>aa (by rw[e];exact h))]
 exact q
section
variable {H af:ao}{h ce aj lo pu st:Addr}{pl:List (Int × Addr)}{x:aq}
theorem bw.same (A:bw H h ce aj lo pu st pl x) (s:bO H af):bw af h ce aj lo pu st pl x:=by
 obtain⟨xs,aH,aM⟩:=A.aE
 obtain⟨zs,bT,b1⟩:=A.fQ
 refine⟨s _ _ A.dt,s _ _ A.ai,s _ _ A.hd,⟨xs,s _ _ aH,aM.mono fun a y q=>q.mono s.e5⟩,s _ _ A.aF,A.e1,fun i z w a b=>?_,A.bK,⟨zs,s _ _ bT,bl.mono s _ _ b1⟩,A.ap,A.nl,A.cd⟩
 obtain⟨ys,bx,aW⟩:=A.ah i z w a b
 exact⟨ys,s _ _ bx,bl.mono s _ _ aW⟩
theorem bw.ne (A:bw H h ce aj lo pu st pl x):h≠ce∧h≠aj∧h≠pu∧h≠st∧ce≠aj∧ce≠pu∧ce≠st∧aj≠pu∧aj≠st∧pu≠st∧lo≠h∧lo≠ce∧lo≠aj∧lo≠pu∧lo≠st∧(∀z∈pl,z.2≠h∧z.2≠ce∧z.2≠aj∧z.2≠pu∧z.2≠st∧z.2≠lo):=by
 have ap:=A.ap
 have nl:=A.nl
 unfold own at ap nl
 simp only[nodup_cons,mem_cons,not_or]at ap nl
 obtain⟨⟨a1,a2,kS,rg,xT⟩,⟨fK,iI,qb,abD⟩,⟨e3,g5,n7⟩,⟨Q6,A0⟩,et,_⟩:=ap
 obtain⟨gy,iE,p3,l7,m5,sy⟩:=nl
 refine⟨a1,a2,kS,rg,fK,iI,qb,e3,g5,Q6,gy,iE,p3,l7,m5,fun z hz=>?_⟩
 have hm:z.2∈pl.map (·.2):=mem_map.mpr ⟨z,hz,rfl⟩
 exact⟨fun e=>xT (e ▸ hm),fun e=>abD (e ▸ hm),fun e=>n7 (e ▸ hm),fun e=>A0 (e ▸ hm),fun e=>et (e ▸ hm),fun e=>sy (e ▸ hm)⟩
theorem bw.setC (A:bw H h ce aj lo pu st pl x) {c:List Int}(ai:c.length=x.av.length):bw (upd H ce (.lst (c.map V.int))) h ce aj lo pu st pl { x with b_:=c }:=by
 obtain⟨dT,dP,eO,fF,gi,gw,g0,jO,lz,lU,cn,cu,fb,gj,i0,np⟩:=A.ne
 have kt:eh H (upd H ce (.lst (c.map V.int))):=ru A.ai
 obtain⟨xs,aH,aM⟩:=A.aE
 obtain⟨zs,bT,b1⟩:=A.fQ
 refine⟨by rw[aA dT];exact A.dt,aR,by rw[aA gi.symm];exact A.hd,⟨xs,by rw[aA cu];exact aH,aM.mono fun a y q=>q.mono kt⟩,by rw[aA gw.symm];exact A.aF,A.e1,fun i z w a b=>?_,A.bK,⟨zs,by rw[aA g0.symm];exact bT,bl.keep kt _ _ (eK bp.gD _) b1⟩,A.ap,A.nl,ai⟩
 obtain⟨ys,bx,aW⟩:=A.ah i z w a b
 exact⟨ys,by rw[aA (np z (mem_of_getElem? a)).2.1];exact bx,bl.keep kt _ _ (eK hn _) aW⟩
theorem bw.tG (A:bw H h ce aj lo pu st pl x) {c:List Int}(ai:c.length=x.av.length):bw (upd H aj (.lst (c.map V.int))) h ce aj lo pu st pl { x with av:=c }:=by
 obtain⟨dT,dP,eO,fF,gi,gw,g0,jO,lz,lU,cn,cu,fb,gj,i0,np⟩:=A.ne
 have kt:eh H (upd H aj (.lst (c.map V.int))):=ru A.hd
 obtain⟨xs,aH,aM⟩:=A.aE
 obtain⟨zs,bT,b1⟩:=A.fQ
 refine⟨by rw[aA dP];exact A.dt,by rw[aA gi];exact A.ai,aR,⟨xs,by rw[aA fb];exact aH,aM.mono fun a y q=>q.mono kt⟩,by rw[aA jO.symm];exact A.aF,A.e1,fun i z w a b=>?_,A.bK,⟨zs,by rw[aA lz.symm];exact bT,bl.keep kt _ _ (eK bp.gD _) b1⟩,A.ap,A.nl,by rw[A.cd,ai]⟩
 obtain⟨ys,bx,aW⟩:=A.ah i z w a b
 exact⟨ys,by rw[aA (np z (mem_of_getElem? a)).2.2.1];exact bx,bl.keep kt _ _ (eK hn _) aW⟩
theorem bw.LD (A:bw H h ce aj lo pu st pl x) {s:bp}{v:V}{zs:List V}(bT:H st=some (.lst zs)) (b1:bl H (x.c7.map bp.D) zs) (aX:Rep H s.D v):bw (upd H st (.lst (zs++[v]))) h ce aj lo pu st pl { x with c7:=x.c7++[s] }:=by
 obtain⟨dT,dP,eO,fF,gi,gw,g0,jO,lz,lU,cn,cu,fb,gj,i0,np⟩:=A.ne
 have kt:eh H (upd H st (.lst (zs++[v]))):=ru bT
 obtain⟨xs,aH,aM⟩:=A.aE
 refine⟨by rw[aA fF];exact A.dt,by rw[aA g0];exact A.ai,by rw[aA lz];exact A.hd,⟨xs,by rw[aA i0];exact aH,aM.mono fun a y q=>q.mono kt⟩,by rw[aA lU];exact A.aF,A.e1,fun i z w a b=>?_,A.bK,⟨zs++[v],aR,?_⟩,A.ap,A.nl,A.cd⟩
 ·obtain⟨ys,bx,aW⟩:=A.ah i z w a b
  exact⟨ys,by rw[aA (np z (mem_of_getElem? a)).2.2.2.2.1];exact bx,bl.keep kt _ _ (eK hn _) aW⟩
 ·show bl _ ((x.c7++[s]).map bp.D) _
  rw[map_append]
  exact (bl.keep kt _ _ (eK bp.gD _) b1).append (.cons (Rep.keep kt _ _ (bp.gD s) aX) .nil)
theorem bw.DE (A:bw H h ce aj lo pu st pl x) {lo':Addr}{log:List bN}{xs:List V}(aH:H lo'=some (.lst xs)) (aM:gT H log xs) (aP:lo'∉own h ce aj pu st pl):bw (upd H h (.bS (putK (aS ce aj lo pu st x.room x.begun) (Sum.inr "log") (.ref lo')))) h ce aj lo' pu st pl { x with log:=log }:=by
 obtain⟨dT,dP,eO,fF,gi,gw,g0,jO,lz,lU,cn,cu,fb,gj,i0,np⟩:=A.ne
 rw[II]
 have kt:eh H (upd H h (.bS (aS ce aj lo' pu st x.room x.begun))):=fun b ys q=>by
  rw[aA (dv q A.dt (fun z=>nomatch z))]
  exact q
 obtain⟨zs,bT,b1⟩:=A.fQ
 have MO:lo'≠h:=fun e=>aP (by rw[e];exact mem_cons_self)
 refine⟨aR,by rw[aA dT.symm];exact A.ai,by rw[aA dP.symm];exact A.hd,⟨xs,by rw[aA MO];exact aH,aM.mono fun a y q=>q.mono kt⟩,by rw[aA eO.symm];exact A.aF,A.e1,fun i z w a b=>?_,A.bK,⟨zs,by rw[aA fF.symm];exact bT,bl.keep kt _ _ (eK bp.gD _) b1⟩,A.ap,aP,A.cd⟩
 obtain⟨ys,bx,aW⟩:=A.ah i z w a b
 exact⟨ys,by rw[aA (np z (mem_of_getElem? a)).1];exact bx,bl.keep kt _ _ (eK hn _) aW⟩
theorem bw.setB (A:bw H h ce aj lo pu st pl x) {n:Nat}{b:Int}(aa:b=(n:Int)):bw (upd H h (.bS (putK (aS ce aj lo pu st x.room x.begun) (Sum.inr "begun") (.int b)))) h ce aj lo pu st pl { x with begun:=n }:=by
 subst aa
 obtain⟨dT,dP,eO,fF,gi,gw,g0,jO,lz,lU,cn,cu,fb,gj,i0,np⟩:=A.ne
 rw[HG]
 have kt:eh H (upd H h (.bS (aS ce aj lo pu st x.room (n:Int)))):=fun b ys q=>by
  rw[aA (dv q A.dt (fun z=>nomatch z))]
  exact q
 obtain⟨xs,aH,aM⟩:=A.aE
 obtain⟨zs,bT,b1⟩:=A.fQ
 refine⟨aR,by rw[aA dT.symm];exact A.ai,by rw[aA dP.symm];exact A.hd,⟨xs,by rw[aA cn];exact aH,aM.mono fun a y q=>q.mono kt⟩,by rw[aA eO.symm];exact A.aF,A.e1,fun i z w a b=>?_,A.bK,⟨zs,by rw[aA fF.symm];exact bT,bl.keep kt _ _ (eK bp.gD _) b1⟩,A.ap,A.nl,A.cd⟩
 obtain⟨ys,bx,aW⟩:=A.ah i z w a b
 exact⟨ys,by rw[aA (np z (mem_of_getElem? a)).1];exact bx,bl.keep kt _ _ (eK hn _) aW⟩
end
def bp.okIn (x:aq):bp→Prop
 | .line ln=>ln.ok x.av.length
 | .d9 p _=>p<x.av.length
 | .cut _=>True
def aq.fits (x:aq) (k:Nat):Prop:=x.c7.length+k≤100000∧x.log.length+k≤100000∧∀ln∈x.log,ln.ok x.av.length
theorem ih {n:Nat}(h:n≤200000):n<sizeLine:=by
 rw[sizeLine_eq]
 omega
theorem eh.yX {H:ao}{a:Addr}{o:fp}{kvs:List (Key × V)}(h:H a=some (.bS kvs)):eh H (upd H a o):=fun b ys q=>by
 rw[aA (dv q h (fun z=>nomatch z))]
 exact q
section
variable {H af:ao}{h ce aj lo pu st:Addr}{pl:List (Int × Addr)}{x:aq}
theorem bw.CC (A:bw H h ce aj lo pu st pl x):e9 H h (.str "cellar") (some (.ref ce)):=.inl ⟨_,Sum.inr "cellar",.inl A.dt,rfl,(S8 ..).symm⟩
theorem bw.lN (A:bw H h ce aj lo pu st pl x):e9 H h (.str "desk") (some (.ref aj)):=.inl ⟨_,Sum.inr "desk",.inl A.dt,rfl,(Vi ..).symm⟩
theorem bw.vO (A:bw H h ce aj lo pu st pl x):e9 H h (.str "log") (some (.ref lo)):=.inl ⟨_,Sum.inr "log",.inl A.dt,rfl,(V9 ..).symm⟩
theorem bw.kZ (A:bw H h ce aj lo pu st pl x):e9 H h (.str "puts") (some (.ref pu)):=.inl ⟨_,Sum.inr "puts",.inl A.dt,rfl,(Vh ..).symm⟩
theorem bw.K_ (A:bw H h ce aj lo pu st pl x):e9 H h (.str "room") (some (.int x.room)):=.inl ⟨_,Sum.inr "room",.inl A.dt,rfl,(Vg ..).symm⟩
theorem bw.C9 (A:bw H h ce aj lo pu st pl x):e9 H h (.str "begun") (some (.int x.begun)):=.inl ⟨_,Sum.inr "begun",.inl A.dt,rfl,(Up ..).symm⟩
theorem bw.Jp (A:bw H h ce aj lo pu st pl x):e9 H h (.str "strokes") (some (.ref st)):=.inl ⟨_,Sum.inr "strokes",.inl A.dt,rfl,(Si ..).symm⟩
theorem bw.LS (A:bw H h ce aj lo pu st pl x) (v:V):oB H h (.str "log") v (upd H h (.bS (putK (aS ce aj lo pu st x.room x.begun) (Sum.inr "log") v))):=.inl ⟨_,Sum.inr "log",A.dt,rfl,(by show 7<sizeLine;rw[sizeLine_eq];decide),rfl⟩
theorem bw.VN (A:bw H h ce aj lo pu st pl x) (v:V):oB H h (.str "begun") v (upd H h (.bS (putK (aS ce aj lo pu st x.room x.begun) (Sum.inr "begun") v))):=.inl ⟨_,Sum.inr "begun",A.dt,rfl,(by show 7<sizeLine;rw[sizeLine_eq];decide),rfl⟩
theorem bw.o2 (h ce aj pu st:Addr) (pl:List (Int × Addr)):h∈own h ce aj pu st pl:=mem_cons_self
theorem bw.sv (h ce aj pu st:Addr) (pl:List (Int × Addr)):ce∈own h ce aj pu st pl:=mem_cons_of_mem _ mem_cons_self
theorem bw.xm (h ce aj pu st:Addr) (pl:List (Int × Addr)):aj∈own h ce aj pu st pl:=mem_cons_of_mem _ (mem_cons_of_mem _ mem_cons_self)
theorem bw.mp (h ce aj pu st:Addr) (pl:List (Int × Addr)):pu∈own h ce aj pu st pl:=mem_cons_of_mem _ (mem_cons_of_mem _ (mem_cons_of_mem _ mem_cons_self))
theorem bw.ms (h ce aj pu st:Addr) (pl:List (Int × Addr)):st∈own h ce aj pu st pl:=mem_cons_of_mem _ (mem_cons_of_mem _ (mem_cons_of_mem _ (mem_cons_of_mem _ mem_cons_self)))
theorem bw.xj {pl:List (Int × Addr)}{z:Int × Addr}(hz:z∈pl) (h ce aj pu st:Addr):z.2∈own h ce aj pu st pl:=mem_cons_of_mem _ (mem_cons_of_mem _ (mem_cons_of_mem _ (mem_cons_of_mem _ (mem_cons_of_mem _ (mem_map.mpr ⟨z,hz,rfl⟩)))))
theorem bw.there (A:bw H h ce aj lo pu st pl x) {b:Addr}(aa:H b=none):b∉own h ce aj pu st pl:=by
 intro hm
 unfold own at hm
 simp only[mem_cons,mem_map]at hm
 obtain⟨zs,bT,_⟩:=A.fQ
 rcases hm with e | e | e | e | e | ⟨z,hz,e⟩
 ·rw[e,A.dt]at aa;cases aa
 ·rw[e,A.ai]at aa;cases aa
 ·rw[e,A.hd]at aa;cases aa
 ·rw[e,A.aF]at aa;cases aa
 ·rw[e,bT]at aa;cases aa
 ·obtain⟨i,aL⟩:=getElem?_of_mem hz
  have aE:i<x.aK.length:=by
   have:=congrArg List.length A.e1
   rw[length_map,length_map]at this
   rw[←this]
   exact (List.getElem?_eq_some_iff.mp aL).1
  obtain⟨ys,q,_⟩:=A.ah i z _ aL (getElem?_eq_getElem aE)
  rw[e,aa]at q
  cases q
theorem qq:∀(pl:List (Int × Addr)) (d:Int),dw (d3 pl) (Sum.inl d)=(pl.find? fun z=>z.1 == d).map fun z=>V.ref z.2
 | [],d=>rfl
 | z::r,d=>by
  show dw ((Sum.inl z.1,V.ref z.2)::d3 r) (Sum.inl d)=_
  by_cases e:z.1=d
  ·rw[mw (by rw[e]),List.find?_cons_of_pos (by rw[e];exact beq_self_eq_true d)]
   rfl
  ·rw[mz (fun y=>e (Sum.inl.inj y)),find?_cons_of_neg (by simpa using e)]
   exact qq r d
theorem B9 {α β γ:Type} [BEq α]:∀{l:List (α × β)}{m:List (α × γ)}(d:α),l.map (·.1)=m.map (·.1)→(l.find? fun z=>z.1 == d).isSome=(m.find? fun z=>z.1 == d).isSome
 | [],[],_,_=>rfl
 | [],_::_,_,h=>by cases h
 | _::_,[],_,h=>by cases h
 | a::l,b::m,d,h=>by
  rw[map_cons,map_cons]at h
  injection h with ak az
  rw[find?_cons,find?_cons,ak]
  cases b.1 == d with
  | true=>rfl
  | false=>exact B9 d az
theorem bw.isOpen (A:bw H h ce aj lo pu st pl x) (d:Int):(dw (d3 pl) (Sum.inl d)).isSome=x.isOpen d:=by
 rw[qq,Option.isSome_map,B9 d A.e1]
 unfold aq.isOpen
 induction x.aK with
 | nil=>rfl
 | cons z r cC =>
  rw[find?_cons,any_cons]
  cases z.1 == d with
  | true=>rfl
  | false=>exact cC
theorem bw.tA (A:bw H h ce aj lo pu st pl x) (d:Int):e9 H pu (.int d) (dw (d3 pl) (Sum.inl d)):=.inl ⟨_,Sum.inl d,.inl A.aF,rfl,rfl⟩
theorem bw.atC (A:bw H h ce aj lo pu st pl x) {p:Nat}(aF:p<x.av.length):∃c,x.b_[p]?=some c∧nQ (x.b_.map V.int) (p:Int)=some (.int c):=by
 obtain⟨z,a,b⟩:=kX (ns:=x.b_) (k:=(p:Int)) (by omega) (by rw[A.cd];omega)
 exact⟨z,by simpa using a,b⟩
theorem bw.q2 (A:bw H h ce aj lo pu st pl x) {p:Nat}(aF:p<x.av.length):∃c,x.av[p]?=some c∧nQ (x.av.map V.int) (p:Int)=some (.int c):=by
 obtain⟨z,a,b⟩:=kX (ns:=x.av) (k:=(p:Int)) (by omega) (by omega)
 exact⟨z,by simpa using a,b⟩
end
theorem Ux {K:PySem.W.Frag}{a:Addr}{xs:List V}{b2:TE}{bA:St}{Q:cD}{H:ao}{acc:Addr}(W:Nat→List V→ao→Prop) (hz:xs.length≤1000) (start:W 0 [] (upd H acc (.lst []))) (j2:∀i ys ay,W i ys ay→ay a=some (.lst xs)∧ys.length=i)
  (step:∀(i:Nat) x ys ay (k:cD),i<xs.length→xs[i]?=some x→W i ys ay→(∀jI dQ,dQ acc=some (.lst ys)→W (i+1) (ys++[jI]) (upd dQ acc (.lst (ys++[jI])))→k jI dQ)→b2 (some x::bA) ay k)
  (fin:∀ys ay,W xs.length ys ay→Q (.ref acc) ay):tC (oS K a) b2 bA Q H acc:=by
 refine⟨xs.length,fun i ys ay=>i≤xs.length∧W i ys ay,⟨zero_le _,start⟩,?_⟩
 rintro i ys ay ⟨aL,Gz⟩
 obtain⟨kJ,gx⟩:=j2 i ys ay Gz
 by_cases c8:i<xs.length
 ·have bh:xs[i]?=some xs[i]:=getElem?_eq_getElem c8
  refine .inr ⟨⟨xs,xs[i],aO.of kJ,bh⟩,c8,?_⟩
  rintro v aT ⟨rfl,aX⟩
  have ev:v=xs[i]:=by
   have:=aX _ (aO.of kJ)
   rw[bh]at this
   exact (Option.some.inj this).symm
  subst ev
  exact step i _ ys _ _ c8 bh Gz fun jI dQ GB pX=>⟨GB,lt_of_le_of_lt (by omega:ys.length≤1000) (by decide),c8,pX⟩
 ·have e:i=xs.length:=by omega
  subst e
  exact .inl ⟨⟨xs,aO.of kJ,le_refl _⟩,fin ys ay Gz⟩
theorem Th {K:PySem.W.Frag}{a:Addr}{xs zs:List V}{b2:TE}{bA:St}{Q:cD}{H:ao}{acc:Addr}(bk:H a=some (.lst xs)) (h0:H acc=none) (hz:xs.length≤1000) (aE:zs.length=xs.length)
  (he:∀(i:Nat) x z aT (k:cD),xs[i]?=some x→zs[i]?=some z→bO H aT→k z aT→b2 (some x::bA) aT k)
  (q:Q (.ref acc) (upd H acc (.lst zs))):tC (oS K a) b2 bA Q H acc:=by
 have Ab:a≠acc:=cB bk h0
 refine Ux (fun i ys ay=>ys.length=i∧ys=zs.take i∧ay=upd H acc (.lst ys)) hz ⟨rfl,rfl,rfl⟩ (fun i ys ay ⟨e0,e,aM⟩=>?_) (fun i x ys ay k aL bh ⟨e0,aH,aM⟩ aS=>?_) (fun ys ay ⟨e0,aH,aM⟩=>?_)
 ·subst aM
  exact⟨by rw[aA Ab];exact bk,e0⟩
 ·have r3:i<zs.length:=by omega
  obtain⟨z,Ah⟩:∃z,zs[i]?=some z:=⟨_,getElem?_eq_getElem r3⟩
  subst aM
  refine he i x z _ _ bh Ah (bR h0 _) (aS _ _ aR ⟨by rw[length_append,e0];rfl,?_,by rw[rv]⟩)
  rw[take_add_one,Ah,←aH]
  rfl
 ·rw[←aE,take_length]at aH
  subst aH aM
  exact q
section
variable {X:bI}{K:PySem.W.Frag}
theorem RI (h:X.K=K):nt X (.builtin "len") (fun xs H Q=>∃p ys,xs=[.ref p]∧(aO K H p ys∨aG K H p ys)∧Q (.int ys.length) H):=by subst h;exact f6
end
section
variable {x:aq}{s:bp}{k:Nat}
theorem aq.fits.mono {j:Nat}(h:x.fits k) (di:j≤k):x.fits j:=⟨by have:=h.1;omega,by have:=h.2.1;omega,h.2.2⟩
theorem ro:(x.c9 s).av=x.av:=by cases s <;> rfl
theorem o9:(x.c9 s).aK=x.aK:=by cases s <;> rfl
theorem Hx:(x.c9 s).room=x.room:=by cases s <;> rfl
theorem rl:(x.c9 s).begun=x.begun:=by cases s <;> rfl
theorem G5:(x.c9 s).c7=x.c7++[s]:=by cases s <;> rfl
theorem aq.fits.c9 (h:x.fits (k+1)) (ok:s.okIn x):(x.c9 s).fits k:=by
 obtain⟨ak,az,cz⟩:=h
 refine⟨?_,?_,?_⟩
 ·rw[G5,length_append,length_singleton]
  omega
 ·cases s with
  | line ln =>
   show (x.log++[ln]).length+k≤_
   rw[length_append,length_singleton]
   omega
  | d9 p n =>
   show x.log.length+k≤_
   omega
  | cut j =>
   show (x.log.drop j).length+k≤_
   rw[length_drop]
   omega
 ·rw[ro]
  intro l aE
  cases s with
  | line ln =>
   have ER:l∈x.log++[ln]:=aE
   rcases mem_append.mp ER with z | z
   ·exact cz l z
   ·rw[mem_singleton.mp z];exact ok
  | d9 p n=>exact cz l aE
  | cut j=>exact cz l (List.mem_of_mem_drop aE)
theorem yc {p:Nat}:(x.dZ p).av=x.av:=by
 unfold aq.dZ
 split
 ·rfl
 ·exact ro
theorem sY {p:Nat}:(x.dZ p).aK=x.aK:=by
 unfold aq.dZ
 split
 ·rfl
 ·exact o9
theorem aq.fits.carry {p:Nat}(h:x.fits (k+1)) (aF:p<x.av.length):(x.dZ p).fits k:=by
 unfold aq.dZ
 split
 ·exact h.mono (by omega)
 ·exact h.c9 aF
theorem yp:x.dS.av=x.av:=by
 unfold aq.dS
 split
 ·exact ro
 ·rfl
theorem s9:x.dS.aK=x.aK:=by
 unfold aq.dS
 split
 ·exact o9
 ·rfl
theorem aq.fits.dS (h:x.fits (k+1)):x.dS.fits k:=by
 unfold aq.dS
 split
 ·exact h.c9 True.intro
 ·exact h.mono (by omega)
def aq.eU (x:aq) (i:Nat):aq:=(List.range i).foldl aq.dZ x
theorem kq {i:Nat}:x.eU (i+1)=(x.eU i).dZ i:=by
 unfold aq.eU
 rw[List.range_succ,foldl_append]
 rfl
theorem rm:∀{i:Nat},(x.eU i).av=x.av
 | 0=>rfl
 | i+1=>by rw[kq,yc];exact rm
theorem Hq:∀{i:Nat},(x.eU i).aK=x.aK
 | 0=>rfl
 | i+1=>by rw[kq,sY];exact Hq
theorem aq.fits.eU:∀{i k:Nat},x.fits (i+k)→i≤x.av.length→(x.eU i).fits k
 | 0,k,h,_=>by rw[zero_add]at h;exact h
 | i+1,k,h,aL=>by
  rw[kq]
  exact (aq.fits.eU (k:=k+1) (by rw[←Nat.add_assoc,Nat.add_right_comm];exact h) (by omega)).carry (by rw[rm];omega)
theorem kr:x.gd=(x.eU x.av.length).dS:=rfl
theorem RE:x.gd.av=x.av:=by rw[kr,yp,rm]
theorem G9:x.gd.aK=x.aK:=by rw[kr,s9,Hq]
end
theorem lM {β:Type}:∀{l:List (Int × β)},(l.map (·.1)).Nodup→∀{i:Nat}{z:Int × β},l[i]?=some z→l.find? (fun y=>y.1 == z.1)=some z
 | [],_,i,z,h=>by simp at h
 | a::l,aP,i,z,h=>by
  rw[map_cons,nodup_cons]at aP
  cases i with
  | zero =>
   have e:a=z:=Option.some.inj h
   subst e
   rw[find?_cons,beq_self_eq_true]
  | succ i =>
   have az:l[i]?=some z:=by simpa using h
   have ne:¬a.1=z.1:=fun e=>aP.1 (mem_map.mpr ⟨z,mem_of_getElem? az,e.symm⟩)
   rw[find?_cons_of_neg (by simpa using ne)]
   exact lM aP.2 az
theorem H0 {α:Type}{f:α→Bool}:∀{l:List α}{i:Nat}{z:α},l[i]?=some z→(l.take i).find? f=none→f z=true→l.find? f=some z
 | [],i,z,h,_,_=>by simp at h
 | a::l,0,z,h,_,hf=>by
  have e:a=z:=Option.some.inj h
  subst e
  rw[List.find?_cons_of_pos hf]
 | a::l,i+1,z,h,aP,hf=>by
  rw[List.take_succ_cons,find?_cons]at aP
  cases bk:f a with
  | true=>rw[bk]at aP;cases aP
  | false =>
   rw[bk]at aP
   rw[find?_cons_of_neg (by rw[bk];decide)]
   exact H0 (by simpa using h) aP hf
theorem Tc {α:Type}{f:α→Bool}{l:List α}{i:Nat}{z:α}(h:l[i]?=some z) (aP:(l.take i).find? f=none) (hf:f z=false):(l.take (i+1)).find? f=none:=by
 rw[take_add_one,h,List.find?_append,aP]
 show ([z].find? f)=none
 rw[find?_cons_of_neg (by rw[hf];decide)]
 rfl
theorem o_ {α:Type}{f:α→D}{H:ao}:∀{l:List α}{ys:List V},bl H (l.map f) ys→∀{j:Nat}{v:V},ys[j]?=some v→∃z,l[j]?=some z∧Rep H (f z) v
 | [],ys,r,j,v,h=>by
  rw[map_nil]at r
  cases r.lP
  simp at h
 | a::l,ys,r,j,v,h=>by
  rw[map_cons]at r
  obtain⟨x,t,rfl,bz,b3⟩:=r.inv
  cases j with
  | zero =>
   have e:x=v:=Option.some.inj h
   subst e
   exact⟨a,rfl,bz⟩
  | succ j =>
   obtain⟨z,dm,dW⟩:=o_ b3 (j:=j) (v:=v) (by simpa using h)
   exact⟨z,by simpa using dm,dW⟩
section
variable {H af:ao}{h ce aj lo pu st:Addr}{pl:List (Int × Addr)}{x:aq}
theorem bw.mH (A:bw H h ce aj lo pu st pl x):pl.length=x.aK.length:=by
 have:=congrArg List.length A.e1
 rw[length_map,length_map]at this
 exact this
theorem bw.at_ (A:bw H h ce aj lo pu st pl x) {i:Nat}{z:Int × Addr}(hz:pl[i]?=some z):∃w ys,x.aK[i]?=some w∧w.1=z.1∧H z.2=some (.lst ys)∧bl H (w.2.map pairD) ys∧e9 H pu (.int z.1) (some (.ref z.2)):=by
 have aL:i<x.aK.length:=by rw[←A.mH];exact (List.getElem?_eq_some_iff.mp hz).1
 have hw:x.aK[i]?=some x.aK[i]:=getElem?_eq_getElem aL
 obtain⟨ys,bx,aW⟩:=A.ah i z _ hz hw
 have aH:(pl.map (·.1))[i]?=some z.1:=by rw[getElem?_map,hz];rfl
 have aM:(x.aK.map (·.1))[i]?=some (x.aK[i]).1:=by rw[getElem?_map,hw];rfl
 rw[A.e1,aM]at aH
 refine⟨_,ys,hw,Option.some.inj aH,bx,aW,?_⟩
 have g:=A.tA z.1
 rw[qq,lM (by rw[A.e1];exact A.bK) hz]at g
 exact g
theorem Ct (pl:List (Int × Addr)):((d3 pl).map fun z=>eo z.1)=(pl.map (·.1)).map V.int:=by
 unfold d3
 rw[map_map,map_map]
 rfl
end
theorem JU (pl:List (Int × Addr)) (d:Int):j1 (d3 pl) (Sum.inl d)=d3 (pl.filter fun z=>z.1 != d):=by
 unfold j1 d3
 induction pl with
 | nil=>rfl
 | cons z r cC =>
  rw[map_cons,filter_cons,filter_cons,cC]
  by_cases e:z.1=d
  ·rw[e]
   simp
  ·have aH:(z.1 != d)=true:=bne_iff_ne.mpr e
   have aM:decide ((Sum.inl z.1:Key)≠Sum.inl d)=true:=decide_eq_true fun y=>e (Sum.inl.inj y)
   rw[if_pos aH]
   show (if decide ((Sum.inl z.1:Key)≠Sum.inl d)=true then _ else _)=_
   rw[if_pos aM]
   rfl
theorem Bk {R:Int × Addr→Int × List (Nat × Int)→Prop}(f:Int→Bool):∀{l:List (Int × Addr)}{m:List (Int × List (Nat × Int))},l.map (·.1)=m.map (·.1)→(∀(i:Nat) z w,l[i]?=some z→m[i]?=some w→R z w) →
  ((l.filter fun z=>f z.1).map (·.1)=(m.filter fun z=>f z.1).map (·.1))∧∀(i:Nat) z w,(l.filter fun z=>f z.1)[i]?=some z→(m.filter fun z=>f z.1)[i]?=some w→R z w
 | [],[],_,_=>⟨rfl,fun i z w h=>by simp at h⟩
 | [],_::_,h,_=>by cases h
 | _::_,[],h,_=>by cases h
 | a::l,b::m,h,aD=>by
  rw[map_cons,map_cons]at h
  injection h with ak az
  obtain⟨i2,m7⟩:=Bk (R:=R) f az fun i z w p q=>aD (i+1) z w (by simpa using p) (by simpa using q)
  rw[filter_cons,filter_cons,ak]
  cases hf:f b.1 with
  | false =>
   rw[if_neg Bool.false_ne_true,if_neg Bool.false_ne_true]
   exact⟨i2,m7⟩
  | true =>
   rw[if_pos rfl,if_pos rfl]
   refine⟨by rw[map_cons,map_cons,ak,i2],fun i z w p q=>?_⟩
   cases i with
   | zero=>exact aD 0 z w (by simpa using p) (by simpa using q)
   | succ i=>exact m7 i z w (by simpa using p) (by simpa using q)
theorem pe {h ce aj pu st b:Addr}{pl:List (Int × Addr)}:b∈own h ce aj pu st pl↔b=h∨b=ce∨b=aj∨b=pu∨b=st∨∃z∈pl,z.2=b:=by
 unfold own
 simp only[mem_cons,mem_map]
section
variable {H af:ao}{h ce aj lo pu st:Addr}{pl:List (Int × Addr)}{x:aq}
theorem bw.ended (A:bw H h ce aj lo pu st pl x) (d:Int):bw (upd H pu (.bS (j1 (d3 pl) (Sum.inl d)))) h ce aj lo pu st (pl.filter fun z=>z.1 != d) { x with aK:=x.aK.filter fun z=>z.1 != d }:=by
 obtain⟨dT,dP,eO,fF,gi,gw,g0,jO,lz,lU,cn,cu,fb,gj,i0,np⟩:=A.ne
 have kt:eh H (upd H pu (.bS (j1 (d3 pl) (Sum.inl d)))):=eh.yX A.aF
 obtain⟨xs,aH,aM⟩:=A.aE
 obtain⟨zs,bT,b1⟩:=A.fQ
 obtain⟨i2,m7⟩:=Bk (R:=fun z w=>z∈pl∧∃ys,H z.2=some (.lst ys)∧bl H (w.2.map pairD) ys) (fun y=>y != d) A.e1 fun i z w p q=>⟨mem_of_getElem? p,A.ah i z w p q⟩
 have sub:(own h ce aj pu st (pl.filter fun z=>z.1 != d)).Sublist (own h ce aj pu st pl):=by
  unfold own
  exact ((((filter_sublist.map _).cons_cons _).cons_cons _).cons_cons _).cons_cons _ |>.cons_cons _
 refine⟨by rw[aA eO];exact A.dt,by rw[aA gw];exact A.ai,by rw[aA jO];exact A.hd,⟨xs,by rw[aA gj];exact aH,aM.mono fun a y q=>q.mono kt⟩,by rw[aR,JU],i2,fun i z w a b=>?_,(filter_sublist.map _).nodup A.bK,⟨zs,by rw[aA lU.symm];exact bT,bl.keep kt _ _ (eK bp.gD _) b1⟩,sub.nodup A.ap,fun m=>A.nl (sub.mem m),A.cd⟩
 obtain⟨hz,ys,bx,aW⟩:=m7 i z w a b
 exact⟨ys,by rw[aA (np z hz).2.2.2.1];exact bx,bl.keep kt _ _ (eK hn _) aW⟩
theorem bw.opened (A:bw H h ce aj lo pu st pl x) {d:Int}{a:Addr}(bk:H a=some (.lst [])) (aP:a∉own h ce aj pu st pl) (aE:a≠lo) (hd:x.isOpen d=false) :
  bw (upd H pu (.bS (putK (d3 pl) (Sum.inl d) (.ref a)))) h ce aj lo pu st (pl++[(d,a)]) { x with aK:=x.aK++[(d,[])] }:=by
 obtain⟨dT,dP,eO,fF,gi,gw,g0,jO,lz,lU,cn,cu,fb,gj,i0,np⟩:=A.ne
 have kt:eh H (upd H pu (.bS (putK (d3 pl) (Sum.inl d) (.ref a)))):=eh.yX A.aF
 obtain⟨xs,aH,aM⟩:=A.aE
 obtain⟨zs,bT,b1⟩:=A.fQ
 have gH:dw (d3 pl) (Sum.inl d)=none:=by
  have:=A.isOpen d
  rw[hd]at this
  exact Option.isNone_iff_eq_none.mp (by rw[←Option.not_isSome,this];rfl)
 have cp:putK (d3 pl) (Sum.inl d) (.ref a)=d3 (pl++[(d,a)]):=by
  rw[Jc _ gH]
  unfold d3
  rw[map_append]
  rfl
 have a_:¬d∈x.aK.map (·.1):=by
  intro m
  obtain⟨z,hz,e⟩:=mem_map.mp m
  have:x.isOpen d=true:=any_eq_true.mpr ⟨z,hz,by rw[e];exact beq_self_eq_true d⟩
  rw[hd]at this
  cases this
 have q9:=A.mH
 have iF:own h ce aj pu st (pl++[(d,a)])=own h ce aj pu st pl++[a]:=by
  unfold own
  rw[map_append]
  rfl
 refine⟨by rw[aA eO];exact A.dt,by rw[aA gw];exact A.ai,by rw[aA jO];exact A.hd,⟨xs,by rw[aA gj];exact aH,aM.mono fun a y q=>q.mono kt⟩,by rw[aR,cp],by rw[map_append,map_append,A.e1];rfl,fun i z w p q=>?_,?_,⟨zs,by rw[aA lU.symm];exact bT,bl.keep kt _ _ (eK bp.gD _) b1⟩,?_,?_,A.cd⟩
 ·by_cases aL:i<pl.length
  ·rw[getElem?_append_left aL]at p
   rw[getElem?_append_left (by omega)]at q
   obtain⟨ys,bx,aW⟩:=A.ah i z w p q
   exact⟨ys,by rw[aA (np z (mem_of_getElem? p)).2.2.2.1];exact bx,bl.keep kt _ _ (eK hn _) aW⟩
  ·have r3:i=pl.length:=by
    have:=(List.getElem?_eq_some_iff.mp p).1
    rw[length_append,length_singleton]at this
    omega
   subst r3
   rw[getElem?_append_right (le_refl _),sub_self]at p
   rw[q9,getElem?_append_right (le_refl _),sub_self]at q
   have gA:(d,a)=z:=Option.some.inj p
   have kl:((d,[]):Int × List (Nat × Int))=w:=Option.some.inj q
   subst gA kl
   have na:a≠pu:=fun e=>aP (by rw[e];exact bw.mp ..)
   exact⟨[],by rw[aA na];exact bk,.nil⟩
 ·rw[map_append,nodup_append]
  refine⟨A.bK,by simp,fun u bf v aX=>?_⟩
  have iy:v=d:=by simpa using aX
  subst iy
  exact fun e=>a_ (e ▸ bf)
 ·rw[iF,nodup_append]
  refine⟨A.ap,by simp,fun u bf v aX=>?_⟩
  have iy:v=a:=by simpa using aX
  subst iy
  exact fun e=>aP (e ▸ bf)
 ·rw[iF]
  intro m
  rcases mem_append.mp m with z | z
  ·exact A.nl z
  ·exact aE (mem_singleton.mp z).symm
theorem KC:∀{l:List (Int × List (Nat × Int))}{d:Int}{y:Nat × Int}{j:Nat}{w:Int × List (Nat × Int)},(l.map fun z=>if z.1=d then (z.1,z.2++[y]) else z)[j]?=some w→∃en,l[j]?=some en∧w=if en.1=d then (en.1,en.2++[y]) else en:=fun {l d y j w} h=>by
 rw[getElem?_map]at h
 cases e:l[j]? with
 | none=>rw[e]at h;cases h
 | some en =>
  rw[e]at h
  exact⟨en,rfl,(Option.some.inj h).symm⟩
theorem bw.c1 (A:bw H h ce aj lo pu st pl x) {i:Nat}{d:Int}{a:Addr}{ys:List V}{y:Nat × Int}{v:V}(aL:pl[i]?=some (d,a)) (bk:H a=some (.lst ys)) (aX:Rep H (pairD y) v) :
  bw (upd H a (.lst (ys++[v]))) h ce aj lo pu st pl { x with aK:=x.aK.map fun z=>if z.1=d then (z.1,z.2++[y]) else z }:=by
 obtain⟨dT,dP,eO,fF,gi,gw,g0,jO,lz,lU,cn,cu,fb,gj,i0,np⟩:=A.ne
 obtain⟨k1,k2,k3,m6,k5,abj⟩:=np _ (mem_of_getElem? aL)
 have kt:eh H (upd H a (.lst (ys++[v]))):=ru bk
 obtain⟨xs,aH,aM⟩:=A.aE
 obtain⟨zs,bT,b1⟩:=A.fQ
 have gI:(x.aK.map fun z=>if z.1=d then (z.1,z.2++[y]) else z).map (·.1)=x.aK.map (·.1):=by
  rw[map_map]
  refine map_congr_left fun z _=>?_
  show (if z.1=d then (z.1,z.2++[y]) else z).1=z.1
  split <;> rfl
 have ap:=A.ap
 have Er:(pl.map (·.2)).Nodup:=by
  unfold own at ap
  simp only[nodup_cons]at ap
  exact ap.2.2.2.2.2
 refine⟨by rw[aA (Ne.symm k1)];exact A.dt,by rw[aA (Ne.symm k2)];exact A.ai,by rw[aA (Ne.symm k3)];exact A.hd,⟨xs,by rw[aA (Ne.symm abj)];exact aH,aM.mono fun a y q=>q.mono kt⟩,by rw[aA (Ne.symm m6)];exact A.aF,by rw[gI];exact A.e1,fun j z w p q=>?_,by rw[gI];exact A.bK,⟨zs,by rw[aA (Ne.symm k5)];exact bT,bl.keep kt _ _ (eK bp.gD _) b1⟩,A.ap,A.nl,A.cd⟩
 obtain⟨en,bx,rfl⟩:=KC q
 obtain⟨us,gG,gu⟩:=A.ah j z en p bx
 obtain⟨eB,_,t1,eE,_,_,_⟩:=A.at_ p
 rw[bx]at t1
 cases t1
 by_cases e:z=(d,a)
 ·subst e
  rw[if_pos eE]
  rw[bk]at gG
  cases gG
  refine⟨ys++[v],aR,?_⟩
  show bl _ ((en.2++[y]).map pairD) _
  rw[map_append]
  exact (bl.keep kt _ _ (eK hn _) gu).append (.cons (Rep.keep kt _ _ (hn y) aX) .nil)
 ·have a_:¬en.1=d:=by
   intro cS
   have f1:=lM (l:=pl) (by rw[A.e1];exact A.bK) p
   have f2:=lM (l:=pl) (by rw[A.e1];exact A.bK) aL
   rw[←eE,cS]at f1
   have fy:pl.find? (fun y=>y.1 == d)=some (d,a):=f2
   rw[fy]at f1
   exact e (Option.some.inj f1).symm
  have na:z.2≠a:=by
   intro cS
   obtain⟨adZ,et⟩:=List.getElem?_eq_some_iff.mp p
   have g1:(pl.map (·.2))[j]?=some a:=by rw[getElem?_map,p];exact congrArg some cS
   have g2:(pl.map (·.2))[i]?=some a:=by rw[getElem?_map,aL];rfl
   have di:j=i:=by
    have gy:=(List.getElem?_eq_some_iff.mp g1).1
    exact (List.getElem?_inj gy Er).mp (g1.trans g2.symm)
   subst di
   rw[p]at aL
   exact e (Option.some.inj aL)
  rw[if_neg a_]
  exact⟨us,by rw[aA na];exact gG,bl.keep kt _ _ (eK hn _) gu⟩
theorem bw.qs (A:bw H h ce aj lo pu st pl x) {d:Int}(hd:x.isOpen d=true):∃(i:Nat) (a:Addr) (ys:List V),pl[i]?=some (d,a)∧x.aK[i]?=some (d,x.c5 d)∧H a=some (.lst ys)∧bl H ((x.c5 d).map pairD) ys∧e9 H pu (.int d) (some (.ref a)):=by
 obtain⟨w,hw,e⟩:=any_eq_true.mp hd
 obtain⟨i,aL⟩:=getElem?_of_mem hw
 have cX:w.1=d:=beq_iff_eq.mp e
 have aE:i<pl.length:=by rw[A.mH];exact (List.getElem?_eq_some_iff.mp aL).1
 have hz:pl[i]?=some pl[i]:=getElem?_eq_getElem aE
 obtain⟨eB,ys,bx,aW,fE,jn,kN⟩:=A.at_ hz
 rw[aL]at bx
 cases bx
 have cp:x.c5 d=w.2:=by
  unfold aq.c5
  have:=lM A.bK aL
  rw[cX]at this
  rw[this]
  rfl
 have gA:pl[i]=(d,(pl[i]).2):=by
  rw[←cX,aW]
 refine⟨i,(pl[i]).2,ys,by rw[hz];exact congrArg some gA,by rw[aL,cp,←cX],fE,by rw[cp];exact jn,?_⟩
 rw[←aW,cX]at kN
 exact kN
end
section
variable {H af:ao}{h ce aj lo pu st:Addr}{pl:List (Int × Addr)}{x:aq}
theorem bw.tD (A:bw H h ce aj lo pu st pl x) {b:Addr}{xs:List V}(aa:H b=some (.tup xs)):b∉own h ce aj pu st pl:=by
 intro hm
 rw[pe]at hm
 obtain⟨zs,bT,_⟩:=A.fQ
 rcases hm with e | e | e | e | e | ⟨z,hz,e⟩
 ·rw[e,A.dt]at aa;cases aa
 ·rw[e,A.ai]at aa;cases aa
 ·rw[e,A.hd]at aa;cases aa
 ·rw[e,A.aF]at aa;cases aa
 ·rw[e,bT]at aa;cases aa
 ·obtain⟨i,aL⟩:=getElem?_of_mem hz
  obtain⟨w,ys,_,_,q,_,_⟩:=A.at_ aL
  rw[e,aa]at q
  cases q
theorem bw.e5 (A:bw H h ce aj lo pu st pl x) (o:gX (own h ce aj pu st pl) H af):eh H af:=fun b xs q=>o b _ (A.tD q) q
end
section
variable {x:aq}{d n:Int}{p k:Nat}
theorem s8:(x.putIn d p n).av.length=x.av.length:=by
 show (x.av.set p n).length=_
 rw[length_set]
theorem aq.fits.putIn (h:x.fits (k+1)) (aF:p<x.av.length):(x.putIn d p n).fits k:=by
 have ak:(x.c9 (.line (.put d p (x.av.getD p 0) n))).fits k:=h.c9 (s:=.line (.put d p (x.av.getD p 0) n)) aF
 obtain⟨a,b,c⟩:=ak
 refine⟨a,b,fun ln aE=>?_⟩
 rw[s8]
 exact c ln aE
def aq.eb (x:aq) (d:Int) (l:List (Nat × Int)):aq:=l.foldl (fun h z=>h.putIn d z.1 z.2) x
theorem Hu {l:List (Nat × Int)}{z:Nat × Int}:x.eb d (l++[z])=(x.eb d l).putIn d z.1 z.2:=by
 unfold aq.eb
 rw[foldl_append]
 rfl
theorem mq:∀{l:List (Nat × Int)}{x:aq},(x.eb d l).aK=x.aK
 | [],_=>rfl
 | z::l,x=>by
  show ((x.putIn d z.1 z.2).eb d l).aK=_
  rw[mq]
  rfl
theorem uO:∀{l:List (Nat × Int)}{x:aq},(x.eb d l).av.length=x.av.length
 | [],_=>rfl
 | z::l,x=>by
  show ((x.putIn d z.1 z.2).eb d l).av.length=_
  rw[uO,s8]
theorem uM:∀{l:List (Nat × Int)}{x:aq},(x.eb d l).begun=x.begun
 | [],_=>rfl
 | z::l,x=>by
  show ((x.putIn d z.1 z.2).eb d l).begun=_
  rw[uM]
  rfl
theorem Bo:∀{l:List (Nat × Int)}{x:aq},(x.eb d l).room=x.room
 | [],_=>rfl
 | z::l,x=>by
  show ((x.putIn d z.1 z.2).eb d l).room=_
  rw[Bo]
  rfl
theorem aq.fits.eb:∀{l:List (Nat × Int)}{x:aq}{k:Nat},x.fits (l.length+k)→(∀z∈l,z.1<x.av.length)→(x.eb d l).fits k
 | [],x,k,h,_=>by
  rw[length_nil,zero_add]at h
  exact h
 | z::l,x,k,h,hz=>by
  show ((x.putIn d z.1 z.2).eb d l).fits k
  refine aq.fits.eb ?_ fun y ck=>by rw[s8];exact hz y (mem_cons_of_mem _ ck)
  refine aq.fits.putIn ?_ (hz z mem_cons_self)
  rw[length_cons]at h
  exact h.mono (by omega)
theorem gS:x.dM d=x.eb d (x.c5 d).reverse:=rfl
end
def jd (gv:List Addr) (lo lo':Addr) (H af:ao):Prop:=gX gv H af∧(lo'=lo∨lo'∈gv∨H lo'=none)
theorem gX.l {gv:List Addr}{lo:Addr}{H af:ao}(o:gX gv H af):jd gv lo lo H af:=⟨o,.inl rfl⟩
theorem jd.trans {gv:List Addr}{fu gy iE:Addr}{H H1 ay:ao}(a:jd gv fu gy H H1) (b:jd gv gy iE H1 ay):jd gv fu iE H ay:=by
 refine⟨a.1.trans b.1,?_⟩
 rcases b.2 with z | z | z
 ·rw[z];exact a.2
 ·exact .inr (.inl z)
 ·by_cases m:iE∈gv
  ·exact .inr (.inl m)
  ·cases e:H iE with
   | none=>exact .inr (.inr rfl)
   | some o=>rw[a.1 _ _ m e]at z;cases z
theorem jd.fresh {gv:List Addr}{lo lo':Addr}{H H1 af:ao}(a:gX gv H H1) (h:H1 lo'=none) (b:gX gv H af):jd gv lo lo' H af :=
 ⟨b,by
  by_cases m:lo'∈gv
  ·exact .inr (.inl m)
  ·cases e:H lo' with
   | none=>exact .inr (.inr rfl)
   | some o=>rw[a _ _ m e]at h;cases h⟩
structure aq.good (n:Nat) (x:aq):Prop where
 fV:1≤x.av.length
 e2:x.av.length≤100
 d1:∀z∈x.aK,0≤z.1∧z.1<x.begun∧z.2.length≤n∧∀y∈z.2,y.1<x.av.length
 pl:x.aK.length≤n
 dz:x.c7.length≤300 * n
 jq:x.log.length≤300 * n
 ok:∀ln∈x.log,ln.ok x.av.length
section
variable {x:aq}{n k:Nat}{m:Int}
theorem aq.good.fits (g:x.good n) (aP:n≤150) (aS:k≤50000):x.fits k:=⟨by have:=g.dz;omega,by have:=g.jq;omega,g.ok⟩
theorem uL {p:Nat}:(x.dZ p).begun=x.begun:=by
 unfold aq.dZ
 split
 ·rfl
 ·exact rl
theorem uQ:x.dS.begun=x.begun:=by
 unfold aq.dS
 split
 ·exact rl
 ·rfl
theorem G_:∀{i:Nat},(x.eU i).begun=x.begun
 | 0=>rfl
 | i+1=>by rw[kq,uL];exact G_
theorem Rx:x.gd.begun=x.begun:=by rw[kr,uQ,G_]
theorem qn:(x.full m).1=x∨(x.full m).1=x.gd:=by
 unfold aq.full
 split
 ·exact .inl rfl
 ·exact .inr rfl
theorem oh:(x.full m).1.av=x.av:=by
 rcases qn (x:=x) (m:=m) with e | e
 ·rw[e]
 ·rw[e,RE]
theorem i_:(x.full m).1.aK=x.aK:=by
 rcases qn (x:=x) (m:=m) with e | e
 ·rw[e]
 ·rw[e,G9]
theorem mu:(x.full m).1.begun=x.begun:=by
 rcases qn (x:=x) (m:=m) with e | e
 ·rw[e]
 ·rw[e,Rx]
theorem aq.fits.full (h:x.fits (x.av.length+1+k)):(x.full m).1.fits k:=by
 rcases qn (x:=x) (m:=m) with e | e
 ·rw[e];exact h.mono (by omega)
 ·rw[e,kr]
  exact (aq.fits.eU (i:=x.av.length) (k:=k+1) (h.mono (by omega)) (le_refl _)).dS
theorem Js:∀(l:List (Int × List (Nat × Int))) (d:Int),(l.any fun z=>z.1 == d)=true→(d,((l.find? fun z=>z.1 == d).map (·.2)).getD [])∈l
 | [],d,h=>by cases h
 | z::r,d,h=>by
  rw[find?_cons]
  cases e:z.1 == d with
  | true =>
   have cX:z.1=d:=beq_iff_eq.mp e
   subst cX
   exact mem_cons_self
  | false =>
   rw[any_cons,e,Bool.false_or]at h
   exact mem_cons_of_mem _ (Js r d h)
theorem ks {d:Int}(h:x.isOpen d=true):(d,x.c5 d)∈x.aK:=Js x.aK d h
theorem qi {e:b7}{w:Str}(h:x.refusal e=some w):¬(V.str w=V.str "done"):=by
 have key:w="no dealing"∨w="no page"∨w="taken":=by
  cases e with
  | begin=>cases h
  | cut=>cases h
  | put d p n =>
   have h:(if x.isOpen d=false then some "no dealing" else if p<0∨(x.av.length:Int)≤p then some "no page" else if x.dK p.toNat=none∨x.dK p.toNat=some d then none else some "taken":Option Str)=some w:=h
   split at h
   ·exact .inl (Option.some.inj h).symm
   split at h
   ·exact .inr (.inl (Option.some.inj h).symm)
   split at h
   ·cases h
   ·exact .inr (.inr (Option.some.inj h).symm)
  | fin d =>
   have h:(if x.isOpen d=false then some "no dealing" else none:Option Str)=some w:=h
   split at h
   ·exact .inl (Option.some.inj h).symm
   ·cases h
  | drop d =>
   have h:(if x.isOpen d=false then some "no dealing" else none:Option Str)=some w:=h
   split at h
   ·exact .inl (Option.some.inj h).symm
   ·cases h
  | look p =>
   have h:(if p<0∨(x.av.length:Int)≤p then some "no page" else none:Option Str)=some w:=h
   split at h
   ·exact .inr (.inl (Option.some.inj h).symm)
   ·cases h
  | carry p =>
   have h:(if p<0∨(x.av.length:Int)≤p then some "no page" else none:Option Str)=some w:=h
   split at h
   ·exact .inr (.inl (Option.some.inj h).symm)
   ·cases h
 rcases key with rfl | rfl | rfl <;> decide +kernel
theorem hW {d:Int}{e:b7}(he:(∃p n,e=.put d p n)∨e=.fin d∨e=.drop d) (h:x.refusal e=none):x.isOpen d=true:=by
 cases aC:x.isOpen d with
 | true=>rfl
 | false =>
  rcases he with ⟨p,n,rfl⟩ | rfl | rfl <;> unfold aq.refusal at h <;> dsimp only at h <;> rw[aC,if_pos rfl]at h <;> cases h
theorem nc {p:Int}{e:b7}(he:(∃d n,e=.put d p n)∨e=.look p∨e=.carry p) (h:x.refusal e=none):0≤p∧p<x.av.length:=by
 have key:¬(p<0∨(x.av.length:Int)≤p):=by
  intro ai
  rcases he with ⟨d,n,rfl⟩ | rfl | rfl
  ·have aC:x.isOpen d=true:=hW (.inl ⟨p,n,rfl⟩) h
   unfold aq.refusal at h
   dsimp only at h
   rw[aC,if_neg (fun z=>nomatch z),if_pos ai]at h
   cases h
  ·unfold aq.refusal at h
   dsimp only at h
   rw[if_pos ai]at h
   cases h
  ·unfold aq.refusal at h
   dsimp only at h
   rw[if_pos ai]at h
   cases h
 omega
end
def aq.grow (x y:aq) (k:Nat):Prop:=y.c7.length≤x.c7.length+k∧y.log.length≤x.log.length+k
section
variable {x y z:aq}{n k j:Nat}{m:Int}{d:Int}{p:Nat}{s:bp}
theorem aq.grow.refl:x.grow x k:=⟨Nat.le_add_right _ _,Nat.le_add_right _ _⟩
theorem aq.grow.trans (a:x.grow y j) (b:y.grow z k):x.grow z (j+k):=⟨by have:=a.1;have:=b.1;omega,by have:=a.2;have:=b.2;omega⟩
theorem aq.grow.mono (a:x.grow y j) (h:j≤k):x.grow y k:=⟨by have:=a.1;omega,by have:=a.2;omega⟩
theorem uP:x.grow (x.c9 s) 1:=by
 refine⟨by rw[G5,length_append,length_singleton];exact le_refl _,?_⟩
 cases s with
 | line ln =>
  show (x.log++[ln]).length≤_
  rw[length_append,length_singleton]
  exact le_refl _
 | d9 p n=>exact Nat.le_add_right _ _
 | cut j =>
  show (x.log.drop j).length≤_
  rw[length_drop]
  omega
theorem BC:x.grow (x.dZ p) 1:=by
 unfold aq.dZ
 split
 ·exact .refl
 ·exact uP
theorem B7:x.grow x.dS 1:=by
 unfold aq.dS
 split
 ·exact uP
 ·exact .refl
theorem Hi:∀{i:Nat},x.grow (x.eU i) i
 | 0=>.refl
 | i+1=>by
  rw[kq]
  exact Hi.trans BC
theorem yv:x.grow (x.full m).1 (x.av.length+1):=by
 rcases qn (x:=x) (m:=m) with e | e
 ·rw[e];exact .refl
 ·rw[e,kr]
  exact Hi.trans B7
theorem B6 {nn:Int}:x.grow (x.putIn d p nn) 1:=by
 have h:=uP (x:=x) (s:=.line (.put d p (x.av.getD p 0) nn))
 exact⟨h.1,h.2⟩
theorem Bs:∀{l:List (Nat × Int)}{x:aq},x.grow (x.eb d l) l.length
 | [],_=>.refl
 | w::l,x=>by
  show x.grow ((x.putIn d w.1 w.2).eb d l) (l.length+1)
  exact ((B6 (x:=x) (d:=d) (p:=w.1) (nn:=w.2)).trans (Bs (l:=l))).mono (by omega)
theorem aq.good.more (g:x.good n):x.good (n+1):=⟨g.fV,g.e2,fun z hz=>⟨(g.d1 z hz).1,(g.d1 z hz).2.1,le_succ_of_le (g.d1 z hz).2.2.1,(g.d1 z hz).2.2.2⟩,le_succ_of_le g.pl,by have:=g.dz;omega,by have:=g.jq;omega,g.ok⟩
theorem aq.good.step (g:x.good n) (cF:x.grow y 300) (hd:y.av.length=x.av.length) (aa:x.begun≤y.begun) (aF:y.aK=x.aK) (hf:y.fits 0):y.good (n+1):=by
 refine⟨by rw[hd];exact g.fV,by rw[hd];exact g.e2,fun z hz=>?_,by rw[aF];exact le_succ_of_le g.pl,by have:=g.dz;have:=cF.1;omega,by have:=g.jq;have:=cF.2;omega,hf.2.2⟩
 rw[aF]at hz
 obtain⟨a,b,c,e⟩:=g.d1 z hz
 exact⟨a,by omega,le_succ_of_le c,by rw[hd];exact e⟩
theorem aq.good.aK (g:x.good (n+1)) {ps:List (Int × List (Nat × Int))}(h:∀z∈ps,0≤z.1∧z.1<x.begun∧z.2.length≤n+1∧∀y∈z.2,y.1<x.av.length) (aE:ps.length≤n+1):({ x with aK:=ps }:aq).good (n+1):=⟨g.fV,g.e2,h,aE,g.dz,g.jq,g.ok⟩
theorem aq.good.a4 (g:x.good n) (aP:n≤110) (e:b7):(x.a4 e).1.good (n+1):=by
 cases dp:x.refusal e with
 | some ww =>
  have aU:x.a4 e=(x,.word ww):=by unfold aq.a4;rw[dp]
  rw[aU]
  exact g.more
 | none =>
  have aU:x.a4 e=x.gg e:=by unfold aq.a4;rw[dp]
  rw[aU]
  have ac0:=g.e2
  have F:∀k,k≤50000→x.fits k:=fun k aS=>g.fits (by omega) aS
  cases e with
  | begin =>
   have abt:x.began.good n:=⟨g.fV,g.e2,fun z hz=>⟨(g.d1 z hz).1,(by have:=(g.d1 z hz).2.1;show z.1<((x.begun+1:Nat):Int);omega),(g.d1 z hz).2.2⟩,g.pl,g.dz,g.jq,g.ok⟩
   have m9:x.began.fits (x.began.av.length+1+0):=F _ (by show x.av.length+1+0≤_;omega)
   have n0:(x.began.full 1).1.good (n+1):=abt.step (yv.mono (by show x.av.length+1≤_;omega)) (by rw[oh]) (by rw[mu];exact le_refl _) i_ m9.full
   show (if (x.began.full 1).2=true then ((x.began.full 1).1,cW.word "no room") else ((x.began.full 1).1.opened,cW.num x.begun)).1.good (n+1)
   split
   ·exact n0
   ·refine n0.aK (fun z hz=>?_) ?_
    ·have ea:(x.began.full 1).1.begun=x.begun+1:=mu
     rcases mem_append.mp hz with hz | hz
     ·exact n0.d1 z hz
     ·rw[mem_singleton.mp hz]
      refine⟨?_,?_,zero_le _,fun y ck=>by cases ck⟩
      ·show 0≤(((x.began.full 1).1.begun:Nat):Int) - 1
       rw[ea]
       omega
      ·show (((x.began.full 1).1.begun:Nat):Int) - 1<(((x.began.full 1).1.begun:Nat):Int)
       omega
    ·rw[length_append,length_singleton,i_]
     have:=g.pl
     show x.aK.length+1≤_
     omega
  | put d p nn =>
   obtain⟨o1,eV⟩:=nc (.inl ⟨d,nn,rfl⟩) dp
   have j9:p.toNat<x.av.length:=by omega
   have m9:x.fits (x.av.length+1+1):=F _ (by omega)
   have g1:x.grow (x.full 2).1 (x.av.length+1):=yv
   have rd:(x.full 2).1.fits 1:=m9.full
   have n0:(x.full 2).1.good (n+1):=g.step (g1.mono (by omega)) (by rw[oh]) (by rw[mu];exact le_refl _) i_ (rd.mono (by omega))
   have cp:(x.full 2).1.aK=x.aK:=i_
   have d4:(x.full 2).1.av=x.av:=oh
   show (if (x.full 2).2=true then ((x.full 2).1,cW.word "no room") else (((x.full 2).1.c1 d p.toNat).putIn d p.toNat nn,cW.word "done")).1.good (n+1)
   split
   ·exact n0
   ·generalize (x.full 2).1=y at g1 rd n0 cp d4
    have gt:(y.c1 d p.toNat).good (n+1):=by
     refine n0.aK (fun z hz=>?_) (by rw[length_map];exact n0.pl)
     obtain⟨w,hw,e⟩:=mem_map.mp hz
     have qO:=n0.d1 w hw
     have Zh:=g.d1 w (cp ▸ hw)
     by_cases kl:w.1=d
     ·rw[if_pos kl]at e
      subst e
      refine⟨qO.1,qO.2.1,?_,fun q bo=>?_⟩
      ·show (w.2++[_]).length≤_
       rw[length_append,length_singleton]
       have:=Zh.2.2.1
       omega
      ·rcases mem_append.mp bo with bo | bo
       ·exact qO.2.2.2 q bo
       ·rw[mem_singleton.mp bo,d4]
        exact j9
     ·rw[if_neg kl]at e
      subst e
      exact qO
    have bJ:((y.c1 d p.toNat).putIn d p.toNat nn).fits 0:=aq.fits.putIn (k:=0) (x:=y.c1 d p.toNat) rd (by show p.toNat<y.av.length;rw[d4];exact j9)
    have g2:x.grow ((y.c1 d p.toNat).putIn d p.toNat nn) (x.av.length+1+1):=g1.trans (show y.grow ((y.c1 d p.toNat).putIn d p.toNat nn) 1 from (⟨(B6 (x:=y.c1 d p.toNat) (d:=d) (p:=p.toNat) (nn:=nn)).1,(B6 (x:=y.c1 d p.toNat) (d:=d) (p:=p.toNat) (nn:=nn)).2⟩:(y.c1 d p.toNat).grow _ 1))
    have ld:((y.c1 d p.toNat).putIn d p.toNat nn).av.length=y.av.length:=s8 (x:=y.c1 d p.toNat)
    show ((y.c1 d p.toNat).putIn d p.toNat nn).good (n+1)
    refine⟨by rw[ld];exact n0.fV,by rw[ld];exact n0.e2,fun z hz=>?_,gt.pl,by have:=g2.1;have:=g.dz;omega,by have:=g2.2;have:=g.jq;omega,bJ.2.2⟩
    obtain⟨a,b,c,dd⟩:=gt.d1 z hz
    exact⟨a,b,c,by rw[ld];exact dd⟩
  | fin d =>
   show (x.fC d).good (n+1)
   have f1:=(F 1 (by omega)).c9 (k:=0) (s:=.line (.fin d)) True.intro
   have xE:(x.c9 (.line (.fin d))).good (n+1):=g.step (uP.mono (by omega)) (by rw[ro]) (by rw[rl];exact le_refl _) o9 f1
   exact xE.aK (fun z hz=>xE.d1 z ((mem_filter.mp hz).1)) (le_trans (length_filter_le _ _) (le_succ_of_le g.pl))
  | drop d =>
   show ((x.dM d).fC d).good (n+1)
   have aC:x.isOpen d=true:=hW (.inr (.inr rfl)) dp
   have Qz:=g.d1 _ (ks aC)
   have jo:(x.c5 d).length≤n:=Qz.2.2.1
   have hz:∀y∈(x.c5 d).reverse,y.1<x.av.length:=fun y ck=>Qz.2.2.2 y (mem_reverse.mp ck)
   have AY:(x.dM d).fits 1:=by
    rw[gS]
    exact aq.fits.eb (k:=1) (F _ (by rw[length_reverse];omega)) hz
   have abr:x.grow (x.dM d) (x.c5 d).length:=by
    have:=Bs (d:=d) (l:=(x.c5 d).reverse) (x:=x)
    rw[length_reverse]at this
    exact this
   have f1:=AY.c9 (k:=0) (s:=.line (.fin d)) True.intro
   have z2:(x.dM d).aK=x.aK:=by rw[gS,mq]
   have xE:((x.dM d).c9 (.line (.fin d))).good (n+1):=g.step ((abr.trans uP).mono (by omega)) (by rw[ro,gS,uO]) (by rw[rl,gS,uM];exact le_refl _) (by rw[o9];exact z2) f1
   exact xE.aK (fun z hz=>xE.d1 z (by rw[o9];exact (mem_filter.mp hz).1)) (le_trans (length_filter_le _ _) (by rw[z2];exact le_succ_of_le g.pl))
  | look p=>exact g.more
  | carry p =>
   obtain⟨o1,eV⟩:=nc (.inr (.inr rfl)) dp
   show (x.dZ p.toNat).good (n+1)
   exact g.step (BC.mono (by omega)) (by rw[yc]) (by rw[uL];exact le_refl _) sY ((F 1 (by omega)).carry (k:=0) (by omega))
  | cut =>
   show x.dS.good (n+1)
   exact g.step (B7.mono (by omega)) (by rw[yp]) (by rw[uQ];exact le_refl _) s9 ((F 1 (by omega)).dS (k:=0))
end
def aq.run (x:aq):List b7→aq
 | []=>x
 | e::r=>aq.run (x.a4 e).1 r
def aq.says (x:aq):List b7→List cW
 | []=>[]
 | e::r=>(x.a4 e).2::aq.says (x.a4 e).1 r
theorem B2:∀(l:List b7) (x:aq) (e:b7),x.run (l++[e])=((x.run l).a4 e).1
 | [],_,_=>rfl
 | _::l,x,e=>B2 l _ e
theorem Ik:∀(l:List b7) (x:aq) (e:b7),x.says (l++[e])=x.says l++[((x.run l).a4 e).2]
 | [],_,_=>rfl
 | a::l,x,e=>by
  show _::aq.says _ (l++[e])=_
  rw[Ik l]
  rfl
theorem Hz:∀(l:List b7) (x:aq),(x.says l).length=l.length
 | [],_=>rfl
 | a::l,x=>by
  show (aq.says _ l).length+1=_
  rw[Hz l]
  rfl
theorem aq.good.run:∀(l:List b7) {x:aq}{n:Nat},x.good n→n+l.length≤110→(x.run l).good (n+l.length)
 | [],_,_,g,_=>g
 | e::l,x,n,g,h=>by
  rw[length_cons]at h ⊢
  have:=aq.good.run l (g.a4 (by omega) e) (by omega)
  have abv:n+1+l.length=n+(l.length+1):=by omega
  rw[abv]at this
  exact this
theorem R2 {lo:Int}{n:Nat}{b2:TE}{bA:St}{Q:cD}{H:ao}{acc:Addr}(R:V→Prop) (h0:H acc=none) (aP:n≤1000)
  (he:∀(i:Nat) aT (k:cD),i<n→(∀v cO,R v→bO aT cO→k v cO)→b2 (some (.int (lo+i))::bA) aT k)
  (q:∀(ys:List V) (af:ao),ys.length=n→(∀v∈ys,R v)→bO H af→af acc=some (.lst ys)→Q (.ref acc) af):tC (sd lo n) b2 bA Q H acc:=by
 refine⟨n,fun i ys ay=>i≤n∧ys.length=i∧(∀v∈ys,R v)∧bO H ay∧ay acc=some (.lst ys),⟨zero_le _,rfl,fun v aX=>by simp at aX,bR h0 _,aR⟩,?_⟩
 rintro i ys ay ⟨aL,aE,QN,c6,ec⟩
 by_cases c8:i<n
 ·refine .inr ⟨c8,c8,?_⟩
  rintro v aT ⟨rfl,rfl⟩
  refine he i _ _ c8 fun v cO aX s4=>⟨s4 _ _ ec,lt_of_le_of_lt (by omega:ys.length≤1000) (by decide),c8,by rw[length_append,aE];rfl,fun w hw=>?_,(c6.trans s4).ig h0,aR⟩
  rcases mem_append.mp hw with z | z
  ·exact QN w z
  ·rw[mem_singleton.mp z];exact aX
 ·have e:i=n:=by omega
  subst e
  exact .inl ⟨le_refl _,q ys ay aE QN c6 ec⟩
open PySem.Spec PyProof.Rows
section
variable {X:bI}
def VI:jV:=fun x y H Q=>∃a b xs,x=.ref a∧y=.ref b∧H a=some (.lst xs)∧H b=some (.lst [])∧Q (.bV xs.isEmpty) H
theorem Jf (bf:X.A.units<cLine):hD X (compareOp .Eq) VI:=by
 intro pins s σ H x y v u Q I bH bQ h
 obtain⟨a,b,xs,rfl,rfl,bk,aa,q⟩:=h
 cases bH
 cases bQ
 obtain⟨its,r,p,_⟩:=I.list (aO.of bk)
 obtain⟨j3,b3,es,_⟩:=I.list (aO.of aa)
 cases b3
 cases xs with
 | nil =>
  cases r
  exact SeqAt.RcAt.lists (e:=fun _=>true) p.isList es.isList rfl bf (fun j ak _=>absurd ak (by simp)) X.prog X.w X.dN _ ⟨.bV true,H,I,rfl,q⟩
 | cons x xs =>
  cases r
  exact SeqAt.RcAt.lists_lengths p.isList es.isList (by simp) bf X.prog X.w X.dN _ ⟨.bV false,H,I,rfl,q⟩
end
theorem Sn {K:PySem.W.Frag}{a:Addr}{ns:List Int}{tt:TT}{b2:TE}{bA:St}{Q:cD}{H:ao}{acc:Addr}(p:Int→Bool) (bk:H a=some (.lst (ns.map V.int))) (h0:H acc=none) (hz:ns.length≤1000)
  (aZ:∀(z:Int) aT (k:Bool→ao→Prop),k (p z) aT→tt (some (.int z)::bA) aT k)
  (he:∀(z:Int) aT (k:cD),k (.int z) aT→b2 (some (.int z)::bA) aT k)
  (q:Q (.ref acc) (upd H acc (.lst ((ns.filter p).map V.int)))):y4 (oS K a) tt b2 bA Q H acc:=by
 have Ab:a≠acc:=cB bk h0
 have iD:(ns.map V.int).length=ns.length:=length_map _
 refine⟨ns.length,fun i ys ay=>i≤ns.length∧ys=((ns.take i).filter p).map V.int∧ay=upd H acc (.lst ys),⟨zero_le _,rfl,rfl⟩,?_⟩
 rintro i ys ay ⟨aL,rfl,rfl⟩
 have kJ:(upd H acc (.lst (((ns.take i).filter p).map V.int))) a=some (.lst (ns.map V.int)):=by rw[aA Ab];exact bk
 by_cases c8:i<ns.length
 ·have Ol:ns[i]?=some ns[i]:=getElem?_eq_getElem c8
  have bh:(ns.map V.int)[i]?=some (.int ns[i]):=rp Ol
  refine .inr ⟨⟨_,_,aO.of kJ,bh⟩,c8,?_⟩
  rintro v aT ⟨rfl,aX⟩
  have ev:v=.int ns[i]:=by
   have:=aX _ (aO.of kJ)
   rw[bh]at this
   exact (Option.some.inj this).symm
  subst ev
  have i4:(ns.take (i+1)).filter p=(ns.take i).filter p++[ns[i]].filter p:=by
   rw[take_add_one,Ol,List.filter_append]
   rfl
  refine aZ _ _ _ ?_
  cases aF:p ns[i] with
  | false =>
   refine cV ⟨c8,?_,rfl⟩
   rw[i4,filter_cons,aF]
   simp
  | true =>
   refine el (he _ _ _ ?_)
   have lf:(((ns.take i).filter p).map V.int).length≤1000:=by
    rw[length_map]
    have ak:=length_filter_le p (ns.take i)
    rw[length_take]at ak
    omega
   refine⟨aR,lt_of_le_of_lt lf (by decide),c8,?_,by rw[rv]⟩
   rw[i4,filter_cons,aF]
   simp
 ·have e:i=ns.length:=by omega
  subst e
  refine .inl ⟨⟨_,aO.of kJ,by rw[iD];exact le_refl _⟩,?_⟩
  rw[take_length]
  exact q
structure tN (bP ex:List Addr) (h h':Heap):Prop where
 keep:∀b o,h.get? b=some o→b∉bP→b∉ex→h'.get? b=some o
 slot:∀b o,h.get? b=some o→b∈bP→b∉ex→∃dz,h'.get? b=some { o with slots:=dz }
theorem tN.there {bP ex:List Addr}{h h':Heap}(x:tN bP ex h h') {b:Addr}{o:Obj}(e:h.get? b=some o) (aa:b∉ex):∃fl,h'.get? b=some fl:=by
 by_cases z:b∈bP
 ·obtain⟨dz,q⟩:=x.slot b o e z aa
  exact⟨_,q⟩
 ·exact⟨_,x.keep b o e z aa⟩
theorem e_.held {P:Program}{w:World}{bP ex:List Addr}{h h':Heap}{H:ao}(k:e_ P w H h) (x:tN bP ex h h') (hf:∀b∈bP,H b=none) (he:∀b∈ex,H b=none):e_ P w H h':=fun a o e =>
 (k a o e).j2 (fun b u aa q=>by
  have aP:H b≠none:=by
   rcases aa with z | z
   ·rw[z,e];exact fun y=>nomatch y
   ·rw[z];exact fun y=>nomatch y
  exact x.keep b u q (fun z=>aP (hf b z)) fun z=>aP (he b z)) (fun _ q=>q) fun _ _ q=>q
theorem fM.obj {P:Program}{w:World}{H:ao}{h:Heap}{a:Addr}{o:fp}(x:fM P w H h a o):∃bY,h.get? a=some bY:=by
 cases o with
 | lst xs=>obtain⟨_,_,_,_,e⟩:=x;exact⟨_,e⟩
 | tup xs=>obtain⟨_,_,_,bY,e,_⟩:=x;exact⟨_,e⟩
 | bS kvs=>obtain⟨_,_,_,_,o,_,_,e,_⟩:=x;exact⟨_,e⟩
 | gJ kvs=>obtain⟨_,_,_,_,o,_,_,e,_⟩:=x;exact⟨_,e⟩
 | set S n=>obtain⟨o,_,_,_,e,_⟩:=x;exact⟨_,e⟩
 | ins C dx bP=>obtain⟨_,_,_,e,_⟩:=x;exact⟨_,e⟩
 | own y=>obtain⟨_,e⟩:=x;exact⟨_,e⟩
 | AI bP=>obtain⟨_,⟨_,_,_,e,_⟩,_⟩:=x;exact⟨_,e⟩
 | j6 lo aL=>obtain⟨_,_,_,e⟩:=x;exact⟨_,e⟩
 | jF bY u=>obtain⟨e,_⟩:=x;exact⟨_,e⟩
 | qI ps=>exact⟨_,(show h.get? a=some _ from x)⟩
 | met f y=>exact⟨_,(show h.get? a=some _ from x)⟩
 | ext φ=>obtain⟨_,⟨_,e⟩,_⟩:=x;exact⟨_,e⟩
section
variable {X:bI}{pins:List (Addr × Obj)}{σ:St}{H:ao}{s:Shared}{h':Heap}
theorem Inv.held {ex:List Addr}{t':Nat}(I:Inv X pins σ H s) (p5:X.ex=[]) (x:tN (gO X.stack) ex s.heap h') (hS:∀b∈ex,H b=none) (h0:∀b∈ex,X.fP.heap.get? b=none) (aE:∀b∈ex,b≠X.env.locals) (ai:∀b∈ex,∀y c,X.env.cells.lookup y=some c→c≠b)
  (aF:∀b∈ex,∀p∈X.bK++pins,p.1≠b):Inv X pins σ H { s with heap:=h',toks:=t' }:=by
 have bG:e_ X.prog X.w H h':=e_.held I.bG x I.u4 hS
 have nC:∀b,b≠X.env.locals→b∉X.bP→b∉gO X.stack:=fun b ak az aa=>(mem_cons.mp (I.tn b aa)).elim ak az
 have Eo:∀b o,X.fP.heap.get? b=some o→b∉ex:=fun b o e aa=>by rw[h0 b aa]at e;cases e
 have anyS:∀b o,s.heap.get? b=some o→b∉ex→∃dz,h'.get? b=some { o with slots:=dz }:=fun b o e aa=>by
  by_cases z:b∈gO X.stack
  ·exact x.slot b o e z aa
  ·exact⟨o.slots,x.keep b o e z aa⟩
 have cellK:∀y c,X.env.cells.lookup y=some c→∀v,s.heap.IsCell c v→h'.IsCell c v:=fun y c e v ⟨o,aC,hd⟩=>by
  obtain⟨dz,q⟩:=anyS c o aC fun z=>ai c z y c e rfl
  exact⟨_,q,hd⟩
 have z_:∀b o,X.fP.heap.get? b=some o→b≠X.env.locals:=fun b o e=>ne_of_lt (lt_of_lt_of_le (lt_size e) I.ok.above)
 refine⟨I.ok,I.os,I.bare,⟨fun b o e n aa bh=>?_,fun b o e n aa bh=>?_,fun b o e n bh=>I.base.free b o e n bh,fun b o e bh=>?_,I.base.pA,I.base.oA,I.base.pB⟩,?_,fun y c e=>?_,I.free,I.jz,fun p tX=>?_,bG,I.len⟩
 ·exact x.keep b o (I.base.keep b o e n aa bh) (nC b (z_ b o e) aa) (Eo b o e)
 ·obtain⟨dz,aH⟩:=I.base.slot b o e n aa bh
  obtain⟨D9,aM⟩:=anyS b _ aH (Eo b o e)
  exact⟨D9,aM⟩
 ·obtain⟨fl,aH⟩:=I.base.there b o e bh
  exact x.there aH (Eo b o e)
 ·obtain⟨m,⟨Gm,aB,cp,aC,hd,aS,hf⟩,ER⟩:=I.loc
  obtain⟨dz,q⟩:=anyS _ Gm aC fun z=>aE _ z rfl
  refine⟨m,⟨_,aB,cp,q,hd,aS,hf⟩,fun i y v aH aM bT=>?_⟩
  obtain⟨u,r,l⟩:=ER i y v aH aM bT
  refine⟨u,r,?_⟩
  rcases l with l | ⟨k,c,e,z⟩
  ·exact .inl l
  ·exact .inr ⟨k,c,e,cellK y c e _ z⟩
 ·obtain⟨v,z⟩:=I.cell y c e
  exact⟨v,cellK y c e v z⟩
 ·obtain⟨e,n,ne,kP,d⟩:=I.pin p tX
  exact⟨x.keep p.1 p.2 e (nC p.1 ne kP) fun z=>aF p.1 z p tX rfl,n,ne,kP,d⟩
end
def Fx (h0:Heap) (H:ao) (h:Heap) (e:Addr) (cls:Value):Prop :=
 ∃jN vs T m2 aQ a0,h.get? e=some jN∧jN.cls=cls∧jN.data=.fields vs∧vs[0]?=some a0∧vs[1]?=some (.ref T)∧T≠e∧h.get? T=some m2∧m2.data=.fields aQ∧aQ[3]?=some .none∧h0.get? e=none∧h0.get? T=none∧H e=none∧H T=none
def d_ (P:Program) (w:World):mU:=fun outer H s E e aJ=>∃aU cls af,e=.ref aU∧aJ.os=s.os∧AllBare aJ.gens∧hk (gO outer) [] H af s.heap aJ.heap∧e_ P w af aJ.heap∧Fx s.heap af aJ.heap aU cls∧E cls none af
theorem CB {h h':Heap}{bP ex:List Addr}(st:(hideAll h (ex++bP)).StaysIn h') (up:h.UpToSlots h') (hf:∀b∈bP,∀o,h.get? b=some o→∀vs,o.data≠.fields vs):tN bP ex h h' :=
 ⟨fun b o e ak az=>st b o (PySem.W.hideAll_get _ e fun z=>(mem_append.mp z).elim az ak),fun b o e ak _=>up b o e (hf b ak o e)⟩
theorem KR {P:Program}{w:World}{h0 h h':Heap}{H:ao}{bP ex:List Addr}{e:Addr}{cls a0:Value}(Gg:h'.TracedW (hideAll h (ex++bP)) e cls a0) (d:tN bP ex h h') (nK:∀b,h.get? b=none→h0.get? b=none) (k:e_ P w H h)
  (bh:∀b∈ex,h0.get? b=none∧H b=none) (hf:∀b∈bP,∃o,h.get? b=some o∧∀vs,o.data≠.fields vs) (he:e∈ex):Fx h0 H h' e cls:=by
 obtain⟨jN,vs,T,m2,aQ,g1,⟨g2,g3⟩,jt,n3,p9,rb,n2,kk,pR⟩:=Gg
 have i3:h0.get? T=none∧H T=none:=by
  cases q:h.get? T with
  | none =>
   refine⟨nK T q,?_⟩
   cases z:H T with
   | none=>rfl
   | some u =>
    obtain⟨bY,y⟩:=(k T u z).obj
    rw[q]at y
    cases y
  | some o =>
   by_cases hm:T∈ex++bP
   ·rcases mem_append.mp hm with z | z
    ·exact bh T z
    ·by_cases Gb:T∈ex
     ·exact bh T Gb
     ·obtain⟨cg,cS,c2⟩:=hf T z
      obtain⟨dz,mW⟩:=d.slot T cg cS z Gb
      rw[n2]at mW
      have w6:m2={ cg with slots:=dz }:=Option.some.inj mW
      rw[w6]at kk
      exact absurd kk (c2 aQ)
   ·rw[PySem.W.hideAll_get _ q hm]at p9
    cases p9
 exact⟨jN,vs,T,m2,aQ,a0,g1,g2,jt,g3,n3,rb,n2,kk,pR,(bh e he).1,i3.1,(bh e he).2,i3.2⟩
section
variable {X:bI}{pins:List (Addr × Obj)}{σ:St}{H:ao}{s:Shared}
theorem Inv.vy (I:Inv X pins σ H s):∀b∈gO X.stack,∃o,s.heap.get? b=some o∧∀vs,o.data≠.fields vs:=fun b aa=>(I.stack.mem aa).2
theorem Inv.wi (I:Inv X pins σ H s) (p5:X.ex=[]):∀b,s.heap.get? b=none→X.fP.heap.get? b=none:=fun b e=>by
 cases q:X.fP.heap.get? b with
 | none=>rfl
 | some o =>
  obtain⟨fl,y⟩:=I.base.there b o q (by rw[p5];simp)
  rw[e]at y
  cases y
theorem Inv.B8 (I:Inv X pins σ H s) (ex:List Addr):s.heap.FunFrames (hideAll s.heap (ex++gO X.stack)) X.stack :=
 PySem.W.funFrames_hide I.stack fun env he a hf=>mem_append_right _ (mem_filterMap.mpr ⟨env,he,hf⟩)
theorem Inv.dr (I:Inv X pins σ H s) {b:Addr}(e:s.heap.get? b=none):b≠X.env.locals∧(∀y c,X.env.cells.lookup y=some c→c≠b)∧∀p∈X.bK++pins,p.1≠b:=by
 refine⟨fun z=>?_,fun y c q z=>?_,fun p aF z=>?_⟩
 ·obtain⟨m,⟨o,_,_,aC,_⟩,_⟩:=I.loc
  rw[←z,e]at aC
  cases aC
 ·obtain⟨v,o,aC,_⟩:=I.cell y c q
  rw[z,e]at aC
  cases aC
 ·have:=(I.pin p aF).1
  rw[z,e]at this
  cases this
end
structure A6 (X:bI) (pins:List (Addr × Obj)) (σ:St) (H:ao) (s:Shared) (e:Addr) (cls:Value):Prop where
 inv:Inv X pins σ H s
 OL:Fx X.fP.heap H s.heap e cls
 dr:∀b,(b=e∨∃jN vs,s.heap.get? e=some jN∧jN.data=.fields vs∧vs[1]?=some (.ref b))→b≠X.env.locals∧(∀y c,X.env.cells.lookup y=some c→c≠b)∧∀p∈X.bK++pins,p.1≠b
section
variable {X:bI}{pins:List (Addr × Obj)}{σ:St}{H af:ao}{s aJ:Shared}{E:hj}{e:Value}
theorem Inv.Kc (I:Inv X pins σ H s) (p5:X.ex=[]) (h:d_ X.prog X.w X.stack H s E e aJ):∃aU cls af,e=.ref aU∧A6 X pins σ af aJ aU cls∧E cls none af:=by
 obtain⟨aU,cls,af,rfl,os,bare,un,bG,eW,q⟩:=h
 refine⟨aU,cls,af,rfl,⟨I.zl (ch:=[]) os un bG bare (fun b z=>absurd z (by simp)),?_,?_⟩,q⟩
 ·obtain⟨jN,vs,T,m2,aQ,a0,g1,g2,g3,jt,n3,p9,rb,n2,kk,pR,r6,t7,t6⟩:=eW
  exact⟨jN,vs,T,m2,aQ,a0,g1,g2,g3,jt,n3,p9,rb,n2,kk,I.wi p5 _ pR,I.wi p5 _ r6,t7,t6⟩
 ·obtain⟨jN,vs,T,m2,aQ,a0,g1,g2,g3,jt,n3,p9,rb,n2,kk,pR,r6,t7,t6⟩:=eW
  rintro b (rfl | ⟨acz,vs',cS,c2,mW⟩)
  ·exact I.dr pR
  ·rw[g1]at cS
   cases cS
   rw[g3]at c2
   cases c2
   rw[n3]at mW
   cases mW
   exact I.dr r6
theorem A6.V0 {P:Program}{w:World}{K:PySem.W.Frag}{mg:Str→Option Value}{base:Heap}{N:List Str}{qual:Str}{scope:Scope}{f:Addr}{cd:Value}{A:Around}{outer:List Env}{s0:Shared}{d6:ao}{E:hj}{aU:Addr}{cls:Value}
  (U:A6 (f9 (d_ P w) P w K mg base N qual scope f cd A outer s0 d6 E) pins σ H s aU cls) (q:E cls none H):(f9 (d_ P w) P w K mg base N qual scope f cd A outer s0 d6 E).dN (.ref aU) s:=by
 obtain⟨I,eW,dr⟩:=U
 obtain⟨jN,vs,T,m2,aQ,a0,g1,g2,g3,jt,n3,p9,rb,n2,kk,pR,r6,t7,t6⟩:=id eW
 have bh:∀b∈[aU,T],s0.heap.get? b=none∧H b=none:=fun b aa=>by
  rcases mem_cons.mp aa with z | z
  ·rw[z];exact⟨pR,t7⟩
  ·rw[mem_singleton.mp z];exact⟨r6,t6⟩
 have rR:∀b∈[aU,T],_:=fun b aa=>dr b (by
  rcases mem_cons.mp aa with z | z
  ·exact .inl z
  ·exact .inr ⟨jN,vs,g1,g3,by rw[mem_singleton.mp z];exact n3⟩)
 refine wpAny_leaving_nextW (base:=hideAll s.heap ([aU,T]++gO (f9 (d_ P w) P w K mg base N qual scope f cd A outer s0 d6 E).stack)) (L:=(f9 (d_ P w) P w K mg base N qual scope f cd A outer s0 d6 E).env.locals) (a0:=a0) (cls:=cls) I.ok.frames (I.B8 _) rfl
  ⟨jN,vs,T,m2,aQ,g1,⟨g2,jt⟩,g3,n3,PySem.W.hideAll_none _ (by simp),p9,rb,n2,kk⟩ (fun b o y=>PySem.W.of_hideAll _ y) (PySem.W.hideAll_none _ (by simp)) fun h' eS=>?_
 obtain⟨k1,k2,k3,m6⟩:=eS
 have d:=CB k1 m6 fun b aa o aC vs=>by
  obtain⟨fl,cS,c2⟩:=I.vy b aa
  rw[aC]at cS
  cases cS
  exact c2 vs
 have fo:=I.held (t':=s.toks) rfl d (fun b aa=>(bh b aa).2) (fun b aa=>(bh b aa).1) (fun b aa=>(rR b aa).1) (fun b aa=>(rR b aa).2.1) fun b aa=>(rR b aa).2.2
 exact⟨aU,cls,H,rfl,fo.os,fo.bare,fo.base,fo.bG,KR k3 d (I.wi rfl) I.bG bh I.vy (by simp),q⟩
theorem j0 {P:Program}{w:World}{K:PySem.W.Frag}{mg:Str→Option Value}{base:Heap}{N:List Str}{qual:Str}{scope:Scope}{f:Addr}{cd:Value}{A:Around}{outer:List Env}{s0:Shared}{d6:ao}{E x6:hj}(GA:∀c H,x6 c none H→E c none H) :
  Passes (d_ P w) (f9 (d_ P w) P w K mg base N qual scope f cd A outer s0 d6 E) x6:=fun pins σ H s e aJ I h=>by
 obtain⟨aU,cls,af,rfl,U,q⟩:=I.Kc rfl h
 exact U.V0 (GA _ _ q)
end
abbrev xW:=St→ao→(ao→Prop)→Prop
def A9 (X:bI) (aB:List Expr) (n:Nat) (t:xW):Prop :=
 ∀(pins:List (Addr × Obj)) (s:Shared) (σ:St) (H:ao) (out:Str) (Q:ao→Prop),Inv X pins σ H s→out.length+n≤sizeLine→t σ H Q →
  wpAny (model X.prog X.w) X.A (joinParts out (evalEach aB X.env)) (fun v aJ=>∃y bF,v=.str y bF∧∃af,Inv X pins σ af aJ∧Q af) X.dN s
section
variable {X:bI}
theorem yU:A9 X [] 0 (fun σ H Q=>Q H):=fun pins s σ H out Q I hz q =>
 joinParts_nil ⟨out,_,rfl,H,I.kept (h':=s.heap) (t':=s.toks+1) fun _ _ e=>e,q⟩ (by omega)
def WR (b2:TE) (m:Nat) (t:xW):xW:=fun σ H Q=>b2 σ H fun v H1=>∃y:Str,v=.str y∧y.length≤m∧t σ H1 Q
theorem mB {e:Expr}{aB:List Expr}{b2:TE}{n:Nat}{t:xW}(m:Nat) (he:b9 X e b2) (h:A9 X aB n t) (aX:evalEach (e::aB) X.env=eval e X.env::evalEach aB X.env:=by rfl):A9 X (e::aB) (n+m) (WR b2 m t):=by
 intro pins s σ H out Q I hz bo
 rw[aX]
 refine joinParts_cons (bU (he pins s σ H _ I bo) fun v s1 ⟨x,H1,a3,bz,y,ex,ck,q⟩=>?_)
 subst ex
 obtain⟨bF,rfl⟩:∃bF,v=.str y bF:=bz
 have aE:(out++y).length=out.length+y.length:=strLen_append out y
 exact⟨by rw[aE];omega,h pins s1 σ H1 (out++y) Q a3 (by rw[aE];omega) q⟩
def Xb (b2:TE):TE:=fun σ H Q=>b2 σ H fun v H1=>∃i:Int,v=.int i∧i.natAbs.log2<1920∧Q (.str (toString i)) H1
theorem vg {e:Expr}{b2:TE}{pos:Pos}(he:b9 X e b2):b9 X (.FormattedValue e (-1) none pos) (Xb b2):=by
 intro pins s σ H Q I bo
 refine FormattedValue_plain (bU (he pins s σ H _ I bo) fun v s1 ⟨x,H1,a3,bz,i,ex,aL,q⟩=>?_)
 subst ex
 obtain⟨bF,rfl⟩:∃bF,v=.int i bF:=bz
 exact formatField_int_small aL ⟨.str (toString i),H1,a3.kept (h':=s1.heap) (t':=s1.toks+1+1) fun _ _ e=>e,⟨_,rfl⟩,q⟩
theorem yt {aH aM:Expr}{aB:List Expr}{n:Nat}{t:xW}{pos:Pos}(h:A9 X (aH::aM::aB) n t) (aP:n≤sizeLine:=by decide) (aX:evalEach (aH::aM::aB) X.env=eval aH X.env::eval aM X.env::evalEach aB X.env:=by rfl) :
  b9 X (.JoinedStr (aH::aM::aB) pos) (fun σ H Q=>t σ H fun H1=>∀y:Str,Q (.str y) H1):=by
 intro pins s σ H Q I bo
 refine JoinedStr_many ?_
 rw[←aX]
 refine bU (h pins s σ H Str.empty _ I (by have:(Str.empty).length=0:=rfl;omega) bo) fun v s1 ⟨y,bF,ev,H1,a3,q⟩=>?_
 subst ev
 exact⟨.str y,H1,a3,⟨bF,rfl⟩,q y⟩
theorem s7 {i:Int}(h:i.natAbs.log2<1920):(toString i:Str).length≤1921:=by
 have e:=int_text_length_le (k:=1920) (by decide) h
 show (Str.ofString (toString i)).length≤1921
 rw[PySem.ofString_length]
 omega
theorem Ih {i:Int}(h:i.natAbs<2 ^ 1900):i.natAbs.log2<1920:=by
 by_cases z:i.natAbs=0
 ·rw[z]
  decide
 ·exact (Nat.log2_lt z).mpr (Nat.lt_trans h (Nat.pow_lt_pow_right (by decide) (by decide)))
end
theorem VO {K:PySem.W.Frag}{h:Heap}{mg:Str→Option Value}{x:Str}{C:Addr}{bmB:List Value}{newId:String}(X:K.In h) (aa:mg x=some (.ref C)) (q:excIn K C bmB newId=true):OwnCls x C bmB newId mg h:=by
 constructor
 ·exact aa
 ·unfold excIn at q
  split at q
  case h_2=>cases q
  case h_1 dd cd dz aC =>
   split at q
   case h_2=>cases q
   case h_1 Bd bm k0 k1 k2 k3 n k5 hm aY =>
    rw[and_eq_true,and_eq_true,and_eq_true,and_eq_true,and_eq_true]at q
    obtain⟨⟨⟨⟨⟨bx,aW⟩,fE⟩,jn⟩,kN⟩,xh⟩:=q
    have aH:=beq_iff_eq.mp bx
    have aM:=beq_iff_eq.mp aW
    have mc:=beq_iff_eq.mp xh
    have bT:cd.hasDel=false:=by simpa using fE
    subst aH aM
    cases cd with
    | mk nm bs mro ns Gj hd sn sub ab col del =>
     cases dz with
     | mk l =>
      have hm:mro=_:=hm
      have aY:l=_:=aY
      have bT:del=false:=bT
      subst hm aY bT
      exact⟨bm,ns,nm,Gj,bs,hd,sn,sub,ab,col,dd,k0,k1,k2,k3,k5,_,X _ _ aC,.of_isNs (PySem.W.isNs_of_in X kN),PySem.W.nsMap_none_of_in X kN mc,PySem.W.tail_of_in X jn⟩
section
variable {P:Program}{w:World}{K:PySem.W.Frag}{mg:Str→Option Value}{base:Heap}{N:List Str}{qual:Str}{scope:Scope}{f:Addr}{cd:Value}{A:Around}{outer:List Env}{s0:Shared}{d6:ao}{E:hj}{pins:List (Addr × Obj)}{σ:St}{H:ao}{s:Shared}
theorem Inv.thrown {h':Heap}{aU:Addr}{cls:Value}{args:List Value}(I:Inv (f9 (d_ P w) P w K mg base N qual scope f cd A outer s0 d6 E) pins σ H s) (bh:Heap.MadeExcOf s.heap h' aU cls args) (q:E cls none H) :
  (f9 (d_ P w) P w K mg base N qual scope f cd A outer s0 d6 E).dN (.ref aU) { s with heap:=h' }:=by
 have dr:=I.dr bh.new
 have q7:s0.heap.get? aU=none:=I.wi rfl _ bh.new
 have aa9:H aU=none:=by
  cases z:H aU with
  | none=>rfl
  | some u =>
   obtain⟨bY,y⟩:=(I.bG aU u z).obj
   rw[bh.new]at y
   cases y
 have a3:=I.kept (t':=s.toks) bh.keeps
 obtain⟨t,he,_,_⟩:=bh.there
 have EG:∀b∈[aU],s0.heap.get? b=none∧H b=none:=fun b aa=>by rw[mem_singleton.mp aa];exact⟨q7,aa9⟩
 refine wpAny_leaving_firstW (s:={ s with heap:=h' }) (base:=hideAll h' ([aU]++gO (f9 (d_ P w) P w K mg base N qual scope f cd A outer s0 d6 E).stack)) (L:=(f9 (d_ P w) P w K mg base N qual scope f cd A outer s0 d6 E).env.locals) (a0:=.ref t) a3.ok.frames (a3.B8 _) rfl
  he (fun b o y=>PySem.W.of_hideAll _ y) (PySem.W.hideAll_none _ (by simp)) rfl rfl rfl fun az eS=>?_
 obtain⟨k1,k2,k3,m6⟩:=eS
 have d:=CB k1 m6 fun b aa o aC vs=>by
  obtain⟨fl,cS,c2⟩:=a3.vy b aa
  rw[aC]at cS
  cases cS
  exact c2 vs
 have cL:=a3.held (t':=s.toks) rfl d (fun b aa=>(EG b aa).2) (fun b aa=>(EG b aa).1) (fun b aa=>by rw[mem_singleton.mp aa];exact dr.1) (fun b aa=>by rw[mem_singleton.mp aa];exact dr.2.1) fun b aa=>by rw[mem_singleton.mp aa];exact dr.2.2
 exact⟨aU,cls,H,rfl,cL.os,cL.bare,cL.base,cL.bG,KR k3 d (a3.wi rfl) a3.bG EG a3.vy (by simp),q⟩
def VC (C:Addr) (E:hj) (b2:TE):fW:=fun _ σ H=>b2 σ H fun _ H1=>E (.ref C) none H1
theorem yE {x:Str}{C:Addr}{bm:List Value}{newId V6 B:String}{e:Expr}{b2:TE}{np gU pos:Pos}(abp:excIn K C bm newId=true) (hm:mg x=some (.ref C)) (FB:ExcBaseFacts B newId V6 bm) (cF:lK (f9 (d_ P w) P w K mg base N qual scope f cd A outer s0 d6 E) x)
  (he:b9 (f9 (d_ P w) P w K mg base N qual scope f cd A outer s0 d6 E) e b2) (hd:(x == ("__debug__":Str))=false:=by decide)
  (aY:starEach [e] (f9 (d_ P w) P w K mg base N qual scope f cd A outer s0 d6 E).env=[(false,eval e (f9 (d_ P w) P w K mg base N qual scope f cd A outer s0 d6 E).env)]:=by rfl) :
  kp (f9 (d_ P w) P w K mg base N qual scope f cd A outer s0 d6 E) (.Raise (some (.Call (.Name x np) [e] [] gU)) none pos) (VC C E b2):=by
 intro pins s σ H D I h
 have O:=VO (bmB:=bm) (newId:=newId) I.ok.mod.tU hm abp
 obtain⟨h3,abN,nm,q,bs,hdct,sn,sub,ab,col,dd,k0,k1,k2,k3,k5,mN,Z2,f_,ZA,T⟩:=O.obj
 refine wpAny_Raise_call_subT (C:=C) (nm:=nm) (q:=q) (N:=abN) (bs:=bs) (bm:=h3) (hdct:=hdct) (sn:=sn) (sub:=sub) (ab:=ab) (col:=col) (dd:=dd) (k0:=k0) (k1:=k1) (k2:=k2) (k3:=k3) (k5:=k5)
  FB (mN:=mN) (T.hasType FB.hasBase) (I.ok.hd rfl) (by rw[aY];rfl) ZA (yP I cF hm ⟨rfl,?_⟩ hd)
 rw[aY]
 refine Calls.evalArgs_plain ?_
 show wpAny _ _ (spliced [(false,eval e (f9 (d_ P w) P w K mg base N qual scope f cd A outer s0 d6 E).env)]) _ _ s
 refine Calls.spliced_cons (bU (he pins s σ H _ I h) fun u s1 ⟨v,H1,a3,bz,bx⟩=>?_)
 refine Calls.spliced_nil ⟨rfl,by show 1≤sizeLine;decide,a3.hp _ _ Z2,f_.keeps a3.hp,T.keeps a3.hp,fun h' aU bh=>?_⟩
 exact a3.thrown bh bx
end
section
variable {P:Program}{w:World}{K:PySem.W.Frag}{mg:Str→Option Value}{base:Heap}
theorem bW.nE {x qual:Str}{st:Stmt}{f:Addr}{fd:FuncData}{N ps:List Str}{k:Nat}{sp:dj}(F:bW K x qual st f fd) (S:dI N ps (cR st)) (len:∀vs H Q E,sp vs H Q E→vs.length=ps.length)
  (vu:∀(cy:Value) (A:Around) (outer:List Env) (s:Shared) (H:ao) (vs:List V) (Q:cD) (E:hj),gE k (A.deeper (envOfC qual (cR st) s.heap.objs.size f cy))→sp vs H Q E →
   ∃t,hC (f9 (d_ P w) P w K mg base N qual (cR st) f cy A outer s H E) (iQ st) t∧t { da:=fun _ af=>Q .cP af,l3:=Q } (start N vs) H):br P w K mg base (d_ P w) (k+1) f fd ps sp:=by
 obtain⟨m1,e8,eo,doc,pm,an,cy,fc,pM,rfl,lk,k_⟩:=F.ex
 exact La lk k_ S len fun A outer s H vs Q E aD oH=>vu cy A outer s H vs Q E aD oH
end
def zo (X:bI) (pp:List (Addr × Obj)) (cs:List (Addr × Str)) (Q:cD):bI :=
 { X with bK:=X.bK++pp,dN:=fun e aJ=>∃aU C r σ H,e=.ref aU∧A6 X pp σ H aJ aU (.ref C)∧cs.lookup C=some r∧Q (.str r) H }
theorem Inv.Wh {X:bI}{pp:List (Addr × Obj)}{cs:List (Addr × Str)}{Q:cD}{σ:St}{H:ao}{s:Shared}(I:Inv X pp σ H s):Inv (zo X pp cs Q) [] σ H s :=
 ⟨⟨I.ok.mod,I.ok.kind,I.ok.glob,I.ok.blt,I.ok.above,I.ok.inj,I.ok.has,I.ok.pU,I.ok.hd,I.ok.frames,I.ok.nC,I.ok.pS,I.ok.bs,I.ok.ll,I.ok.nv,I.ok.qE,I.ok.j5,I.ok.nN⟩,I.os,I.bare,I.base,I.loc,I.cell,I.free,I.jz,fun p aF=>I.pin p (by
  have aF:p∈(X.bK++pp)++[]:=aF
  rw[append_nil]at aF
  exact aF),I.bG,I.len⟩
theorem Inv.vr {X:bI}{pp pins:List (Addr × Obj)}{cs:List (Addr × Str)}{Q:cD}{σ:St}{H:ao}{s:Shared}(I:Inv (zo X pp cs Q) pins σ H s):Inv X pp σ H s :=
 ⟨⟨I.ok.mod,I.ok.kind,I.ok.glob,I.ok.blt,I.ok.above,I.ok.inj,I.ok.has,I.ok.pU,I.ok.hd,I.ok.frames,I.ok.nC,I.ok.pS,I.ok.bs,I.ok.ll,I.ok.nv,I.ok.qE,I.ok.j5,I.ok.nN⟩,I.os,I.bare,I.base,I.loc,I.cell,I.free,I.jz,fun p aF=>I.pin p (mem_append_left _ aF),I.bG,I.len⟩
theorem WB {X:bI}{P:Program}{w:World}{pp:List (Addr × Obj)}{cs:List (Addr × Str)}{Q:cD}{E:hj}(gP:X.prog=P) (hw:X.w=w) (p5:X.ex=[]) (GA:∀c H,E c none H→∃C r,c=.ref C∧cs.lookup C=some r∧Q (.str r) H):Passes (d_ P w) (zo X pp cs Q) E:=by
 subst gP hw
 intro pins σ H s e aJ I h
 have abU:=I.vr
 obtain⟨aU,cls,af,rfl,U,q⟩:=abU.Kc p5 h
 obtain⟨C,r,rfl,aD,bo⟩:=GA _ _ q
 exact⟨aU,C,r,σ,af,rfl,U,aD,bo⟩
inductive va (X:bI):List ExceptHandler→List (Addr × Str)→Prop where
 | nil:va X [] []
 | cons {x:Str} {np xd GL pos:Pos} {r:Str} {k:Nat} {C:Addr} {aY:List ExceptHandler} {cs:List (Addr × Str)} (hm:X.mg x=some (.ref C)) (cF:lK X x) (hd:(x == ("__debug__":Str))=false) (h:va X aY cs) :
   va X (.ExceptHandler (some (.Name x np)) none [.Return (some (.Constant (.str r) k GL)) xd] pos::aY) ((C,r)::cs)
def Xu (Q:cD) (dG:fW):fW:=fun D σ H=>(∀v H,Q v H→D.l3 v H)∧dG D σ H
section
variable {X:bI}{pp:List (Addr × Obj)}{σ:St}{H:ao}
structure Lies (X:bI) (pp:List (Addr × Obj)) (σ:St) (H:ao) (s1:Shared) (ex:List Addr) (aU:Addr) (cls a0:Value) (s:Shared):Prop where
 inv:Inv X pp σ H s
 eW:Heap.FlyingW (hideAll s1.heap (ex++gO X.stack)) X.stack aU cls a0 s.heap
 up:s1.heap.UpToSlots s.heap
 eq:∃h',s={ s1 with heap:=h' }
def markX (X:bI) (e:Value):bI:={ X with A:=X.A.mark (some e),calm:=false }
theorem Inv.Kl {e:Value}{s:Shared}(I:Inv X pp σ H s):Inv (markX X e) pp σ H s :=
 ⟨⟨I.ok.mod,I.ok.kind,I.ok.glob,I.ok.blt,I.ok.above,I.ok.inj,I.ok.has,I.ok.pU,(fun z=>absurd (show false=true from z) Bool.false_ne_true),I.ok.frames,I.ok.nC,I.ok.pS,I.ok.bs,I.ok.ll,I.ok.nv,I.ok.qE,I.ok.j5,I.ok.nN⟩,I.os,I.bare,I.base,I.loc,I.cell,I.free,I.jz,I.pin,I.bG,I.len⟩
theorem Inv.VW {e:Value}{s:Shared}(I:Inv (markX X e) pp σ H s) (hd:X.calm=true→X.A.handled=none):Inv X pp σ H s :=
 ⟨⟨I.ok.mod,I.ok.kind,I.ok.glob,I.ok.blt,I.ok.above,I.ok.inj,I.ok.has,I.ok.pU,hd,I.ok.frames,I.ok.nC,I.ok.pS,I.ok.bs,I.ok.ll,I.ok.nv,I.ok.qE,I.ok.j5,I.ok.nN⟩,I.os,I.bare,I.base,I.loc,I.cell,I.free,I.jz,I.pin,I.bG,I.len⟩
theorem R5 {M:Addr}{e0:Env}{outer:List Env}{aU C:Addr}{r:Str}{a0:Value}{ak:Shared}{ex:List Addr}{Rc:Flow→Shared→Prop}{hO:Value→Shared→Prop}
  (land:∀(Rq:Around) (s:Shared) (uE:Unit→Shared→Prop) (x6:Value→Shared→Prop),Lies X pp σ H ak ex aU (.ref C) a0 s→(∀aJ,Lies X pp σ H ak ex aU (.ref C) a0 aJ→uE () aJ)→wpAny (model X.prog X.w) Rq (setFlight (.ref aU) none) uE x6 s)
  (fin:∀(bA:St) (s:Shared) (u:Value),Inv X pp bA H s→RelV (.str r) u→Rc (.ret u) s) :
  ∀{aY:List ExceptHandler} {cs:List (Addr × Str)},va X aY cs→(∀p∈cs,exmOne X.K (.ref C) (.ref p.1)=some (C == p.1))→cs.lookup C=some r →
   ∀s,Lies X pp σ H ak ex aU (.ref C) a0 s→wpAny (model X.prog X.w) X.A (handleBy (.ref aU) X.env aY) Rc hO s:=by
 intro aY cs ai
 induction ai with
 | nil=>intro _ aE;cases aE
 | @cons x np xd GL pos fR k Bd aY cs hm abq hd ai cC =>
  intro bh aE s L
  refine wpAny_handleBy_cons ?_ (by intro q;cases q)
  have I:=L.inv
  refine codeAny_handlers_test ?_
  have cL:Inv (markX X (.ref aU)) pp σ H s:=I.Kl
  refine yP (X:=markX X (.ref aU)) cL abq hm ?_ hd
  have wj:PySem.W.Looks (model X.prog X.w) s.heap (typeOf (.ref aU)) (.ref C):=by
   obtain⟨bY,EO,ai⟩:=L.eW.there
   rw[←ai]
   exact (PySem.W.Looks.ld EO).andThen .now
  refine (PySem.W.exm_one (M:=model X.prog X.w) I.gN wj (bh _ mem_cons_self)).here ?_
  cases e:C == Bd with
  | true =>
   refine codeAny_handlers_suite (land _ s _ _ L fun aJ abT=>?_)
   have eG:fR=r:=by
    rw[lookup_cons]at aE
    rw[show (C == Bd)=true from e]at aE
    exact Option.some.inj aE
   subst eG
   have cA:Inv ((markX X (.ref aU)).mF (notedBy (model X.prog X.w) (X.A.mark (some (.ref aU))) X.env fun x iB=>cameBackBy (model X.prog X.w) X.A X.env hO x iB)) pp σ H aJ:=(abT.inv.Kl).mF _
   refine bU (bg (c_ bB) pp aJ σ H { da:=fun _ _=>False,l3:=fun v af=>v=.str fR∧af=H } cA ⟨rfl,rfl⟩) fun eW s2 jE=>?_
   cases eW with
   | ret u =>
    obtain⟨v,gs,ay,jY,bL,rfl,rfl⟩:=jE
    exact fin gs s2 u (jY.pk.VW I.ok.hd) bL
   | next=>obtain⟨_,_,_,z⟩:=jE;exact z.elim
   | brk=>obtain⟨_,_,_,z⟩:=jE;exact z.elim
   | cont=>obtain⟨_,_,_,z⟩:=jE;exact z.elim
  | false =>
   refine cC (fun p aF=>bh p (mem_cons_of_mem _ aF)) ?_ s L
   rw[lookup_cons,show (C == Bd)=false from e]at aE
   exact aE
theorem VK {body:List Stmt}{h₀:ExceptHandler}{aY:List ExceptHandler}{cs:List (Addr × Str)}{Q:cD}{dG:fW}{pos:Pos}{e0:Env}{outer:List Env}(p5:X.ex=[]) (iz:X.stack=X.env::X.outer) (hf:X.env.frame=some X.env.locals) (ai:va X (h₀::aY) cs)
  (bh:∀p∈cs,∀q∈cs,exmOne X.K (.ref p.1) (.ref q.1)=some (p.1 == q.1))
  (aa:∀pp,hC (zo X pp cs Q) body dG):kp X (.Try body (h₀::aY) [] [] pos) (Xu Q dG):=by
 intro pins s σ H D I h
 obtain⟨p6,h⟩:=h
 refine wpAny_Try_except (wpAny_mono (aa pins [] s σ H D I.Wh h) (fun eW s1 ak=>?_) fun e s1 ak=>?_)
 ·cases eW with
  | next =>
   obtain⟨jH,H1,a3,bx⟩:=ak
   show wpAny _ _ (execs [] X.env) _ _ s1
   exact wpAny_pure ⟨jH,H1,a3.vr,bx⟩
  | brk=>obtain⟨jH,H1,a3,bx⟩:=ak;exact⟨jH,H1,a3.vr,bx⟩
  | cont=>obtain⟨jH,H1,a3,bx⟩:=ak;exact⟨jH,H1,a3.vr,bx⟩
  | ret u=>obtain⟨v,jH,H1,a3,bL,bx⟩:=ak;exact⟨v,jH,H1,a3.vr,bL,bx⟩
 ·obtain⟨aU,C,r,jH,H1,rfl,U,aE,q⟩:=ak
  obtain⟨a3,OL,dr⟩:=U
  obtain⟨jN,vs,T,m2,aQ,a0,g1,g2,g3,jt,n3,p9,rb,n2,kk,pR,r6,t7,t6⟩:=id OL
  have hex:∀b∈[aU,T],X.fP.heap.get? b=none∧H1 b=none:=fun b aa=>by
   rcases mem_cons.mp aa with z | z
   ·rw[z];exact⟨pR,t7⟩
   ·rw[mem_singleton.mp z];exact⟨r6,t6⟩
  have rR:∀b∈[aU,T],_:=fun b aa=>dr b (by
   rcases mem_cons.mp aa with z | z
   ·exact .inl z
   ·exact .inr ⟨jN,vs,g1,g3,by rw[mem_singleton.mp z];exact n3⟩)
  have ZR:Heap.FlyingW (hideAll s1.heap ([aU,T]++gO X.stack)) X.stack aU (.ref C) a0 s1.heap :=
   ⟨fun b o y=>PySem.W.of_hideAll _ y,PySem.W.hideAll_none _ (by simp),a3.B8 _,jN,vs,T,m2,aQ,g1,⟨g2,jt⟩,g3,n3,PySem.W.hideAll_none _ (by simp),p9,rb,n2,kk⟩
  have mk:∀s2:Shared,(∃h',s2={ s1 with heap:=h' })→(hideAll s1.heap ([aU,T]++gO X.stack)).StaysIn s2.heap→s1.heap.UpToSlots s2.heap→Inv X pins jH H1 s2:=fun s2 ⟨h',aM⟩ st up=>by
   subst aM
   have d:=CB st up fun b aa o aC vs=>by
    obtain⟨fl,cS,c2⟩:=a3.vy b aa
    rw[aC]at cS
    cases cS
    exact c2 vs
   exact a3.held (t':=s1.toks) p5 d (fun b aa=>(hex b aa).2) (fun b aa=>(hex b aa).1) (fun b aa=>(rR b aa).1) (fun b aa=>(rR b aa).2.1) fun b aa=>(rR b aa).2.2
  have oK:X.A.frames=some (X.env::X.outer):=by rw[←iz];exact a3.ok.frames
  have X6:Heap.FlyingW (hideAll s1.heap ([aU,T]++gO X.stack)) (X.env::X.outer) aU (.ref C) a0 s1.heap:=by rw[←iz];exact ZR
  refine wpAny_looks_onW (L:=X.env.locals) oK hf X6 fun dA WX Mx=>?_
  refine wpAny_landsW (s:={ s1 with heap:=dA }) WX fun gz ON Mw=>?_
  have X_:Heap.FlyingW (hideAll s1.heap ([aU,T]++gO X.stack)) X.stack aU (.ref C) a0 gz:=by
   have z:=ON
   rw[←iz]at z
   exact z
  have abS:Lies X pins jH H1 s1 [aU,T] aU (.ref C) a0 { s1 with heap:=gz }:=⟨mk _ ⟨_,rfl⟩ ON.1 (Mx.trans Mw),X_,Mx.trans Mw,⟨_,rfl⟩⟩
  refine R5 (M:=aU) (e0:=X.env) (outer:=X.outer) (r:=r) (fun Rq s2 uE x6 L Z1=>?_) (fun bA s2 u cL bL=>⟨.str r,bA,H1,cL,bL,p6 _ _ q⟩) ai (fun p aF=>?_) aE _ abS
  ·refine lands_againW L.eW fun QO OM Mv=>Z1 _ ?_
   obtain⟨h',rfl⟩:=L.eq
   exact⟨mk _ ⟨QO,rfl⟩ OM.1 (L.up.trans Mv),OM,L.up.trans Mv,⟨QO,rfl⟩⟩
  ·obtain⟨fR,hm⟩:∃fR,(C,fR)∈cs:=by
    refine⟨r,?_⟩
    have:∀{l:List (Addr × Str)},l.lookup C=some r→(C,r)∈l:=by
     intro l
     induction l with
     | nil=>intro z;cases z
     | cons a t cC =>
      intro z
      rw[lookup_cons]at z
      cases y:C == a.1 with
      | true =>
       rw[y]at z
       have dm:a.2=r:=Option.some.inj z
       have dW:C=a.1:=beq_iff_eq.mp y
       rw[←dm,dW]
       exact mem_cons_self
      | false =>
       rw[y]at z
       exact mem_cons_of_mem _ (cC z)
    exact this aE
   exact bh _ hm p aF
end
theorem I2 {H:ao}{a b:Addr}{o u:fp}(h:a≠b):upd (upd H a o) b u=upd (upd H b u) a o:=by
 funext c
 by_cases ak:c=b
 ·subst ak
  rw[aR,aA (Ne.symm h),aR]
 ·by_cases az:c=a
  ·subst az
   rw[aA ak,aR,aR]
  ·rw[aA ak,aA az,aA az,aA ak]
def hf (c aj st pu bF:Addr) (room begun bound:Int):List (Str × V) :=
 [("cellar",.ref c),("desk",.ref aj),("room",.int room),("strokes",.ref st),("begins",.int begun),("puts",.ref pu),("takers",.ref bF),("bound",.int bound)]
section
variable (c aj st pu bF:Addr) (room begun bound sI:Int)
theorem uS:(hf c aj st pu bF room begun bound).lookup ("cellar":Str)=some (.ref c):=by kernel_rfl
theorem pg:(hf c aj st pu bF room begun bound).lookup ("desk":Str)=some (.ref aj):=by kernel_rfl
theorem Vj:(hf c aj st pu bF room begun bound).lookup ("room":Str)=some (.int room):=by kernel_rfl
theorem BB:(hf c aj st pu bF room begun bound).lookup ("strokes":Str)=some (.ref st):=by kernel_rfl
theorem IK:(hf c aj st pu bF room begun bound).lookup ("begins":Str)=some (.int begun):=by kernel_rfl
theorem rz:(hf c aj st pu bF room begun bound).lookup ("puts":Str)=some (.ref pu):=by kernel_rfl
theorem IJ:(hf c aj st pu bF room begun bound).lookup ("takers":Str)=some (.ref bF):=by kernel_rfl
theorem yJ:(hf c aj st pu bF room begun bound).lookup ("bound":Str)=some (.int bound):=by kernel_rfl
theorem RQ:d5 "begins" (.int sI) (hf c aj st pu bF room begun bound)=hf c aj st pu bF room sI bound:=by kernel_rfl
theorem Br:d5 "bound" (.int sI) (hf c aj st pu bF room begun bound)=hf c aj st pu bF room begun sI:=by kernel_rfl
end
structure ee where
 h:Addr
 c:Addr
 ce:Addr
 aj:Addr
 pu:Addr
 st:Addr
 bF:Addr
structure vz (x:aq) (aQ:List (Key × V)):Prop where
 a:∀z∈x.aK,∀y∈z.2,dw aQ (Sum.inl ((y.1:Nat):Int))=some (.int z.1)
 b:∀k v,dw aQ k=some v→∃(p:Nat) (d:Int),k=Sum.inl ((p:Nat):Int)∧v=.int d∧0≤d∧d<x.begun∧(x.isOpen d=true→∃z∈x.aK,z.1=d∧∃y∈z.2,y.1=p)
abbrev ee.own (a:ee) (pl:List (Int × Addr)):List Addr:=L2.own a.h a.ce a.aj a.pu a.st pl
def eZ (H:ao) (a:ee) (lo:Addr) (x:aq):ao:=upd (upd H a.c (.own 0)) a.h (.bS (aS a.ce a.aj lo a.pu a.st x.room x.begun))
theorem fZ {H:ao}{a:ee}{lo:Addr}{x:aq}{b:Addr}(ak:b≠a.h) (az:b≠a.c):eZ H a lo x b=H b:=by
 unfold eZ
 rw[aA ak,aA az]
theorem rJ {H:ao}{a:ee}{lo:Addr}{x:aq}:eZ H a lo x a.h=some (.bS (aS a.ce a.aj lo a.pu a.st x.room x.begun)):=aR
theorem rK {H:ao}{a:ee}{lo:Addr}{x:aq}(h:a.c≠a.h):eZ H a lo x a.c=some (.own 0):=by
 unfold eZ
 rw[aA h,aR]
theorem qt {H:ao}{a:ee}{lo:Addr}{x:aq}{b:Addr}{o:fp}(ak:b≠a.h) (az:b≠a.c):upd (eZ H a lo x) b o=eZ (upd H b o) a lo x:=by
 unfold eZ
 rw[I2 ak.symm,I2 az.symm]
theorem yK {H:ao}{a:ee}{lo:Addr}{x:aq}{o:fp}:eZ (upd H a.h o) a lo x=eZ H a lo x:=by
 funext b
 by_cases z:b=a.h
 ·subst z
  rw[rJ,rJ]
 ·by_cases y:b=a.c
  ·subst y
   rw[rK z,rK z]
  ·rw[fZ z y,fZ z y,aA z]
structure cQ (a5 aI:Addr) (H:ao) (a:ee) (lo:Addr) (pl:List (Int × Addr)) (x:aq) (aQ:List (Key × V)):Prop where
 dF:bw (eZ H a lo x) a.h a.ce a.aj lo a.pu a.st pl x
 bY:∃dx,H a.h=some (.ins aI dx (hf a.c a.aj a.st a.pu a.bF x.room x.begun x.bound))
 co:∃dy,H a.c=some (.ins a5 dy (lO a.ce lo))
 kt:H a.bF=some (.bS aQ)
 ho:a.c∉a.own pl
 nl:a.c≠lo
 m3:a.bF≠a.pu
 jm:vz x aQ
section
variable {a5 aI:Addr}{H af:ao}{a:ee}{lo lo':Addr}{pl:List (Int × Addr)}{x:aq}{aQ:List (Key × V)}
theorem cQ.ej (A:cQ a5 aI H a lo pl x aQ):a.c≠a.h∧a.c≠a.ce∧a.c≠a.aj∧a.c≠a.pu∧a.c≠a.st∧∀z∈pl,z.2≠a.c:=by
 have h:=fun b (aa:b∈a.own pl) (e:a.c=b)=>A.ho (by rw[e];exact aa)
 exact⟨h _ (bw.o2 ..),h _ (bw.sv ..),h _ (bw.xm ..),h _ (bw.mp ..),h _ (bw.ms ..),fun z hz e=>h _ (bw.xj hz ..) e.symm⟩
theorem cQ.aP (A:cQ a5 aI H a lo pl x aQ):a.ce≠a.h∧a.aj≠a.h∧a.pu≠a.h∧a.st≠a.h∧lo≠a.h∧∀z∈pl,z.2≠a.h:=by
 obtain⟨dT,dP,eO,fF,_,_,_,_,_,_,gi,_,_,_,_,gw⟩:=A.dF.ne
 exact⟨dT.symm,dP.symm,eO.symm,fF.symm,gi,fun z hz=>(gw z hz).1⟩
theorem cQ.ai (A:cQ a5 aI H a lo pl x aQ):H a.ce=some (.lst (x.b_.map V.int)):=by
 rw[←fZ (H:=H) (lo:=lo) (x:=x) A.aP.1 A.ej.2.1.symm]
 exact A.dF.ai
theorem cQ.hd (A:cQ a5 aI H a lo pl x aQ):H a.aj=some (.lst (x.av.map V.int)):=by
 rw[←fZ (H:=H) (lo:=lo) (x:=x) A.aP.2.1 A.ej.2.2.1.symm]
 exact A.dF.hd
theorem cQ.aF (A:cQ a5 aI H a lo pl x aQ):H a.pu=some (.bS (d3 pl)):=by
 rw[←fZ (H:=H) (lo:=lo) (x:=x) A.aP.2.2.1 A.ej.2.2.2.1.symm]
 exact A.dF.aF
theorem cQ.Ds (A:cQ a5 aI H a lo pl x aQ) {lo':Addr}{oU:aq}:eh (eZ H a lo' oU) H:=fun b xs q=>by
 by_cases z:b=a.h
 ·subst z
  rw[rJ]at q
  cases q
 ·by_cases y:b=a.c
  ·subst y
   rw[rK z]at q
   cases q
  ·rwa [fZ z y]at q
theorem cQ.toV (A:cQ a5 aI H a lo pl x aQ) {lo':Addr}{oU:aq}:eh H (eZ H a lo' oU):=fun b xs q=>by
 obtain⟨dx,aH⟩:=A.bY
 obtain⟨dy,aM⟩:=A.co
 rw[fZ (dv q aH (fun z=>nomatch z)) (dv q aM (fun z=>nomatch z))]
 exact q
theorem cQ.aE (A:cQ a5 aI H a lo pl x aQ):∃xs,H lo=some (.lst xs)∧gT H x.log xs:=by
 obtain⟨xs,aH,aM⟩:=A.dF.aE
 rw[fZ A.aP.2.2.2.2.1 A.nl.symm]at aH
 exact⟨xs,aH,aM.mono fun b y q=>q.mono A.Ds⟩
theorem cQ.fQ (A:cQ a5 aI H a lo pl x aQ):∃zs,H a.st=some (.lst zs)∧bl H (x.c7.map bp.D) zs:=by
 obtain⟨zs,aH,aM⟩:=A.dF.fQ
 rw[fZ A.aP.2.2.2.1 A.ej.2.2.2.2.1.symm]at aH
 exact⟨zs,aH,bl.keep A.Ds _ _ (eK bp.gD _) aM⟩
theorem Cm {K:ao}(ai:a.c≠a.h) (h:∀b o,b≠a.h→b≠a.c→K b=some o→af b=some o) (aH:K a.h=some (.bS (aS a.ce a.aj lo a.pu a.st x.room x.begun))) (aM:∀o,K a.c=some o→o=.own 0):bO K (eZ af a lo x):=fun b o q=>by
 by_cases z:b=a.h
 ·subst z
  rw[aH]at q
  rw[rJ]
  exact q
 ·by_cases y:b=a.c
  ·subst y
   rw[rK ai,aM o q]
  ·rw[fZ z y]
   exact h b o z y q
theorem cQ.same (A:cQ a5 aI H a lo pl x aQ) (s:bO H af):cQ a5 aI af a lo pl x aQ:=by
 obtain⟨dx,aH⟩:=A.bY
 obtain⟨dy,aM⟩:=A.co
 refine⟨A.dF.same (Cm A.ej.1 (fun b o dT dP q=>s _ _ (by rwa [fZ dT dP]at q)) rJ fun o q=>?_),⟨dx,s _ _ aH⟩,⟨dy,s _ _ aM⟩,s _ _ A.kt,A.ho,A.nl,A.m3,A.jm⟩
 rw[rK A.ej.1]at q
 exact (Option.some.inj q).symm
theorem bw.setG {h ce aj pu st:Addr}(A:bw H h ce aj lo pu st pl x) {log:List bN}{xs ys:List V}(aH:H lo=some (.lst xs)) (aM:gT H log ys):bw (upd H lo (.lst ys)) h ce aj lo pu st pl { x with log:=log }:=by
 obtain⟨dT,dP,eO,fF,gi,gw,g0,jO,lz,lU,cn,cu,fb,gj,i0,np⟩:=A.ne
 have kt:eh H (upd H lo (.lst ys)):=fun b us q=>by
  rw[aA (dv q aH (fun z=>nomatch z))]
  exact q
 obtain⟨zs,bT,b1⟩:=A.fQ
 refine⟨by rw[aA cn.symm];exact A.dt,by rw[aA cu.symm];exact A.ai,by rw[aA fb.symm];exact A.hd,⟨ys,aR,aM.mono fun b y q=>q.mono kt⟩,by rw[aA gj.symm];exact A.aF,A.e1,fun i z w p q=>?_,A.bK,⟨zs,by rw[aA i0.symm];exact bT,bl.keep kt _ _ (eK bp.gD _) b1⟩,A.ap,A.nl,A.cd⟩
 obtain⟨us,bx,aW⟩:=A.ah i z w p q
 exact⟨us,by rw[aA (np z (mem_of_getElem? p)).2.2.2.2.2];exact bx,bl.keep kt _ _ (eK hn _) aW⟩
def pC (v:V):bp→iL
 | .line _=>.line v
 | .d9 p n=>.d9 p n
 | .cut k=>.cut (k:Nat)
theorem Sz {s:bp}{v:V}(h:Rep H s.D v):∃y,D4 H (pC y s) v∧∀ln,s=.line ln→je H ln y:=by
 cases s with
 | line ln =>
  obtain⟨c,x1,x2,rfl,ai,ak,az⟩:=f7 h
  cases ak.str_inv
  exact⟨x2,⟨c,rfl,ai⟩,fun l e=>by cases e;exact je.zf az⟩
 | d9 p n =>
  obtain⟨c,x1,x2,aa6,rfl,ai,ak,az,cz⟩:=yD h
  cases ak.str_inv
  cases az.int_inv
  cases cz.int_inv
  exact⟨.cP,⟨c,rfl,ai⟩,fun l e=>by cases e⟩
 | cut k =>
  obtain⟨c,x1,x2,rfl,ai,ak,az⟩:=f7 h
  cases ak.str_inv
  cases az.int_inv
  exact⟨.cP,⟨c,rfl,ai⟩,fun l e=>by cases e⟩
theorem vz.c9 (t:vz x aQ) (s:bp):vz (x.c9 s) aQ:=by
 refine⟨fun z hz=>t.a z (by rwa [o9]at hz),fun k v e=>?_⟩
 obtain⟨p,d,aH,aM,bT,b1,et⟩:=t.b k v e
 refine⟨p,d,aH,aM,bT,by rw[rl];exact b1,fun aC=>?_⟩
 rw[o9]
 refine et ?_
 unfold aq.isOpen at aC ⊢
 rwa [o9]at aC
theorem RJ (s:bp):(x.c9 s).bound=x.bound:=by
 unfold aq.bound
 rw[o9]
theorem Sy (s:bp):x.c9 s={ x with log:=(x.c9 s).log,b_:=(x.c9 s).b_,c7:=x.c7++[s] }:=by cases s <;> rfl
theorem SK (s:bp) (y:V):iL.ct (x.b_.map V.int) (pC y s)=(x.c9 s).b_.map V.int:=by
 cases s with
 | line ln=>rfl
 | d9 p n=>exact qj ..
 | cut k=>rfl
theorem S2 {s:bp}{y:V}{xs:List V}(ck:∀ln,s=.line ln→je H ln y) (e:gT H x.log xs):gT H (x.c9 s).log (iL.dX xs (pC y s)):=by
 cases s with
 | line ln=>exact f3.snoc e (ck ln rfl)
 | d9 p n=>exact e
 | cut k =>
  show gT H (x.log.drop k) (eX xs (some ((k:Nat):Int)) none)
  rw[ti]
  exact e.drop k
theorem cQ.UK (A:cQ a5 aI H a lo pl x aQ) {s:bp}{v y:V}{xs zs:List V}(aY:s.okIn x) (aX:Rep H s.D v) (ck:∀ln,s=.line ln→je H ln y) (aH:H lo=some (.lst xs)) (aM:gT H x.log xs) (bT:H a.st=some (.lst zs)) (b1:bl H (x.c7.map bp.D) zs)
  (x7:y5 a5 af a.c a.ce lo' (iL.ct (x.b_.map V.int) (pC y s)) (iL.dX xs (pC y s))) (nJ:lo'=lo∨H lo'=none) (bD:∀b o,H b=some o→b≠a.c→b≠a.ce→(b≠lo∨lo'≠lo)→af b=some o) :
  cQ a5 aI (upd af a.st (.lst (zs++[v]))) a lo' pl (x.c9 s) aQ:=by
 obtain⟨dT,dP,eO,fF,gi,gw,g0,jO,lz,lU,cn,cu,fb,gj,i0,np⟩:=A.dF.ne
 obtain⟨cN,dB,e3,g5,n7,ad5⟩:=A.ej
 obtain⟨dx,b8⟩:=A.bY
 obtain⟨⟨dy,cg⟩,dO,hF,hg⟩:=x7
 rw[SK]at dO
 have dX:=S2 ck aM
 have EE:gT (eZ H a lo x) (x.c9 s).log (iL.dX xs (pC y s)):=dX.mono fun b z q=>q.mono A.toV
 have cl:(x.c9 s).b_.length=x.av.length:=by
  rw[←A.dF.cd]
  cases s with
  | line ln=>rfl
  | d9 p n=>exact length_set ..
  | cut k=>rfl
 generalize iL.dX xs (pC y s)=ys at hF dX EE
 have kA:∀b,H b=none→b≠a.h∧b≠a.c:=fun b aa=>by
  obtain⟨GJ,q⟩:=A.co
  exact⟨fun z=>by rw[z,b8]at aa;(cases aa),fun z=>by rw[z,q]at aa;(cases aa)⟩
 have key:∃GX,bw GX a.h a.ce a.aj lo' a.pu a.st pl { x with log:=(x.c9 s).log,b_:=(x.c9 s).b_ }∧bO GX (eZ af a lo' { x with log:=(x.c9 s).log,b_:=(x.c9 s).b_ }):=by
  rcases nJ with z | z
  ·subst z
   have B:=(A.dF.setG (by rw[fZ cn A.nl.symm];exact aH) EE).setC (c:=(x.c9 s).b_) cl
   refine⟨_,B,Cm cN (fun b o e4 fK q=>?_) ?_ fun o q=>?_⟩
   ·by_cases e6:b=a.ce
    ·subst e6
     rw[aR]at q
     rw[dO]
     exact q
    ·rw[aA e6]at q
     by_cases eB:b=lo'
     ·subst eB
      rw[aR]at q
      rw[hF]
      exact q
     ·rw[aA eB,fZ e4 fK]at q
      exact bD b o q fK e6 (.inl eB)
   ·rw[aA dT,aA cn.symm]
    exact rJ
   ·rw[aA dB,aA A.nl,rK cN]at q
    exact (Option.some.inj q).symm
  ·obtain⟨f1,f2⟩:=kA lo' z
   have Qk:eZ H a lo x lo'=none:=by rw[fZ f1 f2];exact z
   have nV:=bR Qk (.lst ys)
   have B:=((A.dF.same nV).DE (lo':=lo') aR (EE.mono fun b w q=>q.mono nV.e5) (A.dF.there Qk)).setC (c:=(x.c9 s).b_) cl
   have z8:lo'≠a.ce:=fun w=>by rw[w,A.ai]at z;cases z
   have MO:lo'≠a.h:=f1
   refine⟨_,B,Cm cN (fun b o e4 fK q=>?_) ?_ fun o q=>?_⟩
   ·by_cases e6:b=a.ce
    ·subst e6
     rw[aR]at q
     rw[dO]
     exact q
    ·rw[aA e6,aA e4]at q
     by_cases eB:b=lo'
     ·subst eB
      rw[aR]at q
      rw[hF]
      exact q
     ·rw[aA eB,fZ e4 fK]at q
      exact bD b o q fK e6 (.inr fun jk=>by rw[jk,aH]at z;(cases z))
   ·rw[aA dT,aR,II]
   ·rw[aA dB,aA cN,aA f2.symm,rK cN]at q
    exact (Option.some.inj q).symm
 obtain⟨GX,ab6,s1⟩:=key
 have od:=ab6.same s1
 have v9:a.st≠lo:=i0.symm
 have r8:af a.st=some (.lst zs):=bD _ _ bT n7.symm g0.symm (.inl v9)
 have kt:eh H af:=fun b us q=>by
  obtain⟨GJ,w⟩:=A.co
  exact bD b _ q (dv q w (fun z=>nomatch z)) (dv q A.ai (fun z=>nomatch z)) (.inl (dv q aH (fun z=>nomatch z)))
 have cK:eh af (eZ af a lo' { x with log:=(x.c9 s).log,b_:=(x.c9 s).b_ }):=fun b us q=>by
  have Ej:af a.h=_:=bD _ _ b8 cN.symm dT (.inl cn.symm)
  rw[fZ (dv q Ej (fun z=>nomatch z)) (dv q cg (fun z=>nomatch z))]
  exact q
 have Rp:=od.LD (v:=v) (s:=s) (by rw[fZ fF.symm n7.symm];exact r8) (bl.keep cK _ _ (eK bp.gD _) (bl.keep kt _ _ (eK bp.gD _) b1)) (Rep.keep cK _ _ (bp.gD _) (Rep.keep kt _ _ (bp.gD _) aX))
 rw[qt fF.symm n7.symm]at Rp
 have aB:x.c9 s={ x with log:=(x.c9 s).log,b_:=(x.c9 s).b_,c7:=x.c7++[s] }:=Sy s
 have YG:a.bF≠a.st:=dv A.kt bT (fun z=>nomatch z)
 refine⟨?_,⟨dx,?_⟩,⟨dy,by rw[aA n7];exact cg⟩,?_,A.ho,?_,A.m3,A.jm.c9 s⟩
 ·have ev:eZ (upd af a.st (.lst (zs++[v]))) a lo' (x.c9 s)=eZ (upd af a.st (.lst (zs++[v]))) a lo' { x with log:=(x.c9 s).log,b_:=(x.c9 s).b_ }:=by
   unfold eZ
   rw[Hx,rl]
  rw[ev,aB]
  exact Rp
 ·rw[aA fF,Hx,rl,RJ]
  exact bD _ _ b8 cN.symm dT (.inl cn.symm)
 ·rw[aA YG]
  obtain⟨GJ,w⟩:=A.co
  exact bD _ _ A.kt (dv A.kt w (fun z=>nomatch z)) (dv A.kt A.ai (fun z=>nomatch z)) (.inl (dv A.kt aH (fun z=>nomatch z)))
 ·rcases nJ with z | z
  ·rw[z];exact A.nl
  ·exact (kA lo' z).2.symm
end
section
variable {a5 aI:Addr}{H af:ao}{a:ee}{lo lo':Addr}{pl:List (Int × Addr)}{x:aq}{aQ:List (Key × V)}
theorem cQ.tG (A:cQ a5 aI H a lo pl x aQ) {c:List Int}(ai:c.length=x.av.length):cQ a5 aI (upd H a.aj (.lst (c.map V.int))) a lo pl { x with av:=c } aQ:=by
 obtain⟨dx,b8⟩:=A.bY
 obtain⟨dy,cg⟩:=A.co
 have B:=A.dF.tG ai
 rw[qt A.aP.2.1 A.ej.2.2.1.symm]at B
 exact⟨B,⟨dx,by rw[aA A.aP.2.1.symm];exact b8⟩,⟨dy,by rw[aA A.ej.2.2.1];exact cg⟩,by rw[aA (dv A.kt A.hd (fun z=>nomatch z))];exact A.kt,A.ho,A.nl,A.m3,⟨A.jm.a,A.jm.b⟩⟩
theorem cQ.began (A:cQ a5 aI H a lo pl x aQ) {dx:Addr}{b:Int}(aa:b=(x.begun:Int)+1):cQ a5 aI (upd H a.h (.ins aI dx (hf a.c a.aj a.st a.pu a.bF x.room b x.bound))) a lo pl x.began aQ:=by
 obtain⟨dy,cg⟩:=A.co
 have ea:b=((x.begun+1:Nat):Int):=by omega
 have B:=A.dF.setB (n:=x.begun+1) ea
 have ev:upd (eZ H a lo x) a.h (.bS (putK (aS a.ce a.aj lo a.pu a.st x.room x.begun) (Sum.inr "begun") (.int b)))=eZ (upd H a.h (.ins aI dx (hf a.c a.aj a.st a.pu a.bF x.room b x.bound))) a lo x.began:=by
  rw[HG,yK,ea]
  unfold eZ
  rw[rv]
  rfl
 rw[ev]at B
 have q6:a.bF≠a.h:=fun z=>by
  obtain⟨GJ,w⟩:=A.bY
  have:=A.kt
  rw[z,w]at this
  cases this
 refine⟨B,⟨dx,by rw[aR,ea];rfl⟩,⟨dy,by rw[aA A.ej.1];exact cg⟩,by rw[aA q6];exact A.kt,A.ho,A.nl,A.m3,⟨A.jm.a,fun k v e=>?_⟩⟩
 obtain⟨p,d,aH,aM,bT,b1,et⟩:=A.jm.b k v e
 exact⟨p,d,aH,aM,bT,by show d<((x.begun+1:Nat):Int);omega,et⟩
theorem cQ.oE (A:cQ a5 aI H a lo pl x aQ):a.bF≠a.h∧a.bF≠a.c∧a.bF≠a.ce∧a.bF≠a.aj∧a.bF≠a.st∧a.bF≠lo∧∀z∈pl,a.bF≠z.2:=by
 obtain⟨dx,b8⟩:=A.bY
 obtain⟨dy,cg⟩:=A.co
 obtain⟨xs,aH,_⟩:=A.aE
 obtain⟨zs,aM,_⟩:=A.fQ
 refine⟨dv A.kt b8 (fun z=>nomatch z),dv A.kt cg (fun z=>nomatch z),dv A.kt A.ai (fun z=>nomatch z),dv A.kt A.hd (fun z=>nomatch z),dv A.kt aM (fun z=>nomatch z),dv A.kt aH (fun z=>nomatch z),fun z hz=>?_⟩
 obtain⟨i,aL⟩:=List.mem_iff_getElem?.mp hz
 obtain⟨w,ys,_,_,q,_⟩:=A.dF.at_ aL
 rw[fZ (A.aP.2.2.2.2.2 z hz) (A.ej.2.2.2.2.2 z hz)]at q
 exact dv A.kt q (fun z=>nomatch z)
theorem cQ.opened (A:cQ a5 aI H a lo pl x aQ) {n dx:Addr}{d b:Int}(aP:H n=none) (hd:x.isOpen d=false) (aa:b=x.bound+1) (bh:d=(x.begun:Int) - 1) (c8:∀k e,dw aQ k=some (.int e)→e≠d) :
  cQ a5 aI (upd (upd (upd H n (.lst [])) a.pu (.bS (putK (d3 pl) (Sum.inl d) (.ref n)))) a.h (.ins aI dx (hf a.c a.aj a.st a.pu a.bF x.room x.begun b))) a lo (pl++[(d,n)]) x.opened aQ:=by
 obtain⟨Qy,b8⟩:=A.bY
 obtain⟨dy,cg⟩:=A.co
 have ki:n≠a.h:=fun z=>by rw[z,b8]at aP;cases aP
 have ho:n≠a.c:=fun z=>by rw[z,cg]at aP;cases aP
 have aX:eZ H a lo x n=none:=by rw[fZ ki ho];exact aP
 have Em:n≠lo:=fun z=>by
  obtain⟨xs,e,_⟩:=A.aE
  rw[z,e]at aP
  cases aP
 have q6:n≠a.bF:=fun z=>by rw[z,A.kt]at aP;cases aP
 have B:=(A.dF.same (bR aX (.lst []))).opened (d:=d) (a:=n) aR (A.dF.there aX) Em hd
 rw[qt ki ho,qt A.aP.2.2.1 A.ej.2.2.2.1.symm]at B
 have ev:∀K:ao,eZ K a lo x=eZ (upd K a.h (.ins aI dx (hf a.c a.aj a.st a.pu a.bF x.room x.begun b))) a lo x.opened:=fun K=>by
  rw[yK]
  rfl
 rw[ev]at B
 have ea:x.opened.bound=x.bound+1:=by
  show ((x.aK++[((x.begun:Int) - 1,([]:List (Nat × Int)))]).map fun (z:Int × List (Nat × Int))=>(z.2.length:Int)+1).sum=_
  rw[map_append,sum_append]
  rfl
 have cp:x.opened={ x with aK:=x.aK++[(d,[])] }:=by rw[bh];rfl
 rw[←cp]at B
 refine⟨B,⟨dx,by rw[aR,ea,←aa];rfl⟩,⟨dy,by rw[aA A.ej.1,aA A.ej.2.2.2.1,aA ho.symm];exact cg⟩,by rw[aA A.oE.1,aA A.m3,aA q6.symm];exact A.kt,fun hm=>?_,A.nl,A.m3,⟨fun z hz=>?_,fun k v e=>?_⟩⟩
 ·rcases pe.mp hm with z | z | z | z | z | ⟨z,hz,e⟩
  ·exact A.ej.1 z
  ·exact A.ej.2.1 z
  ·exact A.ej.2.2.1 z
  ·exact A.ej.2.2.2.1 z
  ·exact A.ej.2.2.2.2.1 z
  ·rcases mem_append.mp hz with y | y
   ·exact A.ej.2.2.2.2.2 z y e
   ·rw[mem_singleton.mp y]at e
    exact ho e
 ·rw[cp]at hz
  rcases mem_append.mp hz with y | y
  ·exact A.jm.a z y
  ·rw[mem_singleton.mp y]
   intro w hw
   cases hw
 ·obtain⟨p,e0,aH,aM,bT,b1,et⟩:=A.jm.b k v e
  refine⟨p,e0,aH,aM,bT,b1,fun aC=>?_⟩
  rw[cp]at aC ⊢
  have ne:e0≠d:=c8 k e0 (by rw[e,aM])
  have nI:x.isOpen e0=true:=by
   have:((x.aK++[(d,([]:List (Nat × Int)))]).any fun z=>z.1 == e0)=true:=aC
   rw[any_append]at this
   rcases Bool.or_eq_true_iff.mp this with y | y
   ·exact y
   ·have y':(d == e0)=true:=by simpa using y
    exact absurd (beq_iff_eq.mp y').symm ne
  obtain⟨z,hz,y⟩:=et nI
  exact⟨z,mem_append_left _ hz,y⟩
theorem cQ.ended (A:cQ a5 aI H a lo pl x aQ) {dx:Addr}{d b:Int}(aa:b=({ x with aK:=x.aK.filter fun z=>z.1 != d }:aq).bound) :
  cQ a5 aI (upd (upd H a.pu (.bS (j1 (d3 pl) (Sum.inl d)))) a.h (.ins aI dx (hf a.c a.aj a.st a.pu a.bF x.room x.begun b))) a lo (pl.filter fun z=>z.1 != d) { x with aK:=x.aK.filter fun z=>z.1 != d } aQ:=by
 obtain⟨Qy,b8⟩:=A.bY
 obtain⟨dy,cg⟩:=A.co
 have B:=A.dF.ended d
 rw[qt A.aP.2.2.1 A.ej.2.2.2.1.symm]at B
 have ev:∀K:ao,eZ K a lo x=eZ (upd K a.h (.ins aI dx (hf a.c a.aj a.st a.pu a.bF x.room x.begun b))) a lo { x with aK:=x.aK.filter fun z=>z.1 != d }:=fun K=>by
  rw[yK]
  rfl
 rw[ev]at B
 refine⟨B,⟨dx,by rw[aR,aa]⟩,⟨dy,by rw[aA A.ej.1,aA A.ej.2.2.2.1];exact cg⟩,by rw[aA A.oE.1,aA A.m3];exact A.kt,fun hm=>?_,A.nl,A.m3,⟨fun z hz=>A.jm.a z (mem_filter.mp hz).1,fun k v e=>?_⟩⟩
 ·rcases pe.mp hm with z | z | z | z | z | ⟨z,hz,e⟩
  ·exact A.ej.1 z
  ·exact A.ej.2.1 z
  ·exact A.ej.2.2.1 z
  ·exact A.ej.2.2.2.1 z
  ·exact A.ej.2.2.2.2.1 z
  ·exact A.ej.2.2.2.2.2 z (mem_filter.mp hz).1 e
 ·obtain⟨p,e0,aH,aM,bT,b1,et⟩:=A.jm.b k v e
  refine⟨p,e0,aH,aM,bT,b1,fun aC=>?_⟩
  have wA:((x.aK.filter fun z=>z.1 != d).any fun z=>z.1 == e0)=true:=aC
  obtain⟨mV,Ai,Al⟩:=any_eq_true.mp wA
  have nI:x.isOpen e0=true:=any_eq_true.mpr ⟨mV,(mem_filter.mp Ai).1,Al⟩
  have a_:(mV.1 != d)=true:=(mem_filter.mp Ai).2
  obtain⟨z,hz,cS,c2⟩:=et nI
  refine⟨z,mem_filter.mpr ⟨hz,?_⟩,cS,c2⟩
  rw[cS,←beq_iff_eq.mp Al]
  exact a_
theorem cQ.c1 (A:cQ a5 aI H a lo pl x aQ) {n dx:Addr}{i p:Nat}{d b:Int}{ys:List V}{v:V}(aL:pl[i]?=some (d,n)) (ck:H n=some (.lst ys)) (aX:Rep H (pairD (p,x.av.getD p 0)) v) (aa:b=(x.c1 d p).bound) (h0:0≤d) (ak:d<x.begun)
  (kA:∀z∈x.aK,(∃y∈z.2,y.1=p)→z.1=d) :
  cQ a5 aI (upd (upd (upd H n (.lst (ys++[v]))) a.bF (.bS (putK aQ (Sum.inl ((p:Nat):Int)) (.int d)))) a.h (.ins aI dx (hf a.c a.aj a.st a.pu a.bF x.room x.begun b))) a lo pl (x.c1 d p) (putK aQ (Sum.inl ((p:Nat):Int)) (.int d)):=by
 obtain⟨Qy,b8⟩:=A.bY
 obtain⟨dy,cg⟩:=A.co
 have hm:=mem_of_getElem? aL
 have ki:n≠a.h:=A.aP.2.2.2.2.2 _ hm
 have ho:n≠a.c:=A.ej.2.2.2.2.2 _ hm
 have q6:a.bF≠n:=A.oE.2.2.2.2.2.2 _ hm
 have Zd:eZ H a lo x n=some (.lst ys):=by rw[fZ ki ho];exact ck
 have ml:=A.dF.c1 (y:=(p,x.av.getD p 0)) aL Zd (Rep.keep A.toV _ _ rfl aX)
 rw[qt ki ho]at ml
 have st:bw (eZ (upd (upd H n (.lst (ys++[v]))) a.bF (.bS (putK aQ (Sum.inl ((p:Nat):Int)) (.int d)))) a lo x) a.h a.ce a.aj lo a.pu a.st pl (x.c1 d p):=by
  rw[←qt A.oE.1 A.oE.2.1]
  obtain⟨t1,eE,t3,oX,Qu,uk,uh⟩:=A.oE
  have kt:eh (eZ (upd H n (.lst (ys++[v]))) a lo x) (upd (eZ (upd H n (.lst (ys++[v]))) a lo x) a.bF (.bS (putK aQ (Sum.inl ((p:Nat):Int)) (.int d)))):=fun b us q=>by
   have aS:eZ (upd H n (.lst (ys++[v]))) a lo x a.bF=some (.bS aQ):=by
    rw[fZ t1 eE,aA q6]
    exact A.kt
   rw[aA (dv q aS (fun z=>nomatch z))]
   exact q
  obtain⟨xs,aH,aM⟩:=ml.aE
  obtain⟨zs,bT,b1⟩:=ml.fQ
  refine⟨by rw[aA t1.symm];exact ml.dt,by rw[aA t3.symm];exact ml.ai,by rw[aA oX.symm];exact ml.hd,⟨xs,by rw[aA uk.symm];exact aH,aM.mono fun b y q=>q.mono kt⟩,by rw[aA A.m3.symm];exact ml.aF,ml.e1,fun i z w bx aW=>?_,ml.bK,⟨zs,by rw[aA Qu.symm];exact bT,bl.keep kt _ _ (eK bp.gD _) b1⟩,ml.ap,ml.nl,ml.cd⟩
  obtain⟨us,e6,eB⟩:=ml.ah i z w bx aW
  exact⟨us,by rw[aA (uh z (mem_of_getElem? bx)).symm];exact e6,bl.keep kt _ _ (eK hn _) eB⟩
 have ev:∀K:ao,eZ K a lo x=eZ (upd K a.h (.ins aI dx (hf a.c a.aj a.st a.pu a.bF x.room x.begun b))) a lo (x.c1 d p):=fun K=>by
  rw[yK]
  rfl
 rw[ev]at st
 refine⟨st,⟨dx,by rw[aR,aa];rfl⟩,⟨dy,by rw[aA A.ej.1,aA A.oE.2.1.symm,aA ho.symm];exact cg⟩,by rw[aA A.oE.1,aR],A.ho,A.nl,A.m3,⟨fun z hz y ck=>?_,fun k v e=>?_⟩⟩
 ·obtain⟨w,hw,rfl⟩:=mem_map.mp hz
  rw[uW]
  by_cases e:w.1=d
  ·have tW:y∈w.2++[(p,x.av.getD p 0)]:=by rw[if_pos e]at ck;exact ck
   have gA:(if w.1=d then (w.1,w.2++[(p,x.av.getD p 0)]) else w).1=d:=by rw[if_pos e];exact e
   rw[gA]
   by_cases cp:y.1=p
   ·rw[if_pos (by rw[cp])]
   ·have Ze:y∈w.2:=by
     rcases mem_append.mp tW with dm | dm
     ·exact dm
     ·rw[mem_singleton.mp dm]at cp
      exact absurd rfl cp
    rw[if_neg (fun dm=>cp (by have:=Sum.inl.inj dm;omega)),A.jm.a w hw y Ze,e]
  ·have tW:y∈w.2:=by rw[if_neg e]at ck;exact ck
   rw[if_neg e]
   have cp:¬y.1=p:=fun dm=>e (kA w hw ⟨y,tW,dm⟩)
   rw[if_neg (fun dm=>cp (by have:=Sum.inl.inj dm;omega))]
   exact A.jm.a w hw y tW
 ·rw[uW]at e
  have op:∀e0,(x.c1 d p).isOpen e0=x.isOpen e0:=fun e0=>by
   show ((x.aK.map fun z=>if z.1=d then (z.1,z.2++[(p,x.av.getD p 0)]) else z).any fun z=>z.1 == e0)=x.aK.any fun z=>z.1 == e0
   rw[any_map]
   congr 1
   funext z
   show ((if z.1=d then (z.1,z.2++[(p,x.av.getD p 0)]) else z).1 == e0)=(z.1 == e0)
   by_cases y:z.1=d
   ·rw[if_pos y]
   ·rw[if_neg y]
  have grow:∀z∈x.aK,∃iX∈(x.c1 d p).aK,iX.1=z.1∧(∀y∈z.2,y∈iX.2)∧(z.1=d→(p,x.av.getD p 0)∈iX.2):=fun z hz=>by
   refine⟨_,mem_map.mpr ⟨z,hz,rfl⟩,?_,fun y ck=>?_,fun y=>?_⟩
   ·by_cases y:z.1=d
    ·rw[if_pos y]
    ·rw[if_neg y]
   ·by_cases w:z.1=d
    ·rw[if_pos w];exact mem_append_left _ ck
    ·rw[if_neg w];exact ck
   ·rw[if_pos y]
    exact mem_append_right _ (mem_singleton.mpr rfl)
  by_cases gI:k=Sum.inl ((p:Nat):Int)
  ·rw[if_pos gI]at e
   cases e
   refine⟨p,d,gI,rfl,h0,ak,fun aC=>?_⟩
   rw[op]at aC
   obtain⟨mV,Ai,Al⟩:=any_eq_true.mp aC
   obtain⟨iX,g1,g2,g3,jt⟩:=grow mV Ai
   have Oq:=beq_iff_eq.mp Al
   exact⟨iX,g1,g2.trans Oq,_,jt Oq,rfl⟩
  ·rw[if_neg gI]at e
   obtain⟨o1,e0,aH,aM,bT,b1,et⟩:=A.jm.b k v e
   refine⟨o1,e0,aH,aM,bT,b1,fun aC=>?_⟩
   rw[op]at aC
   obtain⟨z,hz,cS,y,ck,c2⟩:=et aC
   obtain⟨iX,g1,g2,g3,jt⟩:=grow z hz
   exact⟨iX,g1,g2.trans cS,y,g3 y ck,c2⟩
end
def ee.gr (a:ee) (lo:Addr) (pl:List (Int × Addr)):List Addr:=lo::a.c::a.bF::a.own pl
structure eL (a:ee) (lo:Addr) (pl:List (Int × Addr)) (lo':Addr) (hb:List (Int × Addr)) (H af:ao):Prop where
 ew:∀b o,b∉a.gr lo pl→H b=some o→af b=some o
 new:∀b,b∈a.gr lo' hb→b∈a.gr lo pl∨H b=none
section
variable {a:ee}{lo lo1 eN:Addr}{pl vZ MH:List (Int × Addr)}{H H1 ay:ao}
theorem eL.refl (a:ee) (lo:Addr) (pl:List (Int × Addr)) (H:ao):eL a lo pl lo pl H H:=⟨fun _ _ _ e=>e,fun _ h=>.inl h⟩
theorem bO.moves (s:bO H H1):eL a lo pl lo pl H H1:=⟨fun b o _ e=>s b o e,fun _ h=>.inl h⟩
theorem eL.trans (m:eL a lo pl lo1 vZ H H1) (n:eL a lo1 vZ eN MH H1 ay):eL a lo pl eN MH H ay:=by
 refine⟨fun b o aa e=>?_,fun b aa=>?_⟩
 ·refine n.ew b o (fun z=>?_) (m.ew b o aa e)
  rcases m.new b z with y | y
  ·exact aa y
  ·rw[e]at y
   cases y
 ·rcases n.new b aa with z | z
  ·exact m.new b z
  ·by_cases y:b∈a.gr lo pl
   ·exact .inl y
   ·refine .inr ?_
    cases q:H b with
    | none=>rfl
    | some o =>
     rw[m.ew b o y q]at z
     cases z
theorem eL.upd (m:eL a lo pl lo1 vZ H H1) {b:Addr}{o:fp}(aa:b∈a.gr lo1 vZ):eL a lo pl lo1 vZ H (upd H1 b o):=by
 refine m.trans ⟨fun c u ai e=>?_,fun _ h=>.inl h⟩
 rw[aA (fun z=>ai (by rw[z];exact aa))]
 exact e
theorem vm (a:ee) (lo:Addr) (pl:List (Int × Addr)):lo∈a.gr lo pl:=mem_cons_self
theorem zh (a:ee) (lo:Addr) (pl:List (Int × Addr)):a.c∈a.gr lo pl:=mem_cons_of_mem _ mem_cons_self
theorem yZ (a:ee) (lo:Addr) (pl:List (Int × Addr)):a.bF∈a.gr lo pl:=mem_cons_of_mem _ (mem_cons_of_mem _ mem_cons_self)
theorem tg {b:Addr}(h:b∈a.own pl):b∈a.gr lo pl:=mem_cons_of_mem _ (mem_cons_of_mem _ (mem_cons_of_mem _ h))
theorem rG (a:ee) (lo:Addr) (pl:List (Int × Addr)):a.h∈a.gr lo pl:=tg (bw.o2 ..)
theorem y3 (a:ee) (lo:Addr) (pl:List (Int × Addr)):a.ce∈a.gr lo pl:=tg (bw.sv ..)
theorem y2 (a:ee) (lo:Addr) (pl:List (Int × Addr)):a.aj∈a.gr lo pl:=tg (bw.xm ..)
theorem vl (a:ee) (lo:Addr) (pl:List (Int × Addr)):a.pu∈a.gr lo pl:=tg (bw.mp ..)
theorem y0 (a:ee) (lo:Addr) (pl:List (Int × Addr)):a.st∈a.gr lo pl:=tg (bw.ms ..)
theorem y1 {z:Int × Addr}(hz:z∈pl) (a:ee) (lo:Addr):z.2∈a.gr lo pl:=tg (bw.xj hz ..)
variable {a5 aI:Addr}{x:aq}{aQ:List (Key × V)}
theorem cQ.tD (A:cQ a5 aI H a lo pl x aQ) {b:Addr}{us:List V}(h:H b=some (.tup us)):b∉a.gr lo pl:=fun aa=>by
 obtain⟨dx,b8⟩:=A.bY
 obtain⟨dy,cg⟩:=A.co
 obtain⟨xs,aH,_⟩:=A.aE
 rcases mem_cons.mp aa with z | aa
 ·rw[z,aH]at h;cases h
 ·rcases mem_cons.mp aa with z | aa
  ·rw[z,cg]at h;cases h
  ·rcases mem_cons.mp aa with z | aa
   ·rw[z,A.kt]at h;cases h
   ·exact A.dF.tD (A.toV _ _ h) aa
end
theorem Us {K:PySem.W.Frag}{a:Addr}{N:Nat}{g:h_}{dG:fW}{D:Ends}{σ:St}{H:ao}(Pv:Nat→St→ao→Prop) (h0:Pv 0 σ H) (aE:∀i σ H,i≤N→Pv i σ H→∃xs,xs.length=N∧aO K H a xs)
  (aY:∀i x σ H,i<N→(∀xs,aO K H a xs→xs[N - 1 - i]?=some x)→Pv i σ H→g x σ H fun gs ay=>dG { D with da:=Pv (i+1),fc:=Pv (i+1),hp:=D.da } gs ay) (hd:∀σ H,Pv N σ H→D.da σ H) :
  ∃W:Nat→Nat→St→ao→Prop,(∃m,W 0 m σ H)∧∀i m σ H,W i m σ H →
   ((q4 K a N).stop i H∧D.da σ H)∨((q4 K a N).go i H∧∃M:St→ao→Prop,(∀bA af,M bA af→∃fG,fG<m∧W (i+1) fG bA af)∧∀x af,(q4 K a N).nB i H x af→g x σ af fun gs ay=>dG { D with da:=M,fc:=M,hp:=D.da } gs ay):=by
 refine⟨fun i m σ H=>m=N - i∧i≤N∧Pv i σ H,⟨N,by simp,zero_le _,h0⟩,?_⟩
 rintro i m σ H ⟨rfl,aL,p⟩
 obtain⟨xs,iD,q⟩:=aE i σ H aL p
 by_cases c8:i<N
 ·have di:N - 1 - i<xs.length:=by omega
  refine .inr ⟨⟨c8,xs,xs[N - 1 - i],q,getElem?_eq_getElem di⟩,Pv (i+1),fun bA af eg=>⟨N - (i+1),by omega,rfl,c8,eg⟩,fun x af y=>?_⟩
  obtain⟨e,y⟩:=y
  subst e
  exact aY i x σ _ c8 y p
 ·have e:i=N:=by omega
  subst e
  exact .inl ⟨rfl,hd σ H p⟩
theorem sum_filter:∀(l:List (Int × List (Nat × Int))) (d:Int),(l.map (·.1)).Nodup→(l.any fun z=>z.1 == d)=true→((l.filter fun z=>z.1 != d).map fun z=>(z.2.length:Int)+1).sum+(((((l.find? fun z=>z.1 == d).map (·.2)).getD []).length:Int)+1)=(l.map fun z=>(z.2.length:Int)+1).sum
 | [],_,_,h=>by cases h
 | z::r,d,a_,h=>by
  rw[map_cons,nodup_cons]at a_
  by_cases e:z.1=d
  ·have aD:(r.filter fun y=>y.1 != d)=r:=List.filter_eq_self.mpr fun y ck=>by
    have:y.1≠d:=fun w=>a_.1 (by rw[e,←w];exact mem_map.mpr ⟨y,ck,rfl⟩)
    simpa using this
   rw[List.filter_cons_of_neg (by simp[e]),aD,List.find?_cons_of_pos (by simp[e]),map_cons,sum_cons]
   show _+((z.2.length:Int)+1)=_
   omega
  ·have h':(r.any fun z=>z.1 == d)=true:=by
    rw[any_cons]at h
    have:(z.1 == d)=false:=by simpa using e
    rw[this,Bool.false_or]at h
    exact h
   have cC:=sum_filter r d a_.2 h'
   rw[List.filter_cons_of_pos (by simp[e]),find?_cons_of_neg (by simp[e]),map_cons,map_cons,sum_cons,sum_cons]
   omega
theorem tb {x:aq}{d:Int}(a_:(x.aK.map (·.1)).Nodup) (aC:x.isOpen d=true):({ x with aK:=x.aK.filter fun z=>z.1 != d }:aq).bound=x.bound - (((x.c5 d).length:Int)+1):=by
 have:=sum_filter x.aK d a_ aC
 show ((x.aK.filter fun z=>z.1 != d).map fun z=>(z.2.length:Int)+1).sum=(x.aK.map fun z=>(z.2.length:Int)+1).sum - (((((x.aK.find? fun z=>z.1 == d).map (·.2)).getD []).length:Int)+1)
 omega
theorem I5 (y:Nat × Int):∀(l:List (Int × List (Nat × Int))) (d:Int),(l.map (·.1)).Nodup→(l.any fun z=>z.1 == d)=true→((l.map fun z=>if z.1=d then (z.1,z.2++[y]) else z).map fun z=>(z.2.length:Int)+1).sum=(l.map fun z=>(z.2.length:Int)+1).sum+1
 | [],_,_,h=>by cases h
 | z::r,d,a_,h=>by
  rw[map_cons,nodup_cons]at a_
  rw[map_cons,map_cons,map_cons,sum_cons,sum_cons]
  by_cases e:z.1=d
  ·have aD:(r.map fun z=>if z.1=d then (z.1,z.2++[y]) else z)=r:=by
    have:∀w∈r,(if w.1=d then (w.1,w.2++[y]) else w)=w:=fun w hw=>if_neg fun q=>a_.1 (by rw[e,←q];exact mem_map.mpr ⟨w,hw,rfl⟩)
    rw[map_congr_left this,List.map_id']
   rw[aD,if_pos e]
   show ((z.2++[y]).length:Int)+1+_=_
   rw[length_append,length_singleton]
   omega
  ·have h':(r.any fun z=>z.1 == d)=true:=by
    rw[any_cons]at h
    have:(z.1 == d)=false:=by simpa using e
    rw[this,Bool.false_or]at h
    exact h
   rw[I5 y r d a_.2 h',if_neg e]
   omega
theorem BI {x:aq}{d:Int}{p:Nat}(a_:(x.aK.map (·.1)).Nodup) (aC:x.isOpen d=true):(x.c1 d p).bound=x.bound+1:=I5 _ x.aK d a_ aC
def bZ (ps:List Int) (room:Int):aq:={ b_:=ps,av:=ps,log:=[],aK:=[],room:=room,begun:=0,c7:=[] }
theorem cQ.init {a5 aI dx dy:Addr}{H:ao}{a:ee}{lo:Addr}{ps:List Int}{room:Int}(b8:H a.h=some (.ins aI dx (hf a.c a.aj a.st a.pu a.bF room 0 0))) (cg:H a.c=some (.ins a5 dy (lO a.ce lo))) (aH:H a.ce=some (.lst (ps.map V.int))) (aM:H lo=some (.lst []))
  (bT:H a.aj=some (.lst (ps.map V.int))) (b1:H a.st=some (.lst [])) (et:H a.pu=some (.bS [])) (mc:H a.bF=some (.bS [])) (dT:a.ce≠a.aj) (dP:a.ce≠a.st) (eO:a.aj≠a.st) (fF:lo≠a.ce) (gi:lo≠a.aj) (gw:lo≠a.st) (g0:a.bF≠a.pu) (jO:a.c≠a.h) :
  cQ a5 aI H a lo [] (bZ ps room) []:=by
 have k1:a.ce≠a.h:=dv aH b8 (fun z=>nomatch z)
 have k2:a.aj≠a.h:=dv bT b8 (fun z=>nomatch z)
 have k3:a.st≠a.h:=dv b1 b8 (fun z=>nomatch z)
 have m6:a.pu≠a.h:=dv et b8 (fun z=>nomatch z)
 have k5:lo≠a.h:=dv aM b8 (fun z=>nomatch z)
 have cN:a.ce≠a.c:=dv aH cg (fun z=>nomatch z)
 have dB:a.aj≠a.c:=dv bT cg (fun z=>nomatch z)
 have e3:a.st≠a.c:=dv b1 cg (fun z=>nomatch z)
 have g5:a.pu≠a.c:=dv et cg (fun z=>nomatch z)
 have n7:lo≠a.c:=dv aM cg (fun z=>nomatch z)
 have eV:a.pu≠a.ce:=dv et aH (fun z=>nomatch z)
 have es:a.pu≠a.aj:=dv et bT (fun z=>nomatch z)
 have kh:a.pu≠a.st:=dv et b1 (fun z=>nomatch z)
 have l5:a.pu≠lo:=dv et aM (fun z=>nomatch z)
 have a_:(a.own []).Nodup:=by
  show (a.h::a.ce::a.aj::a.pu::a.st::[]).Nodup
  simp[k1.symm,k2.symm,m6.symm,k3.symm,dT,eV.symm,dP,es.symm,eO,kh]
 have nl:lo∉a.own []:=by
  show lo∉(a.h::a.ce::a.aj::a.pu::a.st::[])
  simp[k5,fF,gi,l5.symm,gw]
 refine⟨⟨rJ,?_,?_,⟨[],?_,.nil⟩,?_,rfl,fun i z w h=>(by cases h),nodup_nil,⟨[],?_,.nil⟩,a_,nl,rfl⟩,⟨dx,b8⟩,⟨dy,cg⟩,mc,?_,n7.symm,g0,⟨fun z hz=>(by cases hz),fun k v e=>(by rw[BW]at e;cases e)⟩⟩
 ·rw[fZ k1 cN];exact aH
 ·rw[fZ k2 dB];exact bT
 ·rw[fZ k5 n7];exact aM
 ·rw[fZ m6 g5];exact et
 ·rw[fZ k3 e3];exact b1
 ·show a.c∉(a.h::a.ce::a.aj::a.pu::a.st::[])
  simp[jO,cN.symm,dB.symm,g5.symm,e3.symm]
theorem cQ.yw {a5 aI:Addr}{H:ao}{a:ee}{lo b:Addr}{pl:List (Int × Addr)}{x:aq}{aQ:List (Key × V)}{o:fp}{us:List V}(A:cQ a5 aI H a lo pl x aQ) (aa:b∉a.gr lo pl) (e:H b=some (.lst us)):cQ a5 aI (upd H b o) a lo pl x aQ:=by
 have n:∀c,c∈a.gr lo pl→c≠b:=fun c ai z=>aa (by rw[←z];exact ai)
 have ki:=n _ (rG a lo pl)
 have ho:=n _ (zh a lo pl)
 obtain⟨dx,b8⟩:=A.bY
 obtain⟨dy,cg⟩:=A.co
 have kt:eh (eZ H a lo x) (upd (eZ H a lo x) b o):=fun c ys q=>by
  rw[aA (dv q (show eZ H a lo x b=some (.lst us) by rw[fZ ki.symm ho.symm];exact e) (fun z=>nomatch z))]
  exact q
 obtain⟨xs,gy,iE⟩:=A.dF.aE
 obtain⟨zs,p3,l7⟩:=A.dF.fQ
 refine⟨?_,⟨dx,by rw[aA ki];exact b8⟩,⟨dy,by rw[aA ho];exact cg⟩,by rw[aA (n _ (yZ a lo pl))];exact A.kt,A.ho,A.nl,A.m3,A.jm⟩
 rw[←qt ki.symm ho.symm]
 refine⟨by rw[aA ki];exact A.dF.dt,by rw[aA (n _ (y3 a lo pl))];exact A.dF.ai,by rw[aA (n _ (y2 a lo pl))];exact A.dF.hd,⟨xs,by rw[aA (n _ (vm a lo pl))];exact gy,iE.mono fun c y q=>q.mono kt⟩,by rw[aA (n _ (vl a lo pl))];exact A.dF.aF,A.dF.e1,fun i z w bx aW=>?_,A.dF.bK,⟨zs,by rw[aA (n _ (y0 a lo pl))];exact p3,bl.keep kt _ _ (eK bp.gD _) l7⟩,A.dF.ap,A.dF.nl,A.dF.cd⟩
 obtain⟨ys,e6,eB⟩:=A.dF.ah i z w bx aW
 exact⟨ys,by rw[aA (n _ (y1 (mem_of_getElem? bx) a lo))];exact e6,bl.keep kt _ _ (eK hn _) eB⟩
theorem u3 {ps:List Int}{room:Int}(ak:1≤ps.length) (az:ps.length≤100):(bZ ps room).good 0 :=
 ⟨ak,az,fun z hz=>(by cases hz),le_refl _,le_refl _,le_refl _,fun z hz=>(by cases hz)⟩
theorem Ry (x:aq) (e:b7):(x.a4 e).1.begun≤x.begun+1:=by
 unfold aq.a4
 cases x.refusal e with
 | some w=>exact le_succ _
 | none =>
  cases e with
  | begin =>
   show (if (x.began.full 1).2=true then ((x.began.full 1).1,cW.word "no room") else ((x.began.full 1).1.opened,.num x.begun)).1.begun≤_
   have aH:(x.began.full 1).1.begun=x.begun+1:=mu
   split
   ·exact le_of_eq aH
   ·exact le_of_eq aH
  | put d p n =>
   show (if (x.full 2).2=true then ((x.full 2).1,cW.word "no room") else ((((x.full 2).1.c1 d p.toNat).putIn d p.toNat n),.word "done")).1.begun≤_
   have aH:(x.full 2).1.begun=x.begun:=mu
   split
   ·show (x.full 2).1.begun≤_
    omega
   ·show (x.full 2).1.begun≤_
    omega
  | fin d=>exact le_succ _
  | drop d =>
   show (x.dM d).begun≤_
   rw[gS,uM]
   exact le_succ _
  | look p=>exact le_succ _
  | carry p =>
   show (x.dZ p.toNat).begun≤_
   rw[uL]
   exact le_succ _
  | cut =>
   show x.dS.begun≤_
   rw[uQ]
   exact le_succ _
theorem G8 (x:aq) (e:b7):(∃i,(x.a4 e).2=.num i)∨(x.a4 e).2=.word "done"∨(x.a4 e).2=.word "no dealing"∨(x.a4 e).2=.word "no page"∨(x.a4 e).2=.word "taken"∨(x.a4 e).2=.word "no room":=by
 unfold aq.a4
 cases h:x.refusal e with
 | some w =>
  have hw:w="no dealing"∨w="no page"∨w="taken":=by
   cases e with
   | begin=>cases h
   | cut=>cases h
   | fin d =>
    have h':(if x.isOpen d=false then some ("no dealing":Str) else none)=some w:=h
    split at h'
    ·exact .inl (Option.some.inj h').symm
    ·cases h'
   | drop d =>
    have h':(if x.isOpen d=false then some ("no dealing":Str) else none)=some w:=h
    split at h'
    ·exact .inl (Option.some.inj h').symm
    ·cases h'
   | look p =>
    have h':(if p<0∨(x.av.length:Int)≤p then some ("no page":Str) else none)=some w:=h
    split at h'
    ·exact .inr (.inl (Option.some.inj h').symm)
    ·cases h'
   | carry p =>
    have h':(if p<0∨(x.av.length:Int)≤p then some ("no page":Str) else none)=some w:=h
    split at h'
    ·exact .inr (.inl (Option.some.inj h').symm)
    ·cases h'
   | put d p n =>
    have h':(if x.isOpen d=false then some ("no dealing":Str) else if p<0∨(x.av.length:Int)≤p then some ("no page":Str) else if x.dK p.toNat=none∨x.dK p.toNat=some d then none else some ("taken":Str))=some w:=h
    split at h'
    ·exact .inl (Option.some.inj h').symm
    ·split at h'
     ·exact .inr (.inl (Option.some.inj h').symm)
     ·split at h'
      ·cases h'
      ·exact .inr (.inr (Option.some.inj h').symm)
  rcases hw with z | z | z
  ·rw[z];exact .inr (.inr (.inl rfl))
  ·rw[z];exact .inr (.inr (.inr (.inl rfl)))
  ·rw[z];exact .inr (.inr (.inr (.inr (.inl rfl))))
 | none =>
  cases e with
  | begin =>
   show (∃i,(if (x.began.full 1).2=true then ((x.began.full 1).1,cW.word "no room") else ((x.began.full 1).1.opened,.num x.begun)).2=.num i)∨_
   show (∃i,(if (x.began.full 1).2=true then ((x.began.full 1).1,cW.word "no room") else ((x.began.full 1).1.opened,.num x.begun)).2=.num i)∨(if (x.began.full 1).2=true then ((x.began.full 1).1,cW.word "no room") else ((x.began.full 1).1.opened,.num x.begun)).2=.word "done"∨_∨_∨_∨(if (x.began.full 1).2=true then ((x.began.full 1).1,cW.word "no room") else ((x.began.full 1).1.opened,.num x.begun)).2=.word "no room"
   split
   ·exact .inr (.inr (.inr (.inr (.inr rfl))))
   ·exact .inl ⟨_,rfl⟩
  | put d p n =>
   show (∃i,(if (x.full 2).2=true then ((x.full 2).1,cW.word "no room") else ((((x.full 2).1.c1 d p.toNat).putIn d p.toNat n),.word "done")).2=.num i)∨(if (x.full 2).2=true then ((x.full 2).1,cW.word "no room") else ((((x.full 2).1.c1 d p.toNat).putIn d p.toNat n),.word "done")).2=.word "done"∨_∨_∨_∨(if (x.full 2).2=true then ((x.full 2).1,cW.word "no room") else ((((x.full 2).1.c1 d p.toNat).putIn d p.toNat n),.word "done")).2=.word "no room"
   split
   ·exact .inr (.inr (.inr (.inr (.inr rfl))))
   ·exact .inr (.inl rfl)
  | fin d=>exact .inr (.inl rfl)
  | drop d=>exact .inr (.inl rfl)
  | look p=>exact .inl ⟨_,rfl⟩
  | carry p=>exact .inr (.inl rfl)
  | cut=>exact .inr (.inl rfl)
theorem bw.yw {H:ao}{h ce aj lo pu st b:Addr}{pl:List (Int × Addr)}{x:aq}{o:fp}{us:List V}(A:bw H h ce aj lo pu st pl x) (aa:b∉own h ce aj pu st pl) (aE:b≠lo) (e:H b=some (.lst us)):bw (upd H b o) h ce aj lo pu st pl x:=by
 have n:∀c,c∈own h ce aj pu st pl→c≠b:=fun c ai z=>aa (by rw[←z];exact ai)
 have kt:eh H (upd H b o):=fun c ys q=>by
  rw[aA (dv q e (fun z=>nomatch z))]
  exact q
 obtain⟨xs,gy,iE⟩:=A.aE
 obtain⟨zs,p3,l7⟩:=A.fQ
 refine⟨by rw[aA (n _ (bw.o2 ..))];exact A.dt,by rw[aA (n _ (bw.sv ..))];exact A.ai,by rw[aA (n _ (bw.xm ..))];exact A.hd,⟨xs,by rw[aA aE.symm];exact gy,iE.mono fun c y q=>q.mono kt⟩,by rw[aA (n _ (bw.mp ..))];exact A.aF,A.e1,fun i z w bx aW=>?_,A.bK,⟨zs,by rw[aA (n _ (bw.ms ..))];exact p3,bl.keep kt _ _ (eK bp.gD _) l7⟩,A.ap,A.nl,A.cd⟩
 obtain⟨ys,e6,eB⟩:=A.ah i z w bx aW
 exact⟨ys,by rw[aA (n _ (bw.xj (mem_of_getElem? bx) ..))];exact e6,bl.keep kt _ _ (eK hn _) eB⟩
def aq.pre (x:aq) (s:List bp):aq:={ x with c7:=s++x.c7 }
section
variable {x:aq}{s:List bp}{t:bp}{d m:Int}{p:Nat}
theorem ym:(x.pre s).c9 t=(x.c9 t).pre s:=by
 cases t <;> simp[aq.pre,aq.c9,append_assoc]
theorem IT:(x.pre s).dS=x.dS.pre s:=by
 show (if 0<ep x.b_ x.av x.isOpen x.log then (x.pre s).c9 (.cut (ep x.b_ x.av x.isOpen x.log)) else x.pre s)=_
 unfold aq.dS
 split
 ·exact ym
 ·rfl
theorem HJ:(x.pre s).dZ p=(x.dZ p).pre s:=by
 show (if x.b_[p]?=x.av[p]? then x.pre s else (x.pre s).c9 (.d9 p (x.av.getD p 0)))=_
 unfold aq.dZ
 split
 ·rfl
 ·exact ym
theorem HK:∀{i:Nat},(x.pre s).eU i=(x.eU i).pre s
 | 0=>rfl
 | i+1=>by rw[kq,kq,HK,HJ]
theorem RN:(x.pre s).gd=x.gd.pre s:=by
 rw[kr,kr,←IT,←HK]
 rfl
theorem Jq:(x.pre s).full m=((x.full m).1.pre s,(x.full m).2):=by
 show (if x.hx m=true then (x.pre s,false) else ((x.pre s).gd, !(x.pre s).gd.hx m))=_
 unfold aq.full
 split
 ·rfl
 ·rw[RN]
  rfl
theorem Iu {n:Int}:(x.pre s).putIn d p n=(x.putIn d p n).pre s:=by
 show ({ (x.pre s).c9 (.line (.put d p (x.av.getD p 0) n)) with av:=x.av.set p n }:aq)=_
 rw[ym]
 rfl
theorem HL:∀{l:List (Nat × Int)}{x:aq},(x.pre s).eb d l=(x.eb d l).pre s
 | [],_=>rfl
 | z::r,x=>by
  show ((x.pre s).putIn d z.1 z.2).eb d r=((x.putIn d z.1 z.2).eb d r).pre s
  rw[Iu]
  exact HL
theorem Tr:(x.pre s).dM d=(x.dM d).pre s:=by
 rw[gS,gS]
 exact HL
theorem IS:(x.pre s).fC d=(x.fC d).pre s:=by
 show ({ (x.pre s).c9 (.line (.fin d)) with aK:=x.aK.filter fun z=>z.1 != d }:aq)=_
 rw[ym]
 rfl
theorem Uu {e:b7}:(x.pre s).gg e=((x.gg e).1.pre s,(x.gg e).2):=by
 cases e with
 | begin =>
  show (if ((x.began.pre s).full 1).2=true then (((x.began.pre s).full 1).1,cW.word "no room") else (((x.began.pre s).full 1).1.opened,.num x.begun))=_
  rw[Jq]
  unfold aq.gg
  dsimp only
  split
  ·rfl
  ·rfl
 | put d p n =>
  show (if ((x.pre s).full 2).2=true then (((x.pre s).full 2).1,cW.word "no room") else (((((x.pre s).full 2).1.c1 d p.toNat).putIn d p.toNat n),.word "done"))=_
  rw[Jq]
  unfold aq.gg
  dsimp only
  split
  ·rfl
  ·show ((((x.full 2).1.c1 d p.toNat).pre s).putIn d p.toNat n,cW.word "done")=_
   rw[Iu]
 | fin d =>
  show ((x.pre s).fC d,cW.word "done")=_
  rw[IS]
  rfl
 | drop d =>
  show (((x.pre s).dM d).fC d,cW.word "done")=_
  rw[Tr,IS]
  rfl
 | look p=>rfl
 | carry p =>
  show ((x.pre s).dZ p.toNat,cW.word "done")=_
  rw[HJ]
  rfl
 | cut =>
  show ((x.pre s).dS,cW.word "done")=_
  rw[IT]
  rfl
theorem RU {e:b7}:(x.pre s).refusal e=x.refusal e:=by cases e <;> rfl
theorem RS {e:b7}:(x.pre s).a4 e=((x.a4 e).1.pre s,(x.a4 e).2):=by
 unfold aq.a4
 rw[RU]
 cases x.refusal e with
 | some w=>rfl
 | none=>exact Uu
end
def aq.bare (x:aq):aq:={ x with c7:=[] }
theorem UA (x:aq):x.bare.pre x.c7=x:=by
 show ({ x with c7:=x.c7++[] }:aq)=x
 rw[append_nil]
def aq.row (x:aq) (e:b7):List bp:=(x.bare.a4 e).1.c7
theorem Bj (x:aq) (e:b7):x.a4 e=((x.bare.a4 e).1.pre x.c7,(x.bare.a4 e).2):=by
 rw[←RS,UA]
theorem Bq (x:aq) (e:b7):(x.a4 e).1.c7=x.c7++x.row e:=by
 rw[Bj]
 rfl
theorem SW (x:aq) (e:b7):(x.a4 e).1.bare=(x.bare.a4 e).1.bare:=by
 rw[Bj]
 rfl
theorem Sx (x:aq) (e:b7):(x.a4 e).2=(x.bare.a4 e).2:=by rw[Bj]
theorem row_bare (x:aq) (e:b7):x.bare.row e=x.row e:=rfl
def aq.rows:aq→List b7→List (List bp)
 | _,[]=>[]
 | x,e::r=>x.row e::(x.a4 e).1.rows r
theorem BQ:∀(l:List b7) (x:aq) (e:b7),x.rows (l++[e])=x.rows l++[(x.run l).row e]
 | [],_,_=>rfl
 | a::r,x,e=>by
  show x.row a::(x.a4 a).1.rows (r++[e])=_
  rw[BQ r]
  rfl
theorem ye:∀(l:List b7) (x:aq),(x.rows l).length=l.length
 | [],_=>rfl
 | a::r,x=>by
  show ((x.a4 a).1.rows r).length+1=r.length+1
  rw[ye r]
theorem Bp:∀(l:List b7) (x:aq),(x.run l).c7=x.c7++(x.rows l).flatten
 | [],x=>by
  show x.c7=x.c7++[]
  rw[append_nil]
 | a::r,x=>by
  show ((x.a4 a).1.run r).c7=x.c7++(x.row a++((x.a4 a).1.rows r).flatten)
  rw[Bp r,Bq,append_assoc]
def aq.ha:aq→List b7→aq
 | x,[]=>x
 | x,e::r=>aq.ha (x.bare.a4 e).1 r
theorem Il:∀(l:List b7) (x:aq) (e:b7),x.ha (l++[e])=((x.ha l).bare.a4 e).1
 | [],_,_=>rfl
 | a::r,x,e=>Il r _ e
theorem BP:∀(l:List b7) (x y:aq),y.bare=x.bare→(y.ha l).bare=(x.run l).bare
 | [],_,_,h=>h
 | a::r,x,y,h=>by
  show (aq.ha (y.bare.a4 a).1 r).bare=((x.a4 a).1.run r).bare
  refine BP r _ _ ?_
  rw[h,SW x]
theorem aq.good.bare {x:aq}{n:Nat}(g:x.good n):x.bare.good n:=⟨g.fV,g.e2,g.d1,g.pl,zero_le _,g.jq,g.ok⟩
theorem aq.good.ha:∀(l:List b7) {x:aq}{n:Nat},x.good n→n+l.length≤110→(x.ha l).good (n+l.length)
 | [],_,_,h,_=>h
 | a::r,x,n,h,aP=>by
  have aE:(a::r).length=r.length+1:=rfl
  have:=aq.good.ha r (h.bare.a4 (by omega) a) (by omega)
  have e:n+1+r.length=n+(a::r).length:=by omega
  rw[e]at this
  exact this
theorem TA (l:List b7) (x:aq) (e:b7):(x.ha l).row e=(x.run l).row e:=by
 rw[←row_bare,BP l x x rfl,row_bare]
theorem SG (l:List b7) (x:aq) (e:b7):((x.ha l).bare.a4 e).2=((x.run l).a4 e).2:=by
 rw[BP l x x rfl,←Sx]
def DO (r:List bp):D:=.lst (r.map bp.D)
theorem I4:∀l:List (List bp),fs (l.map DO)≤l.length+l.flatten.length * 8
 | []=>by rw[map_nil,nh];exact zero_le _
 | r::t=>by
  have ak:=I4 t
  have az:=Hw r
  rw[map_cons,oj,length_cons,List.flatten_cons,length_append]
  show (D.lst (r.map bp.D)).e7+_≤_
  rw[tl]
  omega
def hu (H:ao) (bad:List Addr) (rows:List (List bp)) (xs:List V):Prop:=f3 (fun row v=>∃b zs,v=.ref b∧b∉bad∧H b=some (.lst zs)∧bl H (row.map bp.D) zs) rows xs
section
variable {H af:ao}{bad Mk:List Addr}{rows:List (List bp)}{xs:List V}
theorem hu.nil:hu H bad [] []:=f3.nil
theorem hu.move (h:hu H bad rows xs) (st:∀b o,b∉bad→H b=some o→af b=some o) (kt:eh H af) (nb:∀b,b∈Mk→b∈bad∨H b=none):hu af Mk rows xs :=
 h.mono fun row v ⟨b,zs,e,aa,hz,aD⟩=>⟨b,zs,e,(fun z=>by
  rcases nb b z with y | y
  ·exact aa y
  ·rw[hz]at y;cases y),st b _ aa hz,bl.keep kt _ _ (eK bp.gD _) aD⟩
theorem hu.same (h:hu H bad rows xs) (s:bO H af):hu af bad rows xs:=h.move (fun b o _ e=>s b o e) s.e5 fun b aa=>.inl aa
theorem hu.snoc {row:List bp}{b:Addr}{zs:List V}(h:hu H bad rows xs) (aa:b∉bad) (hz:H b=some (.lst zs)) (aD:bl H (row.map bp.D) zs):hu H bad (rows++[row]) (xs++[.ref b]) :=
 f3.snoc h ⟨b,zs,rfl,aa,hz,aD⟩
theorem It {α:Type}{f:α→D}:∀{l:List α}{xs:List V},f3 (fun a v=>Rep H (f a) v) l xs→bl H (l.map f) xs
 | [],[],_=>.nil
 | [],_::_,h=>absurd h.1 (by simp)
 | _::_,[],h=>absurd h.1 (by simp)
 | a::l,x::xs,h=>.cons (h.2 0 a x rfl rfl) (It ⟨Nat.succ.inj h.1,fun i a x ak az=>h.2 (i+1) a x ak az⟩)
theorem hu.LK (h:hu H bad rows xs):bl H (rows.map DO) xs :=
 It (f3.mono h fun row v ⟨b,zs,e,_,hz,aD⟩=>by
  subst e
  exact Rep.px hz aD)
theorem Ir {H:ao}:∀{n:Nat}{l:List D}{xs:List V},bl H l xs→bl H (l.drop n) (xs.drop n)
 | 0,_,_,h=>h
 | n+1,[],xs,h=>by cases h.lP;exact .nil
 | n+1,d::l,xs,h=>by
  obtain⟨x,t,rfl,_,r⟩:=h.inv
  exact Ir (n:=n) r
end
section
variable {H:ao}{h ce aj lo pu st u:Addr}{pl:List (Int × Addr)}{x:aq}
theorem bw.TU (A:bw H h ce aj lo pu st pl x) (v:V):oB H h (.str "strokes") v (upd H h (.bS (putK (aS ce aj lo pu st x.room x.begun) (Sum.inr "strokes") v))):=.inl ⟨_,Sum.inr "strokes",A.dt,rfl,(by show 7<sizeLine;rw[sizeLine_eq];decide),rfl⟩
theorem TV (ap:(own h ce aj pu st pl).Nodup) (aP:u∉own h ce aj pu st pl):(own h ce aj pu u pl).Nodup:=by
 unfold own at *
 simp only[nodup_cons,mem_cons,not_or]at ap aP ⊢
 obtain⟨⟨a1,a2,kS,rg,xT⟩,⟨e4,fK,iI,qb⟩,⟨cN,dB,e3⟩,⟨fV,e2⟩,aH,f1⟩:=ap
 obtain⟨dT,dP,eO,fF,gi,gw⟩:=aP
 exact⟨⟨a1,a2,kS,Ne.symm dT,xT⟩,⟨e4,fK,Ne.symm dP,qb⟩,⟨cN,Ne.symm eO,e3⟩,⟨Ne.symm fF,e2⟩,gw,f1⟩
theorem Vb (nl:lo∉own h ce aj pu st pl) (aE:u≠lo):lo∉own h ce aj pu u pl:=by
 unfold own at *
 simp only[mem_cons,not_or]at nl ⊢
 exact⟨nl.1,nl.2.1,nl.2.2.1,nl.2.2.2.1,Ne.symm aE,nl.2.2.2.2.2⟩
theorem bw.Xh (A:bw H h ce aj lo pu st pl x) (e:H u=some (.lst [])) (aP:u∉own h ce aj pu st pl) (aE:u≠lo):bw (upd H h (.bS (putK (aS ce aj lo pu st x.room x.begun) (Sum.inr "strokes") (.ref u)))) h ce aj lo pu u pl x.bare:=by
 obtain⟨dT,dP,eO,fF,gi,gw,g0,jO,lz,lU,cn,cu,fb,gj,i0,np⟩:=A.ne
 rw[RG]
 have kt:eh H (upd H h (.bS (aS ce aj lo pu u x.room x.begun))):=fun b ys q=>by
  rw[aA (dv q A.dt (fun z=>nomatch z))]
  exact q
 have YF:u≠h:=fun e=>aP (by rw[e];exact mem_cons_self)
 obtain⟨xs,aH,aM⟩:=A.aE
 refine⟨aR,by rw[aA dT.symm];exact A.ai,by rw[aA dP.symm];exact A.hd,⟨xs,by rw[aA cn];exact aH,aM.mono fun a y q=>q.mono kt⟩,by rw[aA eO.symm];exact A.aF,A.e1,fun i z w a b=>?_,A.bK,⟨[],by rw[aA YF];exact e,.nil⟩,TV A.ap aP,Vb A.nl aE,A.cd⟩
 obtain⟨ys,bx,aW⟩:=A.ah i z w a b
 exact⟨ys,by rw[aA (np z (mem_of_getElem? a)).1];exact bx,bl.keep kt _ _ (eK hn _) aW⟩
theorem SN {b:Addr}(aa:b∈own h ce aj pu u pl):b=u∨b∈own h ce aj pu st pl:=by
 unfold own at *
 simp only[mem_cons]at aa ⊢
 rcases aa with z | z | z | z | z | z
 ·exact .inr (.inl z)
 ·exact .inr (.inr (.inl z))
 ·exact .inr (.inr (.inr (.inl z)))
 ·exact .inr (.inr (.inr (.inr (.inl z))))
 ·exact .inl z
 ·exact .inr (.inr (.inr (.inr (.inr (.inr z)))))
def pD (h ce aj pu:Addr) (pl:List (Int × Addr)):List Addr:=h::ce::aj::pu::pl.map (·.2)
theorem TY {b:Addr}(aa:b∈pD h ce aj pu pl):b∈own h ce aj pu st pl:=by
 unfold pD at aa
 unfold own
 simp only[mem_cons]at aa ⊢
 rcases aa with z | z | z | z | z
 ·exact .inl z
 ·exact .inr (.inl z)
 ·exact .inr (.inr (.inl z))
 ·exact .inr (.inr (.inr (.inl z)))
 ·exact .inr (.inr (.inr (.inr (.inr z))))
theorem TX {b:Addr}(aa:b∈own h ce aj pu u pl):b=u∨b∈pD h ce aj pu pl:=by
 unfold own at aa
 unfold pD
 simp only[mem_cons]at aa ⊢
 rcases aa with z | z | z | z | z | z
 ·exact .inr (.inl z)
 ·exact .inr (.inr (.inl z))
 ·exact .inr (.inr (.inr (.inl z)))
 ·exact .inr (.inr (.inr (.inr (.inl z))))
 ·exact .inl z
 ·exact .inr (.inr (.inr (.inr (.inr z))))
theorem bw.UL (A:bw H h ce aj lo pu st pl x):st∉pD h ce aj pu pl:=by
 have ap:=A.ap
 unfold own at ap
 unfold pD
 simp only[nodup_cons,mem_cons,not_or]at ap ⊢
 obtain⟨⟨a1,a2,kS,rg,xT⟩,⟨e4,fK,iI,qb⟩,⟨cN,dB,e3⟩,⟨fV,e2⟩,aH,f1⟩:=ap
 exact⟨Ne.symm rg,Ne.symm iI,Ne.symm dB,Ne.symm fV,aH⟩
end
structure aq.sound (x:aq):Prop where
 a_:(x.aK.map (·.1)).Nodup
 cd:x.b_.length=x.av.length
 d1:∀z∈x.aK,0≤z.1∧z.1<x.begun∧∀y∈z.2,y.1<x.av.length
def aq.fit (x:aq):Prop:=(x.log.length:Int)+x.bound≤x.room
inductive lZ:aq→bp→aq→Prop
 | carry {x:aq} (p:Nat) (aF:p<x.av.length) (aP:x.b_[p]?≠x.av[p]?) (aD:(x.log.length:Int)≤x.room):lZ x (.d9 p (x.av.getD p 0)) (x.c9 (.d9 p (x.av.getD p 0)))
 | cut {x:aq} (h:0<ep x.b_ x.av x.isOpen x.log) (aD:(x.log.length:Int)≤x.room):lZ x (.cut (ep x.b_ x.av x.isOpen x.log)) (x.c9 (.cut (ep x.b_ x.av x.isOpen x.log)))
 | put {x:aq} (d:Int) (p:Nat) (n:Int) (aF:p<x.av.length) (aC:x.isOpen d=true) (aZ:x.dK p=none∨x.dK p=some d) (aD:(x.log.length:Int)+x.bound+2≤x.room) (h0:0≤x.bound):lZ x (.line (.put d p (x.av.getD p 0) n)) ((x.c1 d p).putIn d p n)
 | dM {x:aq} (d:Int) (p:Nat) (n:Int) (aF:p<x.av.length) (aC:x.isOpen d=true) (hm:∃o,(p,o)∈x.c5 d) (aD:(x.log.length:Int)+1≤x.room):lZ x (.line (.put d p (x.av.getD p 0) n)) (x.putIn d p n)
 | fin {x:aq} (d:Int) (aC:x.isOpen d=true) (aD:(x.log.length:Int)+1≤x.room):lZ x (.line (.fin d)) (x.fC d)
inductive Path:aq→List bp→aq→Prop
 | nil (x:aq):Path x [] x
 | cons {x y z:aq} {s:bp} {l:List bp} (h:lZ x s y) (t:Path y l z):Path x (s::l) z
theorem Path.trans {x y z:aq}{l k:List bp}(a:Path x l y) (b:Path y k z):Path x (l++k) z:=by
 induction a with
 | nil x=>exact b
 | cons h t cC=>exact .cons h (cC b)
theorem Path.one {x y:aq}{s:bp}(h:lZ x s y):Path x [s] y:=.cons h (.nil _)
theorem lZ.facts {x y:aq}{s:bp}(h:lZ x s y):y.c7=x.c7++[s]∧y.av.length=x.av.length∧y.room=x.room∧y.begun=x.begun:=by
 cases h with
 | carry p aF aP aD=>exact⟨rfl,rfl,rfl,rfl⟩
 | cut h aD=>exact⟨rfl,rfl,rfl,rfl⟩
 | put d p n aF aC aZ aD h0=>exact⟨rfl,by show (x.av.set p n).length=_;rw[length_set],rfl,rfl⟩
 | dM d p n aF aC hm aD=>exact⟨rfl,by show (x.av.set p n).length=_;rw[length_set],rfl,rfl⟩
 | fin d aC aD=>exact⟨rfl,rfl,rfl,rfl⟩
theorem Path.facts {x y:aq}{l:List bp}(h:Path x l y):y.c7=x.c7++l∧y.av.length=x.av.length∧y.room=x.room∧y.begun=x.begun:=by
 induction h with
 | nil x=>exact⟨(append_nil _).symm,rfl,rfl,rfl⟩
 | cons h t cC =>
  obtain⟨a,b,c,d⟩:=h.facts
  obtain⟨GQ,sI,fJ,d'⟩:=cC
  exact⟨by rw[GQ,a,append_assoc];rfl,sI.trans b,fJ.trans c,d'.trans d⟩
theorem Path.split {x z:aq}:∀{l k:List bp},Path x (l++k) z→∃y,Path x l y∧Path y k z:=by
 intro l
 induction l generalizing x with
 | nil=>intro k h;exact⟨x,.nil _,h⟩
 | cons s l cC =>
  intro k h
  cases h with
  | cons m t =>
   obtain⟨y,a,b⟩:=cC t
   exact⟨y,.cons m a,b⟩
section
variable {x:aq}{d m:Int}{p:Nat}
theorem Bv:(x.dZ p).log=x.log:=by
 unfold aq.dZ
 split <;> rfl
theorem Hp:(x.dZ p).room=x.room:=by
 unfold aq.dZ
 split <;> rfl
theorem yj:∀{i:Nat},(x.eU i).log=x.log
 | 0=>rfl
 | i+1=>by rw[kq,Bv];exact yj
theorem yd:∀{i:Nat},(x.eU i).room=x.room
 | 0=>rfl
 | i+1=>by rw[kq,Hp];exact yd
theorem H5 (aF:p<x.av.length) (aD:(x.log.length:Int)≤x.room):∃l,Path x l (x.dZ p):=by
 unfold aq.dZ
 split
 ·exact⟨[],.nil _⟩
 ·exact⟨_,.one (.carry p aF (by assumption) aD)⟩
theorem Hr (aD:(x.log.length:Int)≤x.room):∀{i:Nat},i≤x.av.length→∃l,Path x l (x.eU i)
 | 0,_=>⟨[],.nil _⟩
 | i+1,h=>by
  obtain⟨l,a⟩:=Hr aD (i:=i) (by omega)
  obtain⟨k,b⟩:=H5 (x:=x.eU i) (p:=i) (by rw[rm];omega) (by rw[yj,yd];exact aD)
  exact⟨l++k,by rw[kq];exact a.trans b⟩
theorem Jv (aD:(x.log.length:Int)≤x.room):∃l,Path x l x.dS:=by
 unfold aq.dS
 split
 ·exact⟨_,.one (.cut (by assumption) aD)⟩
 ·exact⟨[],.nil _⟩
theorem RD (aD:(x.log.length:Int)≤x.room):∃l,Path x l x.gd:=by
 obtain⟨l,a⟩:=Hr aD (i:=x.av.length) (le_refl _)
 obtain⟨k,b⟩:=Jv (x:=x.eU x.av.length) (by rw[yj,yd];exact aD)
 exact⟨l++k,by rw[kr];exact a.trans b⟩
theorem IL (aD:(x.log.length:Int)≤x.room):∃l,Path x l (x.full m).1:=by
 unfold aq.full
 split
 ·exact⟨[],.nil _⟩
 ·exact RD aD
theorem Hv:∀{l:List (Nat × Int)}{x:aq},x.isOpen d=true→(∀z∈l,z.1<x.av.length∧∃o,(z.1,o)∈x.c5 d)→(x.log.length:Int)+l.length≤x.room→∃k,Path x k (x.eb d l)
 | [],_,_,_,_=>⟨[],.nil _⟩
 | z::r,x,aC,hz,aD=>by
  have ak:=hz z mem_cons_self
  have adY:(z::r).length=r.length+1:=rfl
  have du:(x.putIn d z.1 z.2).log.length=x.log.length+1:=by
   show (x.log++[_]).length=_
   rw[length_append,length_singleton]
  obtain⟨k,b⟩:=Hv (l:=r) (x:=x.putIn d z.1 z.2) aC (fun y ck=>by
   rw[s8]
   exact hz y (mem_cons_of_mem _ ck)) (by
   show ((x.putIn d z.1 z.2).log.length:Int)+r.length≤x.room
   rw[du]
   omega)
  exact⟨_,.cons (.dM d z.1 z.2 ak.1 aC ak.2 (by omega)) b⟩
theorem uN (x:aq):0≤x.bound:=by
 show 0≤(x.aK.map fun z=>(z.2.length:Int)+1).sum
 induction x.aK with
 | nil=>exact Int.le_refl _
 | cons z r cC =>
  rw[map_cons,sum_cons]
  omega
theorem BJ (h:x.isOpen d=true) (a_:(x.aK.map (·.1)).Nodup):((x.c5 d).length:Int)+1≤x.bound:=by
 have ak:=tb a_ h
 have az:=uN ({ x with aK:=x.aK.filter fun z=>z.1 != d }:aq)
 omega
theorem yk:∀{l:List (Nat × Int)}{x:aq},(x.eb d l).log.length=x.log.length+l.length
 | [],_=>rfl
 | z::r,x=>by
  show ((x.putIn d z.1 z.2).eb d r).log.length=_
  rw[yk]
  show (x.log++[_]).length+r.length=_
  rw[length_append,length_singleton,length_cons]
  omega
theorem Bl:x.dS.log.length≤x.log.length:=by
 unfold aq.dS
 split
 ·show (x.log.drop _).length≤_
  rw[length_drop]
  omega
 ·exact le_refl _
theorem H3:x.dS.room=x.room:=by
 unfold aq.dS
 split <;> rfl
theorem HH:(x.full m).1.log.length≤x.log.length:=by
 rcases qn (x:=x) (m:=m) with e | e
 ·rw[e];exact le_refl _
 ·rw[e,kr]
  have:=Bl (x:=x.eU x.av.length)
  rw[yj]at this
  exact this
theorem uT:(x.full m).1.room=x.room:=by
 rcases qn (x:=x) (m:=m) with e | e
 ·rw[e]
 ·rw[e,kr,H3,yd]
theorem BE (h:(x.full m).2≠true):((x.full m).1.log.length:Int)+(x.full m).1.bound+m≤x.room:=by
 have key:(x.full m).1.hx m=true:=by
  unfold aq.full at h ⊢
  by_cases ai:x.hx m=true
  ·rw[if_pos ai];exact ai
  ·rw[if_neg ai]at h ⊢
   show x.gd.hx m=true
   cases e:x.gd.hx m with
   | true=>rfl
   | false=>exact absurd (show (!x.gd.hx m)=true by rw[e];rfl) h
 have:=of_decide_eq_true key
 rw[uT]at this
 exact this
end
def C3 (x y:aq):Prop:=y=x∨y=x.began
def yT (x y:aq):Prop:=y=x∨y=x.opened
theorem sX {x y:aq}(h:y.aK=x.aK) (d:Int):y.isOpen d=x.isOpen d:=by
 show y.aK.any _=x.aK.any _
 rw[h]
theorem Rz {x y:aq}(h:y.aK=x.aK) (p:Nat):y.dK p=x.dK p:=by
 show (y.aK.find? _).map _=(x.aK.find? _).map _
 rw[h]
theorem qh {x y:aq}(h:y.aK=x.aK):y.bound=x.bound:=by
 show (y.aK.map _).sum=(x.aK.map _).sum
 rw[h]
theorem uZ {x:aq}(S:x.sound) (f:x.fit) (e:b7):∃y z,C3 x y∧Path y (x.row e) z∧yT z (x.a4 e).1:=by
 have aa:=uN x
 have aD:(x.log.length:Int)≤x.room:=by have rf:(x.log.length:Int)+x.bound≤x.room:=f;omega
 have fin:∀{y z:aq} {l:List bp},C3 x y→Path y l z→yT z (x.a4 e).1→∃y z,C3 x y∧Path y (x.row e) z∧yT z (x.a4 e).1:=by
  intro y z l a b c
  have ak:=b.facts.1
  have fz:y.c7=x.c7:=by rcases a with rfl | rfl <;> rfl
  have gA:(x.a4 e).1.c7=z.c7:=by
   rcases c with h | h
   ·rw[h]
   ·rw[h];rfl
  rw[Bq,ak,fz]at gA
  have:=List.append_cancel_left gA
  rw[this]
  exact⟨y,z,a,b,c⟩
 cases dp:x.refusal e with
 | some w =>
  refine fin (.inl rfl) (.nil _) (.inl ?_)
  unfold aq.a4
  rw[dp]
 | none =>
  have aU:x.a4 e=x.gg e:=by
   unfold aq.a4
   rw[dp]
  cases e with
  | begin =>
   obtain⟨l,a⟩:=IL (x:=x.began) (m:=1) aD
   refine fin (.inr rfl) a ?_
   rw[aU]
   show yT _ (if (x.began.full 1).2=true then ((x.began.full 1).1,cW.word "no room") else ((x.began.full 1).1.opened,.num x.begun)).1
   split
   ·exact .inl rfl
   ·exact .inr rfl
  | put d p n =>
   obtain⟨l,a⟩:=IL (x:=x) (m:=2) aD
   by_cases hf:(x.full 2).2=true
   ·refine fin (.inl rfl) a (.inl ?_)
    rw[aU]
    show (if (x.full 2).2=true then ((x.full 2).1,cW.word "no room") else ((((x.full 2).1.c1 d p.toNat).putIn d p.toNat n),.word "done")).1=_
    rw[if_pos hf]
   ·have aC:=hW (.inl ⟨_,_,rfl⟩) dp
    have aF:=nc (.inl ⟨_,_,rfl⟩) dp
    have aZ:x.dK p.toNat=none∨x.dK p.toNat=some d:=by
     have h':(if x.isOpen d=false then some ("no dealing":Str) else if p<0∨(x.av.length:Int)≤p then some ("no page":Str) else if x.dK p.toNat=none∨x.dK p.toNat=some d then none else some ("taken":Str))=none:=dp
     rw[if_neg (by rw[aC];decide),if_neg (by omega)]at h'
     by_cases ai:x.dK p.toNat=none∨x.dK p.toNat=some d
     ·exact ai
     ·rw[if_neg ai]at h';cases h'
    have cn:=BE hf
    rw[←uT (x:=x) (m:=2)]at cn
    refine fin (.inl rfl) (a.trans (.one (.put d p.toNat n (by rw[oh];omega) (by rw[sX i_];exact aC) (by rw[Rz i_];exact aZ) cn (uN _)))) (.inl ?_)
    rw[aU]
    show (if (x.full 2).2=true then ((x.full 2).1,cW.word "no room") else ((((x.full 2).1.c1 d p.toNat).putIn d p.toNat n),.word "done")).1=_
    rw[if_neg hf]
  | fin d =>
   have aC:=hW (.inr (.inl rfl)) dp
   have ak:=BJ aC S.a_
   have rf:(x.log.length:Int)+x.bound≤x.room:=f
   exact fin (.inl rfl) (.one (.fin d aC (by omega))) (.inl (by rw[aU];rfl))
  | drop d =>
   have aC:=hW (.inr (.inr rfl)) dp
   have ak:=BJ aC S.a_
   have rf:(x.log.length:Int)+x.bound≤x.room:=f
   have hm:=S.d1 _ (ks aC)
   obtain⟨k,a⟩:=Hv (d:=d) (l:=(x.c5 d).reverse) aC (fun z hz=>⟨hm.2.2 z (mem_reverse.mp hz),z.2,mem_reverse.mp hz⟩) (by rw[length_reverse];omega)
   refine fin (.inl rfl) (a.trans (.one (.fin d (by rw[sX mq];exact aC) ?_))) (.inl (by rw[aU];rfl))
   rw[yk,Bo,length_reverse]
   omega
  | look p=>exact fin (.inl rfl) (.nil _) (.inl (by rw[aU];rfl))
  | carry p =>
   have aF:=nc (.inr (.inr rfl)) dp
   obtain⟨l,a⟩:=H5 (x:=x) (p:=p.toNat) (by omega) aD
   exact fin (.inl rfl) a (.inl (by rw[aU];rfl))
  | cut =>
   obtain⟨l,a⟩:=Jv aD
   exact fin (.inl rfl) a (.inl (by rw[aU];rfl))
section
variable {x y:aq}{d m:Int}{p:Nat}
theorem H6:(x.dZ p).b_.length=x.b_.length:=by
 unfold aq.dZ
 split
 ·rfl
 ·show (x.b_.set _ _).length=_
  rw[length_set]
theorem H8:∀{i:Nat},(x.eU i).b_.length=x.b_.length
 | 0=>rfl
 | i+1=>by rw[kq,H6];exact H8
theorem Hl:x.dS.b_=x.b_:=by
 unfold aq.dS
 split <;> rfl
theorem Vl:(x.full m).1.b_.length=x.b_.length:=by
 rcases qn (x:=x) (m:=m) with e | e
 ·rw[e]
 ·rw[e,kr,Hl,H8]
theorem Ib:∀{l:List (Nat × Int)}{x:aq},(x.eb d l).b_.length=x.b_.length
 | [],_=>rfl
 | z::r,x=>by
  show ((x.putIn d z.1 z.2).eb d r).b_.length=_
  rw[Ib]
  rfl
theorem aq.sound.of (S:x.sound) (aF:y.aK=x.aK) (ai:y.b_.length=x.b_.length) (hd:y.av.length=x.av.length) (aa:x.begun≤y.begun):y.sound :=
 ⟨by rw[aF];exact S.a_,by rw[ai,hd];exact S.cd,fun z hz=>by
  rw[aF]at hz
  obtain⟨a,b,c⟩:=S.d1 z hz
  exact⟨a,by omega,fun w hw=>by rw[hd];exact c w hw⟩⟩
theorem aq.sound.full (S:x.sound):(x.full m).1.sound:=S.of i_ Vl (by rw[oh]) (by rw[mu];exact le_refl _)
theorem aq.sound.a4 (S:x.sound) (e:b7):(x.a4 e).1.sound:=by
 unfold aq.a4
 cases dp:x.refusal e with
 | some w=>exact S
 | none =>
  cases e with
  | begin =>
   have Q_:x.began.sound:=S.of rfl rfl rfl (le_succ _)
   show (if (x.began.full 1).2=true then ((x.began.full 1).1,cW.word "no room") else ((x.began.full 1).1.opened,.num x.begun)).1.sound
   split
   ·exact Q_.full
   ·have sM:=Q_.full (m:=1)
    have aF:(x.began.full 1).1.aK=x.aK:=i_
    have aa:(x.began.full 1).1.begun=x.begun+1:=mu
    refine⟨?_,sM.cd,fun z hz=>?_⟩
    ·show (((x.began.full 1).1.aK++[((((x.began.full 1).1.begun:Int) - 1),([]:List (Nat × Int)))]).map (·.1)).Nodup
     rw[map_append,aF,aa]
     refine nodup_append.mpr ⟨S.a_,by simp,fun a bk b t5=>?_⟩
     obtain⟨z,hz,rfl⟩:=mem_map.mp bk
     have:=(S.d1 z hz).2.1
     have E0:=mem_singleton.mp t5
     rw[E0]
     show z.1≠((x.begun+1:Nat):Int) - 1
     omega
    ·rcases mem_append.mp hz with h | h
     ·exact sM.d1 z h
     ·rw[mem_singleton.mp h]
      refine⟨?_,?_,fun w hw=>by cases hw⟩
      ·show (0:Int)≤((x.began.full 1).1.begun:Int) - 1
       rw[aa]
       omega
      ·show ((x.began.full 1).1.begun:Int) - 1<(x.began.full 1).1.begun
       omega
  | put d p n =>
   show (if (x.full 2).2=true then ((x.full 2).1,cW.word "no room") else ((((x.full 2).1.c1 d p.toNat).putIn d p.toNat n),.word "done")).1.sound
   have sM:=S.full (m:=2)
   split
   ·exact sM
   ·have aF:=nc (.inl ⟨_,_,rfl⟩) dp
    have hd:(x.full 2).1.av=x.av:=oh
    refine⟨?_,?_,fun z hz=>?_⟩
    ·show (((x.full 2).1.aK.map fun z=>if z.1=d then (z.1,z.2++[(p.toNat,(x.full 2).1.av.getD p.toNat 0)]) else z).map (·.1)).Nodup
     have aH:(((x.full 2).1.aK.map fun z=>if z.1=d then (z.1,z.2++[(p.toNat,(x.full 2).1.av.getD p.toNat 0)]) else z).map (·.1))=(x.full 2).1.aK.map (·.1):=by
      rw[map_map]
      refine map_congr_left fun z _=>?_
      show (if z.1=d then (z.1,z.2++_) else z).1=z.1
      split <;> rfl
     rw[aH]
     exact sM.a_
    ·show (x.full 2).1.b_.length=((x.full 2).1.av.set _ _).length
     rw[length_set]
     exact sM.cd
    ·obtain⟨y,ck,rfl⟩:=mem_map.mp (show z∈(x.full 2).1.aK.map fun z=>if z.1=d then (z.1,z.2++[(p.toNat,(x.full 2).1.av.getD p.toNat 0)]) else z from hz)
     obtain⟨a,b,c⟩:=sM.d1 y ck
     have ld:((((x.full 2).1.c1 d p.toNat).putIn d p.toNat n)).av.length=(x.full 2).1.av.length:=by
      show ((x.full 2).1.av.set _ _).length=_
      rw[length_set]
     rw[ld]
     split
     ·refine⟨a,b,fun w hw=>?_⟩
      rcases mem_append.mp hw with h | h
      ·exact c w h
      ·rw[mem_singleton.mp h,hd]
       show p.toNat<x.av.length
       omega
     ·exact⟨a,b,c⟩
  | fin d =>
   refine⟨?_,S.cd,fun z hz=>S.d1 z (mem_filter.mp hz).1⟩
   exact S.a_.sublist (List.Sublist.map _ (filter_sublist (l:=x.aK)))
  | drop d =>
   have GR:(x.dM d).sound:=S.of mq Ib uO (by rw[gS,uM];exact le_refl _)
   refine⟨?_,GR.cd,fun z hz=>GR.d1 z (mem_filter.mp hz).1⟩
   exact GR.a_.sublist (List.Sublist.map _ (filter_sublist (l:=(x.dM d).aK)))
  | look p=>exact S
  | carry p=>exact S.of sY H6 (by rw[show ((x.gg (.carry p)).1).av=x.av from yc]) (by rw[show ((x.gg (.carry p)).1).begun=x.begun from uL];exact le_refl _)
  | cut=>exact S.of s9 (by rw[show ((x.gg .cut).1).b_=x.b_ from Hl]) (by rw[show ((x.gg .cut).1).av=x.av from yp]) (by rw[show ((x.gg .cut).1).begun=x.begun from uQ];exact le_refl _)
theorem Hs:x.opened.bound=x.bound+1:=by
 show ((x.aK++[(((x.begun:Int) - 1),([]:List (Nat × Int)))]).map fun z=>(z.2.length:Int)+1).sum=(x.aK.map fun z=>(z.2.length:Int)+1).sum+1
 rw[map_append,sum_append]
 simp
theorem aq.fit.a4 (S:x.sound) (f:x.fit) (e:b7):(x.a4 e).1.fit:=by
 have rf:(x.log.length:Int)+x.bound≤x.room:=f
 have xG:∀{y:aq} {m:Int},(y.log.length:Int)+y.bound≤y.room→(y.full m).1.fit:=fun {y} {m} h=>by
  have ak:=HH (x:=y) (m:=m)
  have az:(y.full m).1.bound=y.bound:=qh i_
  have cz:=uT (x:=y) (m:=m)
  show ((y.full m).1.log.length:Int)+(y.full m).1.bound≤(y.full m).1.room
  rw[az,cz]
  omega
 unfold aq.a4
 cases dp:x.refusal e with
 | some w=>exact f
 | none =>
  cases e with
  | begin =>
   show (if (x.began.full 1).2=true then ((x.began.full 1).1,cW.word "no room") else ((x.began.full 1).1.opened,.num x.begun)).1.fit
   split
   ·exact xG (y:=x.began) rf
   ·rename_i h
    have ak:=BE h
    show ((x.began.full 1).1.log.length:Int)+(x.began.full 1).1.opened.bound≤(x.began.full 1).1.room
    rw[Hs,uT]
    have aH:x.began.room=x.room:=rfl
    omega
  | put d p n =>
   show (if (x.full 2).2=true then ((x.full 2).1,cW.word "no room") else ((((x.full 2).1.c1 d p.toNat).putIn d p.toNat n),.word "done")).1.fit
   split
   ·exact xG rf
   ·rename_i h
    have ak:=BE h
    have aC:=hW (.inl ⟨_,_,rfl⟩) dp
    have aa:=BI (x:=(x.full 2).1) (d:=d) (p:=p.toNat) (S.full).a_ (by rw[sX i_];exact aC)
    show (((x.full 2).1.log++[bN.put d p.toNat (((x.full 2).1.c1 d p.toNat).av.getD p.toNat 0) n]).length:Int)+((x.full 2).1.c1 d p.toNat).bound≤(x.full 2).1.room
    rw[aa,length_append,length_singleton,uT]
    omega
  | fin d =>
   have aC:=hW (.inr (.inl rfl)) dp
   have aa:=tb S.a_ aC
   show ((x.log++[bN.fin d]).length:Int)+({ x with aK:=x.aK.filter fun z=>z.1 != d }:aq).bound≤x.room
   rw[aa,length_append,length_singleton]
   omega
  | drop d =>
   have aC:=hW (.inr (.inr rfl)) dp
   have aa:=tb S.a_ aC
   have aH:((x.dM d).fC d).bound=({ x with aK:=x.aK.filter fun z=>z.1 != d }:aq).bound:=qh (by
    show ((x.dM d).aK.filter fun z=>z.1 != d)=_
    rw[gS,mq])
   have aM:(x.dM d).log.length=x.log.length+(x.c5 d).length:=by rw[gS,yk,length_reverse]
   have bT:(x.dM d).room=x.room:=by rw[gS,Bo]
   show (((x.dM d).log++[bN.fin d]).length:Int)+((x.dM d).fC d).bound≤(x.dM d).room
   rw[aH,aa,length_append,length_singleton,aM,bT]
   omega
  | look p=>exact f
  | carry p =>
   show ((x.dZ p.toNat).log.length:Int)+(x.dZ p.toNat).bound≤(x.dZ p.toNat).room
   rw[Bv,Hp,qh sY]
   exact rf
  | cut =>
   have ak:=Bl (x:=x)
   show (x.dS.log.length:Int)+x.dS.bound≤x.dS.room
   rw[H3,qh s9]
   omega
end
theorem BU (ps:List Int) (room:Int):(bZ ps room).sound:=⟨nodup_nil,rfl,fun z hz=>(by cases hz)⟩
theorem CA {ps:List Int}{room:Int}(h:0≤room):(bZ ps room).fit:=by
 show (0:Int)+0≤room
 omega
structure eH (H:ao) (h ce aj lo pu st:Addr) (pl:List (Int × Addr)) (x:aq):Prop where
 hd:H aj=some (.lst (x.av.map V.int))
 aF:H pu=some (.bS (d3 pl))
 e1:pl.map (·.1)=x.aK.map (·.1)
 ah:∀(i:Nat) z w,pl[i]?=some z→x.aK[i]?=some w→∃ys,H z.2=some (.lst ys)∧bl H (w.2.map pairD) ys
 bK:(x.aK.map (·.1)).Nodup
 ap:(aj::pu::pl.map (·.2)).Nodup
def jA (aj pu:Addr) (pl:List (Int × Addr)):List Addr:=aj::pu::pl.map (·.2)
section
variable {H af:ao}{h ce aj lo pu st:Addr}{pl:List (Int × Addr)}{x y:aq}
theorem bw.acr (A:bw H h ce aj lo pu st pl x):eH H h ce aj lo pu st pl x:=by
 have ap:=A.ap
 unfold own at ap
 simp only[nodup_cons,mem_cons,not_or]at ap
 obtain⟨_,_,⟨e3,_,n7⟩,⟨_,A0⟩,_,e⟩:=ap
 exact⟨A.hd,A.aF,A.e1,A.ah,A.bK,nodup_cons.mpr ⟨fun m=>(mem_cons.mp m).elim e3 n7,nodup_cons.mpr ⟨A0,e⟩⟩⟩
theorem eH.of (A:eH H h ce aj lo pu st pl x) (aH:y.av=x.av) (aM:y.aK=x.aK):eH H h ce aj lo pu st pl y :=
 ⟨by rw[aH];exact A.hd,A.aF,by rw[aM];exact A.e1,by rw[aM];exact A.ah,by rw[aM];exact A.bK,A.ap⟩
theorem eH.same (A:eH H h ce aj lo pu st pl x) (s:bO H af):eH af h ce aj lo pu st pl x:=by
 refine⟨s _ _ A.hd,s _ _ A.aF,A.e1,fun i z w a b=>?_,A.bK,A.ap⟩
 obtain⟨ys,bx,aW⟩:=A.ah i z w a b
 exact⟨ys,s _ _ bx,bl.mono s _ _ aW⟩
theorem eH.ne (A:eH H h ce aj lo pu st pl x):aj≠pu∧∀z∈pl,z.2≠aj∧z.2≠pu:=by
 have ap:=A.ap
 simp only[nodup_cons,mem_cons,not_or]at ap
 obtain⟨⟨a1,a2⟩,b,_⟩:=ap
 refine⟨a1,fun z hz=>?_⟩
 have hm:z.2∈pl.map (·.2):=mem_map.mpr ⟨z,hz,rfl⟩
 exact⟨fun e=>a2 (e ▸ hm),fun e=>b (e ▸ hm)⟩
theorem eH.isOpen (A:eH H h ce aj lo pu st pl x) (d:Int):(dw (d3 pl) (Sum.inl d)).isSome=x.isOpen d:=by
 rw[qq,Option.isSome_map,B9 d A.e1]
 unfold aq.isOpen
 induction x.aK with
 | nil=>rfl
 | cons z r cC =>
  rw[find?_cons,any_cons]
  cases z.1 == d with
  | true=>rfl
  | false=>exact cC
theorem eH.tA (A:eH H h ce aj lo pu st pl x) (d:Int):e9 H pu (.int d) (dw (d3 pl) (Sum.inl d)):=.inl ⟨_,Sum.inl d,.inl A.aF,rfl,rfl⟩
theorem eH.mH (A:eH H h ce aj lo pu st pl x):pl.length=x.aK.length:=by
 have:=congrArg List.length A.e1
 rw[length_map,length_map]at this
 exact this
theorem eH.at_ (A:eH H h ce aj lo pu st pl x) {i:Nat}{z:Int × Addr}(hz:pl[i]?=some z):∃w ys,x.aK[i]?=some w∧w.1=z.1∧H z.2=some (.lst ys)∧bl H (w.2.map pairD) ys∧e9 H pu (.int z.1) (some (.ref z.2)):=by
 have aL:i<x.aK.length:=by rw[←A.mH];exact (List.getElem?_eq_some_iff.mp hz).1
 have hw:x.aK[i]?=some x.aK[i]:=getElem?_eq_getElem aL
 obtain⟨ys,bx,aW⟩:=A.ah i z _ hz hw
 have aH:(pl.map (·.1))[i]?=some z.1:=by rw[getElem?_map,hz];rfl
 have aM:(x.aK.map (·.1))[i]?=some (x.aK[i]).1:=by rw[getElem?_map,hw];rfl
 rw[A.e1,aM]at aH
 refine⟨_,ys,hw,Option.some.inj aH,bx,aW,?_⟩
 have g:=A.tA z.1
 rw[qq,lM (by rw[A.e1];exact A.bK) hz]at g
 exact g
theorem eH.tD (A:eH H h ce aj lo pu st pl x) {b:Addr}{xs:List V}(aa:H b=some (.tup xs)):b∉jA aj pu pl:=by
 intro hm
 rcases mem_cons.mp hm with e | hm
 ·rw[e,A.hd]at aa;cases aa
 rcases mem_cons.mp hm with e | hm
 ·rw[e,A.aF]at aa;cases aa
 obtain⟨z,hz,e⟩:=mem_map.mp hm
 obtain⟨i,aL⟩:=getElem?_of_mem hz
 obtain⟨w,ys,_,_,q,_,_⟩:=A.at_ aL
 rw[e,aa]at q
 cases q
theorem eH.e5 (A:eH H h ce aj lo pu st pl x) (o:gX (jA aj pu pl) H af):eh H af:=fun b xs q=>o b _ (A.tD q) q
theorem eH.there (A:eH H h ce aj lo pu st pl x) {b:Addr}(aa:H b=none):b∉jA aj pu pl:=by
 intro hm
 rcases mem_cons.mp hm with e | hm
 ·rw[e,A.hd]at aa;cases aa
 rcases mem_cons.mp hm with e | hm
 ·rw[e,A.aF]at aa;cases aa
 obtain⟨z,hz,e⟩:=mem_map.mp hm
 obtain⟨i,aL⟩:=getElem?_of_mem hz
 obtain⟨w,ys,_,_,q,_,_⟩:=A.at_ aL
 rw[e,aa]at q
 cases q
theorem eH.tG (A:eH H h ce aj lo pu st pl x) {c:List Int}:eH (upd H aj (.lst (c.map V.int))) h ce aj lo pu st pl { x with av:=c }:=by
 obtain⟨dT,np⟩:=A.ne
 have kt:eh H (upd H aj (.lst (c.map V.int))):=ru A.hd
 refine⟨aR,by rw[aA dT.symm];exact A.aF,A.e1,fun i z w a b=>?_,A.bK,A.ap⟩
 obtain⟨ys,bx,aW⟩:=A.ah i z w a b
 exact⟨ys,by rw[aA (np z (mem_of_getElem? a)).1];exact bx,bl.keep kt _ _ (eK hn _) aW⟩
theorem eH.ended (A:eH H h ce aj lo pu st pl x) (d:Int):eH (upd H pu (.bS (j1 (d3 pl) (Sum.inl d)))) h ce aj lo pu st (pl.filter fun z=>z.1 != d) { x with aK:=x.aK.filter fun z=>z.1 != d }:=by
 obtain⟨dT,np⟩:=A.ne
 have kt:eh H (upd H pu (.bS (j1 (d3 pl) (Sum.inl d)))):=eh.yX A.aF
 obtain⟨i2,m7⟩:=Bk (R:=fun z w=>z∈pl∧∃ys,H z.2=some (.lst ys)∧bl H (w.2.map pairD) ys) (fun y=>y != d) A.e1 fun i z w p q=>⟨mem_of_getElem? p,A.ah i z w p q⟩
 have sub:(aj::pu::(pl.filter fun z=>z.1 != d).map (·.2)).Sublist (aj::pu::pl.map (·.2)):=((filter_sublist.map _).cons_cons _).cons_cons _
 refine⟨by rw[aA dT];exact A.hd,by rw[aR,JU],i2,fun i z w a b=>?_,(filter_sublist.map _).nodup A.bK,sub.nodup A.ap⟩
 obtain⟨hz,ys,bx,aW⟩:=m7 i z w a b
 exact⟨ys,by rw[aA (np z hz).2];exact bx,bl.keep kt _ _ (eK hn _) aW⟩
theorem eH.opened (A:eH H h ce aj lo pu st pl x) {d:Int}{a:Addr}(bk:H a=some (.lst [])) (aP:a∉jA aj pu pl) (hd:x.isOpen d=false) :
  eH (upd H pu (.bS (putK (d3 pl) (Sum.inl d) (.ref a)))) h ce aj lo pu st (pl++[(d,a)]) { x with aK:=x.aK++[(d,[])] }:=by
 obtain⟨dT,np⟩:=A.ne
 have kt:eh H (upd H pu (.bS (putK (d3 pl) (Sum.inl d) (.ref a)))):=eh.yX A.aF
 have gH:dw (d3 pl) (Sum.inl d)=none:=by
  have:=A.isOpen d
  rw[hd]at this
  exact Option.isNone_iff_eq_none.mp (by rw[←Option.not_isSome,this];rfl)
 have cp:putK (d3 pl) (Sum.inl d) (.ref a)=d3 (pl++[(d,a)]):=by
  rw[Jc _ gH]
  unfold d3
  rw[map_append]
  rfl
 have a_:¬d∈x.aK.map (·.1):=by
  intro m
  obtain⟨z,hz,e⟩:=mem_map.mp m
  have:x.isOpen d=true:=any_eq_true.mpr ⟨z,hz,by rw[e];exact beq_self_eq_true d⟩
  rw[hd]at this
  cases this
 have q9:=A.mH
 have iF:(aj::pu::(pl++[(d,a)]).map (·.2))=(aj::pu::pl.map (·.2))++[a]:=by
  rw[map_append]
  rfl
 refine⟨by rw[aA dT];exact A.hd,by rw[aR,cp],by rw[map_append,map_append,A.e1];rfl,fun i z w p q=>?_,?_,?_⟩
 ·by_cases aL:i<pl.length
  ·rw[getElem?_append_left aL]at p
   rw[getElem?_append_left (by omega)]at q
   obtain⟨ys,bx,aW⟩:=A.ah i z w p q
   exact⟨ys,by rw[aA (np z (mem_of_getElem? p)).2];exact bx,bl.keep kt _ _ (eK hn _) aW⟩
  ·have r3:i=pl.length:=by
    have:=(List.getElem?_eq_some_iff.mp p).1
    rw[length_append,length_singleton]at this
    omega
   subst r3
   rw[getElem?_append_right (le_refl _),sub_self]at p
   rw[q9,getElem?_append_right (le_refl _),sub_self]at q
   have gA:(d,a)=z:=Option.some.inj p
   have kl:((d,[]):Int × List (Nat × Int))=w:=Option.some.inj q
   subst gA kl
   have na:a≠pu:=fun e=>aP (by rw[e];exact mem_cons_of_mem _ mem_cons_self)
   exact⟨[],by rw[aA na];exact bk,.nil⟩
 ·rw[map_append,nodup_append]
  refine⟨A.bK,by simp,fun u bf v aX=>?_⟩
  have iy:v=d:=by simpa using aX
  subst iy
  exact fun e=>a_ (e ▸ bf)
 ·rw[iF,nodup_append]
  refine⟨A.ap,by simp,fun u bf v aX=>?_⟩
  have iy:v=a:=by simpa using aX
  subst iy
  exact fun e=>aP (e ▸ bf)
theorem eH.c1 (A:eH H h ce aj lo pu st pl x) {i:Nat}{d:Int}{a:Addr}{ys:List V}{y:Nat × Int}{v:V}(aL:pl[i]?=some (d,a)) (bk:H a=some (.lst ys)) (aX:Rep H (pairD y) v) :
  eH (upd H a (.lst (ys++[v]))) h ce aj lo pu st pl { x with aK:=x.aK.map fun z=>if z.1=d then (z.1,z.2++[y]) else z }:=by
 obtain⟨dT,np⟩:=A.ne
 obtain⟨k3,m6⟩:=np _ (mem_of_getElem? aL)
 have kt:eh H (upd H a (.lst (ys++[v]))):=ru bk
 have gI:(x.aK.map fun z=>if z.1=d then (z.1,z.2++[y]) else z).map (·.1)=x.aK.map (·.1):=by
  rw[map_map]
  refine map_congr_left fun z _=>?_
  show (if z.1=d then (z.1,z.2++[y]) else z).1=z.1
  split <;> rfl
 have Er:(pl.map (·.2)).Nodup:=(nodup_cons.mp (nodup_cons.mp A.ap).2).2
 refine⟨by rw[aA (Ne.symm k3)];exact A.hd,by rw[aA (Ne.symm m6)];exact A.aF,by rw[gI];exact A.e1,fun j z w p q=>?_,by rw[gI];exact A.bK,A.ap⟩
 obtain⟨en,bx,rfl⟩:=KC q
 obtain⟨us,gG,gu⟩:=A.ah j z en p bx
 obtain⟨eB,_,t1,eE,_,_,_⟩:=A.at_ p
 rw[bx]at t1
 cases t1
 by_cases e:z=(d,a)
 ·subst e
  rw[if_pos eE]
  rw[bk]at gG
  cases gG
  refine⟨ys++[v],aR,?_⟩
  show bl _ ((en.2++[y]).map pairD) _
  rw[map_append]
  exact (bl.keep kt _ _ (eK hn _) gu).append (.cons (Rep.keep kt _ _ (hn y) aX) .nil)
 ·have a_:¬en.1=d:=by
   intro cS
   have f1:=lM (l:=pl) (by rw[A.e1];exact A.bK) p
   have f2:=lM (l:=pl) (by rw[A.e1];exact A.bK) aL
   rw[←eE,cS]at f1
   have fy:pl.find? (fun y=>y.1 == d)=some (d,a):=f2
   rw[fy]at f1
   exact e (Option.some.inj f1).symm
  have na:z.2≠a:=by
   intro cS
   have g1:(pl.map (·.2))[j]?=some a:=by rw[getElem?_map,p];exact congrArg some cS
   have g2:(pl.map (·.2))[i]?=some a:=by rw[getElem?_map,aL];rfl
   have di:j=i:=by
    have gy:=(List.getElem?_eq_some_iff.mp g1).1
    exact (List.getElem?_inj gy Er).mp (g1.trans g2.symm)
   subst di
   rw[p]at aL
   exact e (Option.some.inj aL)
  rw[if_neg a_]
  exact⟨us,by rw[aA na];exact gG,bl.keep kt _ _ (eK hn _) gu⟩
theorem eH.qs (A:eH H h ce aj lo pu st pl x) {d:Int}(hd:x.isOpen d=true):∃(i:Nat) (a:Addr) (ys:List V),pl[i]?=some (d,a)∧x.aK[i]?=some (d,x.c5 d)∧H a=some (.lst ys)∧bl H ((x.c5 d).map pairD) ys∧e9 H pu (.int d) (some (.ref a)):=by
 obtain⟨w,hw,e⟩:=any_eq_true.mp hd
 obtain⟨i,aL⟩:=getElem?_of_mem hw
 have cX:w.1=d:=beq_iff_eq.mp e
 have aE:i<pl.length:=by rw[A.mH];exact (List.getElem?_eq_some_iff.mp aL).1
 have hz:pl[i]?=some pl[i]:=getElem?_eq_getElem aE
 obtain⟨eB,ys,bx,aW,fE,jn,kN⟩:=A.at_ hz
 rw[aL]at bx
 cases bx
 have cp:x.c5 d=w.2:=by
  unfold aq.c5
  have:=lM A.bK aL
  rw[cX]at this
  rw[this]
  rfl
 have gA:pl[i]=(d,(pl[i]).2):=by
  rw[←cX,aW]
 refine⟨i,(pl[i]).2,ys,by rw[hz];exact congrArg some gA,by rw[aL,cp,←cX],fE,by rw[cp];exact jn,?_⟩
 rw[←aW,cX]at kN
 exact kN
end
def jv (l:List (Nat × Int)) (ds:List Int):List Int:=l.foldl (fun ds z=>ds.set z.1 z.2) ds
section
variable {x:aq}{d m:Int}{p:Nat}{e:b7}
theorem Bx:∀{l:List (Nat × Int)}{x:aq},(x.eb d l).av=jv l x.av
 | [],_=>rfl
 | z::l,x=>by
  show ((x.putIn d z.1 z.2).eb d l).av=_
  rw[Bx]
  rfl
structure acf (x y:aq) (m:Int):Prop where
 ce:y.b_=x.av
 aj:y.av=x.av
 pu:y.aK=x.aK
 nn:ep y.b_ y.av y.isOpen y.log=0
 lo:x.room<(y.log.length:Int)+x.bound+m
end
def bp.jG (cs:List Int):bp→List Int
 | .d9 p n=>cs.set p n
 | _=>cs
def bp.gV (l:List bN):bp→List bN
 | .line ln=>l++[ln]
 | .cut k=>l.drop k
 | _=>l
theorem lZ.wR {x y:aq}{s:bp}(h:lZ x s y):y.b_=s.jG x.b_∧y.log=s.gV x.log∧(y.log.length:Int)≤x.room:=by
 cases h with
 | carry p aF aP aD=>exact⟨rfl,rfl,aD⟩
 | cut h aD=>exact⟨rfl,rfl,by
   show ((x.log.drop (ep x.b_ x.av x.isOpen x.log)).length:Int)≤_
   rw[length_drop]
   omega⟩
 | put d p n aF aC aZ aD h0=>exact⟨rfl,rfl,by
   show ((x.log++[_]).length:Int)≤_
   rw[length_append,length_singleton]
   omega⟩
 | dM d p n aF aC hm aD=>exact⟨rfl,rfl,by
   show ((x.log++[_]).length:Int)≤_
   rw[length_append,length_singleton]
   omega⟩
 | fin d aC aD=>exact⟨rfl,rfl,by
   show ((x.log++[_]).length:Int)≤_
   rw[length_append,length_singleton]
   omega⟩
theorem Path.wR {x y:aq}{l:List bp}(h:Path x l y):y.b_=l.foldl bp.jG x.b_∧y.log=l.foldl bp.gV x.log:=by
 induction h with
 | nil x=>exact⟨rfl,rfl⟩
 | cons m t cC =>
  obtain⟨a,b,_⟩:=m.wR
  rw[foldl_cons,foldl_cons,←a,←b]
  exact cC
section
variable {X:bI}
end
def fB (op:Int→Bool):List bN→Nat→Option Int
 | [],_=>none
 | .put d p o _::r,q=>if p=q∧op d=true then some o else fB op r q
 | .fin _::r,q=>fB op r q
def gn (op:Int→Bool):List bN→Prop
 | []=>True
 | .put d _ _ _::r=>(op d=false→bN.fin d∈r)∧gn op r
 | .fin d::r=>op d=false∧gn op r
section
variable {op nD:Int→Bool}{d o n:Int}{p q:Nat}
theorem gn.drop:∀{l:List bN}(k:Nat),gn op l→gn op (l.drop k)
 | [],k,h=>by rw[List.drop_nil];exact h
 | _::_,0,h=>h
 | .put _ _ _ _::r,k+1,h=>gn.drop (l:=r) k h.2
 | .fin _::r,k+1,h=>gn.drop (l:=r) k h.2
theorem gn.fin:∀{l:List bN},gn op l→bN.fin d∈l→op d=false
 | .put _ _ _ _::r,h,m=>by
  rcases mem_cons.mp m with z | z
  ·cases z
  ·exact gn.fin h.2 z
 | .fin _::r,h,m=>by
  rcases mem_cons.mp m with z | z
  ·cases z;exact h.1
  ·exact gn.fin h.2 z
theorem gn.put:∀{l:List bN},gn op l→bN.put d p o n∈l→op d=false→bN.fin d∈l
 | .put _ _ _ _::r,h,m,e=>by
  rcases mem_cons.mp m with z | z
  ·cases z;exact mem_cons_of_mem _ (h.1 e)
  ·exact mem_cons_of_mem _ (gn.put h.2 z e)
 | .fin _::r,h,m,e=>by
  rcases mem_cons.mp m with z | z
  ·cases z
  ·exact mem_cons_of_mem _ (gn.put h.2 z e)
theorem gn.snoc {ln:bN}:∀{l:List bN},gn op l→(∀d,nD d=false→op d=false∨ln=.fin d)→(∀d,bN.fin d∈l→op d=false→nD d=false)→gn nD [ln]→gn nD (l++[ln])
 | [],_,_,_,h=>h
 | .put d p o n::r,h,ak,az,cz=>⟨fun e=>by
   rcases ak d e with z | z
   ·exact mem_append_left _ (h.1 z)
   ·exact mem_append_right _ (by rw[z];exact mem_cons_self),gn.snoc h.2 ak (fun d m=>az d (mem_cons_of_mem _ m)) cz⟩
 | .fin d::r,h,ak,az,cz=>⟨az d mem_cons_self h.1,gn.snoc h.2 ak (fun d m=>az d (mem_cons_of_mem _ m)) cz⟩
theorem gn.congr:∀{l:List bN},gn op l→(∀d,nD d=false→op d=false)→(∀d,bN.fin d∈l→op d=false→nD d=false)→gn nD l
 | [],_,_,_=>True.intro
 | .put d p o n::r,h,ak,az=>⟨fun e=>h.1 (ak d e),gn.congr h.2 ak fun d m=>az d (mem_cons_of_mem _ m)⟩
 | .fin d::r,h,ak,az=>⟨az d mem_cons_self h.1,gn.congr h.2 ak fun d m=>az d (mem_cons_of_mem _ m)⟩
theorem x_:∀{l:List bN},(∀d o n,bN.put d q o n∈l→op d=nD d)→fB op l q=fB nD l q
 | [],_=>rfl
 | .fin d::r,h=>x_ (l:=r) fun d o n hm=>h d o n (mem_cons_of_mem _ hm)
 | .put d p o n::r,h=>by
  have cC:=x_ (l:=r) fun d o n hm=>h d o n (mem_cons_of_mem _ hm)
  show (if p=q∧op d=true then some o else fB op r q)=(if p=q∧nD d=true then some o else fB nD r q)
  by_cases e:p=q
  ·subst e
   rw[h d o n mem_cons_self,cC]
  ·rw[if_neg fun z=>e z.1,if_neg fun z=>e z.1]
   exact cC
theorem Bg:∀{l:List bN},(∀d o n,bN.put d q o n∈l→op d=false)→fB op l q=none
 | [],_=>rfl
 | .fin d::r,h=>Bg (l:=r) fun d o n hm=>h d o n (mem_cons_of_mem _ hm)
 | .put d p o n::r,h=>by
  show (if p=q∧op d=true then some o else fB op r q)=none
  rw[if_neg]
  ·exact Bg (l:=r) fun d o n hm=>h d o n (mem_cons_of_mem _ hm)
  ·rintro⟨e,aM⟩
   subst e
   rw[h d o n mem_cons_self]at aM
   cases aM
theorem uJ (a b:List bN):fB op (a++b) q=(fB op a q).or (fB op b q):=by
 induction a with
 | nil=>rfl
 | cons ln r cC =>
  cases ln with
  | fin d=>exact cC
  | put d p o n =>
   show (if p=q∧op d=true then some o else fB op (r++b) q)=(if p=q∧op d=true then some o else fB op r q).or _
   by_cases h:p=q∧op d=true
   ·rw[if_pos h,if_pos h];rfl
   ·rw[if_neg h,if_neg h];exact cC
theorem Bf {full:List bN}:∀{l:List bN},(∀d o n,bN.put d q o n∈l→jZ full d = !op d)→oi full l q=fB op l q
 | [],_=>rfl
 | .fin d::r,h=>Bf (l:=r) fun d o n hm=>h d o n (mem_cons_of_mem _ hm)
 | .put d p o n::r,h=>by
  have cC:=Bf (l:=r) fun d o n hm=>h d o n (mem_cons_of_mem _ hm)
  show (if p=q∧jZ full d=false then some o else oi full r q)=(if p=q∧op d=true then some o else fB op r q)
  by_cases e:p=q
  ·subst e
   rw[h d o n mem_cons_self,cC]
   cases op d <;> simp
  ·rw[if_neg fun z=>e z.1,if_neg fun z=>e z.1]
   exact cC
theorem gn.DX {l:List bN}(h:gn op l):oi l l q=fB op l q :=
 Bf fun d o n m=>by
  cases e:op d with
  | false=>exact BG.mpr (h.put m e)
  | true =>
   refine Bool.eq_false_iff.mpr fun z=>?_
   rw[h.fin (BG.mp z)]at e
   cases e
theorem RZ:∀{l:List bN},eu l q none=none→l.any (iR q)=false:=fun {l} h=>by
 refine Bool.eq_false_iff.mpr fun z=>?_
 obtain⟨ln,hm,e⟩:=any_eq_true.mp z
 cases ln with
 | fin d=>cases e
 | put d p o n =>
  have cX:p=q:=of_decide_eq_true e
  subst cX
  exact RP ⟨d,o,n,hm⟩ h
theorem yb (ce aj:List Int) (op:Int→Bool):∀l:List bN,fB op (l.drop (ep ce aj op l)) q=fB op l q
 | []=>rfl
 | .fin d::r=>by
  show fB op ((bN.fin d::r).drop (ep ce aj op r+1)) q=fB op r q
  rw[drop_succ_cons]
  exact yb ce aj op r
 | .put d p o n::r=>by
  have e:ep ce aj op (.put d p o n::r)=if op d=true∨(r.any (iR p)=false∧ce[p]?≠aj[p]?) then 0 else ep ce aj op r+1:=rfl
  by_cases c:op d=true∨(r.any (iR p)=false∧ce[p]?≠aj[p]?)
  ·rw[e,if_pos c];rfl
  ·rw[e,if_neg c,drop_succ_cons,yb ce aj op r]
   show _=if p=q∧op d=true then some o else fB op r q
   rw[if_neg fun z=>c (.inl z.2)]
theorem yg (ce aj:List Int) (op:Int→Bool):∀l:List bN,eu (l.drop (ep ce aj op l)) q none=eu l q none∨(eu (l.drop (ep ce aj op l)) q none=none∧ce[q]?=aj[q]?)
 | []=>.inl rfl
 | .fin d::r=>by
  show eu ((bN.fin d::r).drop (ep ce aj op r+1)) q none=eu r q none∨(eu ((bN.fin d::r).drop (ep ce aj op r+1)) q none=none∧_)
  rw[drop_succ_cons]
  exact yg ce aj op r
 | .put d p o n::r=>by
  have e:ep ce aj op (.put d p o n::r)=if op d=true∨(r.any (iR p)=false∧ce[p]?≠aj[p]?) then 0 else ep ce aj op r+1:=rfl
  by_cases c:op d=true∨(r.any (iR p)=false∧ce[p]?≠aj[p]?)
  ·rw[e,if_pos c];exact .inl rfl
  ·rw[e,if_neg c,drop_succ_cons]
   rcases yg ce aj op r with h | h
   ·have aM:eu (.put d p o n::r) q none=(eu r q none).or (if p=q then some n else none):=HE r q _
    rw[aM]
    cases aD:eu r q none with
    | some v=>rw[h,aD];exact .inl rfl
    | none =>
     rw[aD]at h
     by_cases cp:p=q
     ·subst cp
      have az:ce[p]?=aj[p]?:=Classical.byContradiction fun z=>c (.inr ⟨RZ aD,z⟩)
      exact .inr ⟨h,az⟩
     ·rw[h,if_neg cp];exact .inl rfl
   ·exact .inr h
end
def aq.has (y:aq) (d:Int) (q:Nat):Prop:=∃l o,(d,l)∈y.aK∧(q,o)∈l
structure J (y:aq) (c:List Int) (b:Int):Prop where
 cl:c.length=y.av.length
 cd:y.b_.length=y.av.length
 ln:∀q v,eu y.log q none=some v→y.av[q]?=some v
 ej:∀q,eu y.log q none=none→y.b_[q]?=y.av[q]?
 bF:∀d q,y.has d q→fB y.isOpen y.log q=c[q]?
 ek:∀q,(∀d,¬y.has d q)→fB y.isOpen y.log q=none∧y.av[q]?=c[q]?
 du:gn y.isOpen y.log
 un:∀d d' q,y.has d q→y.has d' q→d=d'
 pt:∀d q o n,bN.put d q o n∈y.log→y.isOpen d=true→y.has d q
 eW:∀d l q z,(d,l)∈y.aK→l.find? (fun e=>e.1 == q)=some z→c[q]?=some z.2
 bV:∀d,bN.fin d∈y.log→d<b
 lH:∀d,y.isOpen d=true→d<b
 h7:∀d q o n,bN.put d q o n∈y.log→d<b
 a_:(y.aK.map (·.1)).Nodup
 d1:∀d l q o,(d,l)∈y.aK→(q,o)∈l→q<y.av.length
section
variable {y y':aq}{c fJ:List Int}{b d n:Int}{p q:Nat}
theorem J.of (h:J y c b) (aH:y'.b_=y.b_) (aM:y'.av=y.av) (bT:y'.log=y.log) (b1:y'.aK=y.aK):J y' c b:=by
 obtain⟨ce,aj,lo,pu,lx,be,st⟩:=y
 obtain⟨adP,ac4,lo',acw,acv,adQ,gK⟩:=y'
 cases aH;cases aM;cases bT;cases b1
 exact⟨h.cl,h.cd,h.ln,h.ej,h.bF,h.ek,h.du,h.un,h.pt,h.eW,h.bV,h.lH,h.h7,h.a_,h.d1⟩
theorem J.want (h:J y c b):sJ y.b_ y.log c:=by
 refine⟨by rw[h.cl,h.cd],fun q v aX=>?_⟩
 have bo:q<c.length:=by rw[h.cl,←h.cd];exact (List.getElem?_eq_some_iff.mp aX).1
 have ai:c[q]?=some c[q]:=getElem?_eq_getElem bo
 unfold vp
 rw[h.du.DX]
 by_cases t:∃d,y.has d q
 ·obtain⟨d,t⟩:=t
  rw[h.bF d q t,ai]
  rfl
 ·have t':∀d,¬y.has d q:=fun d z=>t ⟨d,z⟩
  obtain⟨ak,az⟩:=h.ek q t'
  rw[ak]
  show c[q]?=some ((eu y.log q none).getD v)
  cases aE:eu y.log q none with
  | some u=>rw[←az,h.ln q u aE];rfl
  | none=>rw[←az,←h.ej q aE,aX];rfl
theorem J.d9 (h:J y c b) (aF:p<y.av.length):J (y.c9 (.d9 p (y.av.getD p 0))) c b:=by
 refine⟨h.cl,?_,h.ln,fun q bo=>?_,h.bF,h.ek,h.du,h.un,h.pt,h.eW,h.bV,h.lH,h.h7,h.a_,h.d1⟩
 ·show (y.b_.set p _).length=_
  rw[length_set];exact h.cd
 ·show (y.b_.set p (y.av.getD p 0))[q]?=y.av[q]?
  by_cases e:q=p
  ·subst e
   rw[getElem?_set_self (by rw[h.cd];exact aF),getD_eq_getElem?_getD,getElem?_eq_getElem aF]
   rfl
  ·rw[getElem?_set_ne (Ne.symm e)]
   exact h.ej q bo
theorem J.dZ (h:J y c b) (aF:p<y.av.length):J (y.dZ p) c b:=by
 unfold aq.dZ
 split
 ·exact h
 ·exact h.d9 aF
theorem J.nA (h:J y c b):J (y.c9 (.cut (ep y.b_ y.av y.isOpen y.log))) c b:=by
 have sub:∀ln,ln∈y.log.drop (ep y.b_ y.av y.isOpen y.log)→ln∈y.log:=fun ln m=>List.mem_of_mem_drop m
 refine⟨h.cl,h.cd,fun q v aX=>?_,fun q bo=>?_,fun d q t=>?_,fun q t=>?_,h.du.drop _,h.un,fun d q o n m=>h.pt d q o n (sub _ m),h.eW,fun d m=>h.bV d (sub _ m),h.lH,fun d q o n m=>h.h7 d q o n (sub _ m),h.a_,h.d1⟩
 ·have aX:eu (y.log.drop (ep y.b_ y.av y.isOpen y.log)) q none=some v:=aX
  rcases yg (q:=q) y.b_ y.av y.isOpen y.log with z | z
  ·rw[z]at aX;exact h.ln q v aX
  ·rw[z.1]at aX;cases aX
 ·have bo:eu (y.log.drop (ep y.b_ y.av y.isOpen y.log)) q none=none:=bo
  rcases yg (q:=q) y.b_ y.av y.isOpen y.log with z | z
  ·rw[z]at bo;exact h.ej q bo
  ·exact z.2
 ·show fB y.isOpen (y.log.drop _) q=_
  rw[yb];exact h.bF d q t
 ·show fB y.isOpen (y.log.drop _) q=_∧_
  rw[yb];exact h.ek q t
theorem J.dS (h:J y c b):J y.dS c b:=by
 unfold aq.dS
 split
 ·exact h.nA
 ·exact h
theorem J.eU (h:J y c b):∀{i:Nat},i≤y.av.length→J (y.eU i) c b
 | 0,_=>h
 | i+1,aL=>by
  rw[kq]
  exact (J.eU h (i:=i) (by omega)).dZ (by rw[rm];omega)
theorem J.full (h:J y c b) (m:Int):J (y.full m).1 c b:=by
 unfold aq.full
 split
 ·exact h
 ·show J y.gd c b
  rw[kr]
  exact (h.eU (le_refl _)).dS
theorem J.LN (h:J y c b) (aF:p<y.av.length) (aC:y.isOpen d=true) (hd:y.has d p):J (y.putIn d p n) c b:=by
 have du:(y.putIn d p n).log=y.log++[.put d p (y.av.getD p 0) n]:=rfl
 have d4:(y.putIn d p n).av=y.av.set p n:=rfl
 have h6:(y.putIn d p n).isOpen=y.isOpen:=rfl
 have kQ:(y.putIn d p n).has=y.has:=rfl
 have ld:(y.putIn d p n).av.length=y.av.length:=s8
 have qN:∀q,eu (y.putIn d p n).log q none=if p=q then some n else eu y.log q none:=fun q=>by
  rw[du,uK];rfl
 have mem:∀ln,ln∈(y.putIn d p n).log→ln∈y.log∨ln=.put d p (y.av.getD p 0) n:=fun ln m=>by
  rw[du]at m
  rcases mem_append.mp m with z | z
  ·exact .inl z
  ·exact .inr (mem_singleton.mp z)
 refine⟨by rw[ld];exact h.cl,by rw[ld];exact h.cd,fun q v aX=>?_,fun q bo=>?_,fun d' q t=>?_,fun q t=>?_,?_,h.un,fun d' q o jP m e=>?_,h.eW,fun d' m=>?_,h.lH,fun d' q o jP m=>?_,h.a_,fun d' l q o cn cu=>by rw[ld];exact h.d1 d' l q o cn cu⟩
 ·rw[qN]at aX
  rw[d4]
  by_cases e:p=q
  ·rw[if_pos e]at aX
   cases aX
   rw[←e,getElem?_set_self aF]
  ·rw[if_neg e]at aX
   rw[getElem?_set_ne e]
   exact h.ln q v aX
 ·rw[qN]at bo
  rw[d4]
  by_cases e:p=q
  ·rw[if_pos e]at bo;cases bo
  ·rw[if_neg e]at bo
   rw[getElem?_set_ne e]
   exact h.ej q bo
 ·rw[h6,du,uJ]
  have ak:=h.bF d' q t
  rw[ak]
  have bo:q<c.length:=by
   obtain⟨l,o,cn,cu⟩:=t
   rw[h.cl];exact h.d1 d' l q o cn cu
  rw[getElem?_eq_getElem bo]
  rfl
 ·have iA:p≠q:=fun e=>t d (by rw[←e];exact hd)
  obtain⟨ak,az⟩:=h.ek q t
  refine⟨?_,by rw[d4,getElem?_set_ne iA];exact az⟩
  rw[h6,du,uJ,ak]
  show (none:Option Int).or (if p=q∧y.isOpen d=true then _ else none)=none
  rw[if_neg fun z=>iA z.1]
  rfl
 ·rw[h6,du]
  refine h.du.snoc (fun d z=>.inl z) (fun d _ z=>z) ⟨fun z=>?_,True.intro⟩
  rw[aC]at z;cases z
 ·rcases mem _ m with z | z
  ·exact h.pt d' q o jP z e
  ·cases z;exact hd
 ·rcases mem _ m with z | z
  ·exact h.bV d' z
  ·cases z
 ·rcases mem _ m with z | z
  ·exact h.h7 d' q o jP z
  ·cases z;exact h.lH d aC
theorem Tt (aC:y.isOpen d=true) {d':Int}:(y.c1 d p).has d' q↔y.has d' q∨(d'=d∧q=p):=by
 constructor
 ·rintro⟨l,o,cn,cu⟩
  obtain⟨z,hz,e⟩:=mem_map.mp cn
  by_cases c:z.1=d
  ·rw[if_pos c]at e
   cases e
   rcases mem_append.mp cu with k | k
   ·exact .inl ⟨z.2,o,hz,k⟩
   ·have:=mem_singleton.mp k
    cases this
    exact .inr ⟨c,rfl⟩
  ·rw[if_neg c]at e
   subst e
   exact .inl ⟨l,o,hz,cu⟩
 ·rintro (⟨l,o,cn,cu⟩ | ⟨rfl,rfl⟩)
  ·by_cases c:d'=d
   ·exact⟨_,o,mem_map.mpr ⟨(d',l),cn,if_pos c⟩,mem_append_left _ cu⟩
   ·exact⟨l,o,mem_map.mpr ⟨(d',l),cn,if_neg c⟩,cu⟩
  ·exact⟨_,_,mem_map.mpr ⟨_,ks aC,if_pos rfl⟩,mem_append_right _ mem_cons_self⟩
theorem Sw {d':Int}:(y.c1 d p).isOpen d'=y.isOpen d':=by
 unfold aq.isOpen aq.c1
 show (y.aK.map _).any _=_
 rw[any_map]
 congr 1
 funext z
 show ((if z.1=d then (z.1,z.2++[_]) else z).1 == d')=(z.1 == d')
 split <;> rfl
theorem Ic:(y.c1 d p).aK.map (·.1)=y.aK.map (·.1):=by
 show (y.aK.map _).map _=_
 rw[map_map]
 refine map_congr_left fun z _=>?_
 show (if z.1=d then (z.1,z.2++[_]) else z).1=z.1
 split <;> rfl
theorem B3 {l:List (Nat × Int)}(a_:(y.aK.map (·.1)).Nodup) (m:(d,l)∈y.aK):y.c5 d=l:=by
 obtain⟨i,aL⟩:=getElem?_of_mem m
 unfold aq.c5
 rw[lM a_ aL]
 rfl
theorem J.put (h:J y c b) (aF:p<y.av.length) (aC:y.isOpen d=true) (bf:∀d',y.has d' p→d'=d):J ((y.c1 d p).putIn d p n) c b:=by
 have kQ:∀{d':Int} {q:Nat},((y.c1 d p).putIn d p n).has d' q↔y.has d' q∨(d'=d∧q=p):=Tt aC
 have h6:((y.c1 d p).putIn d p n).isOpen=y.isOpen:=funext fun d'=>Sw
 have du:((y.c1 d p).putIn d p n).log=y.log++[.put d p (y.av.getD p 0) n]:=rfl
 have d4:((y.c1 d p).putIn d p n).av=y.av.set p n:=rfl
 have ld:((y.c1 d p).putIn d p n).av.length=y.av.length:=by rw[d4,length_set]
 have qN:∀q,eu ((y.c1 d p).putIn d p n).log q none=if p=q then some n else eu y.log q none:=fun q=>by
  rw[du,uK];rfl
 have OC:y.av[p]?=some (y.av.getD p 0):=by rw[getD_eq_getElem?_getD,getElem?_eq_getElem aF];rfl
 have mem:∀ln,ln∈((y.c1 d p).putIn d p n).log→ln∈y.log∨ln=.put d p (y.av.getD p 0) n:=fun ln m=>by
  rw[du]at m
  rcases mem_append.mp m with z | z
  ·exact .inl z
  ·exact .inr (mem_singleton.mp z)
 have old:y.has d p∨∀d',¬y.has d' p:=by
  by_cases t:y.has d p
  ·exact .inl t
  ·exact .inr fun d' z=>t (by rw[←bf d' z];exact z)
 refine⟨by rw[ld];exact h.cl,by rw[ld];exact h.cd,fun q v aX=>?_,fun q bo=>?_,fun d' q t=>?_,fun q t=>?_,?_,fun fV e2 q t1 eE=>?_,fun d' q o jP m e=>?_,fun d' l q z m hf=>?_,fun d' m=>?_,fun d' e=>h.lH d' (by rw[←h6];exact e),fun d' q o jP m=>?_,by rw[show ((y.c1 d p).putIn d p n).aK=(y.c1 d p).aK from rfl,Ic];exact h.a_,fun d' l q o cn cu=>?_⟩
 ·rw[qN]at aX
  rw[d4]
  by_cases e:p=q
  ·rw[if_pos e]at aX
   cases aX
   rw[←e,getElem?_set_self aF]
  ·rw[if_neg e]at aX
   rw[getElem?_set_ne e]
   exact h.ln q v aX
 ·rw[qN]at bo
  rw[d4]
  by_cases e:p=q
  ·rw[if_pos e]at bo;cases bo
  ·rw[if_neg e]at bo
   rw[getElem?_set_ne e]
   exact h.ej q bo
 ·rw[h6,du,uJ]
  have fin:∀Ay,y.has Ay q→(fB y.isOpen y.log q).or (fB y.isOpen [bN.put d p (y.av.getD p 0) n] q)=c[q]?:=fun Ay MB=>by
   have bo:q<c.length:=by
    obtain⟨l,o,cn,cu⟩:=MB
    rw[h.cl];exact h.d1 Ay l q o cn cu
   rw[h.bF Ay q MB,getElem?_eq_getElem bo]
   rfl
  rcases kQ.mp t with z | ⟨_,z⟩
  ·exact fin d' z
  ·rw[z]at fin ⊢
   rcases old with k | k
   ·exact fin d k
   ·obtain⟨ak,az⟩:=h.ek p k
    rw[ak]
    show (none:Option Int).or (if p=p∧y.isOpen d=true then some (y.av.getD p 0) else none)=c[p]?
    rw[if_pos ⟨rfl,aC⟩,←az,OC]
    rfl
 ·have iA:p≠q:=fun e=>t d (kQ.mpr (.inr ⟨rfl,e.symm⟩))
  obtain⟨ak,az⟩:=h.ek q fun d' z=>t d' (kQ.mpr (.inl z))
  refine⟨?_,by rw[d4,getElem?_set_ne iA];exact az⟩
  rw[h6,du,uJ,ak]
  show (none:Option Int).or (if p=q∧y.isOpen d=true then _ else none)=none
  rw[if_neg fun z=>iA z.1]
  rfl
 ·rw[h6,du]
  refine h.du.snoc (fun d z=>.inl z) (fun d _ z=>z) ⟨fun z=>?_,True.intro⟩
  rw[aC]at z;cases z
 ·rcases kQ.mp t1 with dm | ⟨dm,e6⟩ <;> rcases kQ.mp eE with dW | ⟨dW,eB⟩
  ·exact h.un fV e2 q dm dW
  ·rw[dW];exact bf fV (by rw[←eB];exact dm)
  ·rw[dm];exact (bf e2 (by rw[←e6];exact dW)).symm
  ·rw[dm,dW]
 ·rw[h6]at e
  rcases mem _ m with z | z
  ·exact kQ.mpr (.inl (h.pt d' q o jP z e))
  ·cases z;exact kQ.mpr (.inr ⟨rfl,rfl⟩)
 ·obtain⟨w,hw,e⟩:=mem_map.mp m
  by_cases k:w.1=d
  ·rw[if_pos k]at e
   cases e
   rw[List.find?_append]at hf
   cases t2:w.2.find? (fun e=>e.1 == q) with
   | some dm =>
    rw[t2]at hf
    have gA:dm=z:=Option.some.inj (show some dm=some z from hf)
    rw[gA]at t2
    exact h.eW w.1 w.2 q z hw t2
   | none =>
    rw[t2]at hf
    have qT:List.find? (fun e:Nat × Int=>e.1 == q) [(p,y.av.getD p 0)]=some z:=hf
    rw[find?_cons]at qT
    by_cases e:p=q
    ·rw[show (((p,y.av.getD p 0):Nat × Int).1 == q)=true from beq_iff_eq.mpr e]at qT
     cases Option.some.inj qT
     subst e
     have ki:∀d',¬y.has d' p:=fun d' t=>by
      have bT:=bf d' t
      subst bT
      obtain⟨iE,cg,cn,cu⟩:=t
      have b1:=B3 h.a_ cn
      have et:=B3 h.a_ (l:=w.2) (d:=d') (by rw[←k];exact hw)
      rw[et]at b1
      rw[←b1]at cu
      have:=find?_eq_none.mp t2 _ cu
      exact this (beq_self_eq_true p)
     show c[p]?=some (y.av.getD p 0)
     rw[←(h.ek p ki).2,OC]
    ·rw[show (((p,y.av.getD p 0):Nat × Int).1 == q)=false from beq_eq_false_iff_ne.mpr e]at qT
     cases qT
  ·rw[if_neg k]at e
   subst e
   exact h.eW d' l q z hw hf
 ·rcases mem _ m with z | z
  ·exact h.bV d' z
  ·cases z
 ·rcases mem _ m with z | z
  ·exact h.h7 d' q o jP z
  ·cases z;exact h.lH d aC
 ·rw[ld]
  rcases kQ.mp ⟨l,o,cn,cu⟩ with ⟨iE,cg,dm,dW⟩ | ⟨_,z⟩
  ·exact h.d1 d' iE q cg dm dW
  ·rw[z];exact aF
theorem uV {d':Int}:(y.fC d).has d' q↔y.has d' q∧d'≠d:=by
 constructor
 ·rintro⟨l,o,cn,cu⟩
  obtain⟨a,e⟩:=mem_filter.mp cn
  exact⟨⟨l,o,a,cu⟩,bne_iff_ne.mp e⟩
 ·rintro⟨⟨l,o,cn,cu⟩,e⟩
  exact⟨l,o,mem_filter.mpr ⟨cn,bne_iff_ne.mpr e⟩,cu⟩
theorem rt {d':Int}:(y.fC d).isOpen d'=(y.isOpen d' && d' != d):=by
 show (y.aK.filter fun z=>z.1 != d).any (fun z=>z.1 == d')=_
 rw[Bool.eq_iff_iff,and_eq_true]
 constructor
 ·intro h
  obtain⟨z,hz,e⟩:=any_eq_true.mp h
  obtain⟨a,aM⟩:=mem_filter.mp hz
  have bT:z.1=d':=beq_iff_eq.mp e
  exact⟨any_eq_true.mpr ⟨z,a,e⟩,by rw[←bT];exact aM⟩
 ·rintro⟨h,e⟩
  obtain⟨z,hz,aM⟩:=any_eq_true.mp h
  have bT:z.1=d':=beq_iff_eq.mp aM
  exact any_eq_true.mpr ⟨z,mem_filter.mpr ⟨hz,by rw[bT];exact e⟩,aM⟩
theorem J.fC (h:J y c b) (aC:y.isOpen d=true) (aE:fJ.length=c.length) (ak:∀q,y.has d q→fJ[q]?=y.av[q]?) (az:∀q,¬y.has d q→fJ[q]?=c[q]?):J (y.fC d) fJ b:=by
 have du:(y.fC d).log=y.log++[.fin d]:=rfl
 have mem:∀ln,ln∈(y.fC d).log→ln∈y.log∨ln=.fin d:=fun ln m=>by
  rw[du]at m
  rcases mem_append.mp m with z | z
  ·exact .inl z
  ·exact .inr (mem_singleton.mp z)
 have qN:∀q,eu (y.fC d).log q none=eu y.log q none:=fun q=>by
  rw[du,uK];rfl
 have vP:∀q,¬y.has d q→fB (y.fC d).isOpen (y.fC d).log q=fB y.isOpen y.log q:=fun q aP=>by
  rw[du,uJ]
  have aH:fB (y.fC d).isOpen y.log q=fB y.isOpen y.log q:=x_ fun d' o n m=>by
   rw[rt]
   by_cases e:d'=d
   ·subst e
    have:y.isOpen d'≠true:=fun z=>aP (h.pt d' q o n m z)
    exact absurd aC this
   ·rw[bne_iff_ne.mpr e,Bool.and_true]
  rw[aH]
  show (fB y.isOpen y.log q).or none=_
  rw[Option.or_none]
 refine⟨by rw[aE];exact h.cl,h.cd,fun q v aX=>h.ln q v (by rw[←qN];exact aX),fun q bo=>h.ej q (by rw[←qN];exact bo),fun d' q t=>?_,fun q t=>?_,?_,fun fV e2 q t1 eE=>h.un fV e2 q (uV.mp t1).1 (uV.mp eE).1,fun d' q o jP m e=>?_,fun d' l q z m hf=>?_,fun d' m=>?_,fun d' e=>?_,fun d' q o jP m=>?_,(filter_sublist.map _).nodup h.a_,fun d' l q o cn cu=>h.d1 d' l q o (mem_filter.mp cn).1 cu⟩
 ·obtain⟨t1,eE⟩:=uV.mp t
  have aP:¬y.has d q:=fun z=>eE (h.un d' d q t1 z)
  rw[vP q aP,az q aP]
  exact h.bF d' q t1
 ·by_cases k:y.has d q
  ·refine⟨?_,(ak q k).symm⟩
   refine Bg fun d' o n m=>?_
   rw[rt]
   rcases mem _ m with z | z
   ·cases e:y.isOpen d' with
    | false=>rfl
    | true =>
     have:=h.un d' d q (h.pt d' q o n z e) k
     rw[this,bne_self_eq_false]
     rfl
   ·cases z
  ·have t':∀d',¬y.has d' q:=fun d' z=>by
    by_cases e:d'=d
    ·exact k (by rw[←e];exact z)
    ·exact t d' (uV.mpr ⟨z,e⟩)
   obtain⟨a1,a2⟩:=h.ek q t'
   exact⟨by rw[vP q k];exact a1,by rw[az q k];exact a2⟩
 ·rw[du]
  refine h.du.snoc (fun d' z=>?_) (fun d' _ z=>by rw[rt,z];rfl) ⟨by rw[rt,bne_self_eq_false,Bool.and_false],True.intro⟩
  rw[rt]at z
  by_cases e:d'=d
  ·exact .inr (by rw[e])
  ·rw[bne_iff_ne.mpr e,Bool.and_true]at z
   exact .inl z
 ·rw[rt,and_eq_true]at e
  rcases mem _ m with z | z
  ·exact uV.mpr ⟨h.pt d' q o jP z e.1,bne_iff_ne.mp e.2⟩
  ·cases z
 ·obtain⟨a,e⟩:=mem_filter.mp m
  have hz:=mem_of_find?_eq_some hf
  have bo:z.1=q:=by
   have:=find?_some hf
   exact beq_iff_eq.mp this
  have aP:¬y.has d q:=fun k=>bne_iff_ne.mp e (h.un d' d q ⟨l,z.2,a,by rw[←bo];exact hz⟩ k)
  rw[az q aP]
  exact h.eW d' l q z a hf
 ·rcases mem _ m with z | z
  ·exact h.bV d' z
  ·cases z;exact h.lH d aC
 ·rw[rt,and_eq_true]at e
  exact h.lH d' e.1
 ·rcases mem _ m with z | z
  ·exact h.h7 d' q o jP z
  ·cases z
theorem J.opened (h:J y c b) (b1:y'.aK=y.aK++[(b,[])]) (aH:y'.b_=y.b_) (aM:y'.av=y.av) (bT:y'.log=y.log):J y' c (b+1):=by
 have kQ:∀{d:Int} {q:Nat},y'.has d q↔y.has d q:=by
  intro d q
  constructor
  ·rintro⟨l,o,cn,cu⟩
   rw[b1]at cn
   rcases mem_append.mp cn with z | z
   ·exact⟨l,o,z,cu⟩
   ·cases mem_singleton.mp z
    cases cu
  ·rintro⟨l,o,cn,cu⟩
   exact⟨l,o,by rw[b1];exact mem_append_left _ cn,cu⟩
 have h6:∀d,y'.isOpen d=(y.isOpen d || b == d):=fun d=>by
  unfold aq.isOpen
  rw[b1,any_append,any_cons,List.any_nil,Bool.or_false]
 have nb:y.isOpen b=false:=by
  cases z:y.isOpen b with
  | false=>rfl
  | true=>have:=h.lH b z;omega
 have ne:∀{d:Int},d<b→y'.isOpen d=y.isOpen d:=fun {d} hd=>by
  rw[h6,beq_eq_false_iff_ne.mpr (by omega:b≠d),Bool.or_false]
 have vP:∀q,fB y'.isOpen y'.log q=fB y.isOpen y.log q:=fun q=>by
  rw[bT]
  exact x_ fun d o n m=>ne (h.h7 d q o n m)
 refine⟨by rw[aM];exact h.cl,by rw[aH,aM];exact h.cd,by rw[bT,aM];exact h.ln,by rw[bT,aH,aM];exact h.ej,fun d q t=>by rw[vP];exact h.bF d q (kQ.mp t),fun q t=>by rw[vP,aM];exact h.ek q fun d z=>t d (kQ.mpr z),?_,fun d d' q t t'=>h.un d d' q (kQ.mp t) (kQ.mp t'),fun d q o n m e=>?_,fun d l q z m hf=>?_,fun d m=>?_,fun d e=>?_,fun d q o n m=>?_,?_,fun d l q o cn cu=>?_⟩
 ·rw[bT]
  refine h.du.congr (fun d z=>?_) fun d m z=>?_
  ·rw[h6,Bool.or_eq_false_iff]at z;exact z.1
  ·rw[ne (h.bV d m)];exact z
 ·rw[bT]at m
  rw[ne (h.h7 d q o n m)]at e
  exact kQ.mpr (h.pt d q o n m e)
 ·rw[b1]at m
  rcases mem_append.mp m with k | k
  ·exact h.eW d l q z k hf
  ·cases mem_singleton.mp k
   cases hf
 ·rw[bT]at m;have:=h.bV d m;omega
 ·rw[h6,Bool.or_eq_true]at e
  rcases e with z | z
  ·have:=h.lH d z;omega
  ·have:=beq_iff_eq.mp z;omega
 ·rw[bT]at m;have:=h.h7 d q o n m;omega
 ·rw[b1,map_append,nodup_append]
  refine⟨h.a_,by simp,fun u bf v aX=>?_⟩
  have iy:v=b:=by simpa using aX
  subst iy
  intro e
  subst e
  obtain⟨z,hz,e⟩:=mem_map.mp bf
  have:y.isOpen u=true:=any_eq_true.mpr ⟨z,hz,by rw[e];exact beq_self_eq_true u⟩
  rw[nb]at this
  cases this
 ·rw[b1]at cn
  rw[aM]
  rcases mem_append.mp cn with k | k
  ·exact h.d1 d l q o k cu
  ·cases mem_singleton.mp k
   cases cu
theorem J.eb:∀{l:List (Nat × Int)}{y:aq},J y c b→y.isOpen d=true→(∀z∈l,y.has d z.1)→J (y.eb d l) c b
 | [],y,h,_,_=>h
 | z::l,y,h,aC,hz=>by
  show J ((y.putIn d z.1 z.2).eb d l) c b
  have hd:=hz z mem_cons_self
  have aF:z.1<y.av.length:=by
   obtain⟨l,o,cn,cu⟩:=hd
   exact h.d1 d l z.1 o cn cu
  exact J.eb (h.LN aF aC hd) aC fun w hw=>hz w (mem_cons_of_mem _ hw)
theorem yo (ds:List Int):∀(l:List (Nat × Int)),(∀z∈l,z.1<ds.length)→∀q,(jv l.reverse ds)[q]?=match l.find? (fun e=>e.1 == q) with | some z=>some z.2 | none=>ds[q]?
 | [],_,q=>rfl
 | z::l,h,q=>by
  have cC:=yo ds l (fun w hw=>h w (mem_cons_of_mem _ hw)) q
  have e:jv (z::l).reverse ds=(jv l.reverse ds).set z.1 z.2:=by
   unfold jv
   rw[List.reverse_cons,foldl_append]
   rfl
  have len:∀(l:List (Nat × Int)) (ds:List Int),(jv l ds).length=ds.length:=by
   intro l
   induction l with
   | nil=>intro ds;rfl
   | cons w l cC=>intro ds;show (jv l (ds.set w.1 w.2)).length=_;rw[cC,length_set]
  rw[e,find?_cons]
  by_cases k:z.1=q
  ·rw[beq_iff_eq.mpr k]
   show _=some z.2
   rw[←k,getElem?_set_self (by rw[len];exact h z mem_cons_self)]
  ·rw[beq_eq_false_iff_ne.mpr k,getElem?_set_ne k]
   exact cC
theorem By:∀(l:List (Nat × Int)) (ds:List Int),(jv l ds).length=ds.length
 | [],_=>rfl
 | w::l,ds=>by show (jv l (ds.set w.1 w.2)).length=_;rw[By,length_set]
theorem Ii (ds:List Int) (l:List (Nat × Int)) (h:∀z∈l,z.1<ds.length) (q:Nat):(jv l ds)[q]?=match l.reverse.find? (fun e=>e.1 == q) with | some z=>some z.2 | none=>ds[q]?:=by
 have:=yo ds l.reverse (fun z hz=>h z (mem_reverse.mp hz)) q
 rw[List.reverse_reverse]at this
 exact this
theorem J.drop (h:J y c b) (aC:y.isOpen d=true):J ((y.dM d).fC d) c b:=by
 have hm:=ks aC
 have dt:∀z∈(y.c5 d).reverse,y.has d z.1:=fun z hz=>⟨_,z.2,hm,mem_reverse.mp hz⟩
 have ak:J (y.dM d) c b:=by rw[gS];exact h.eb aC dt
 have b1:(y.dM d).aK=y.aK:=by rw[gS,mq]
 have wA:(y.dM d).isOpen d=true:=by rw[sX b1];exact aC
 refine ak.fC wA rfl (fun q t=>?_) fun q _=>rfl
 have t':y.has d q:=by
  obtain⟨l,o,cn,cu⟩:=t
  exact⟨l,o,by rw[←b1];exact cn,cu⟩
 obtain⟨l,o,cn,cu⟩:=t'
 have du:=B3 h.a_ cn
 rw[gS,Bx,yo _ _ (fun z hz=>h.d1 d _ z.1 z.2 hm hz),du]
 cases hf:l.find? (fun e=>e.1 == q) with
 | none=>exact absurd (beq_self_eq_true q) (find?_eq_none.mp hf _ cu)
 | some z=>exact h.eW d l q z cn hf
def rF:bp→Prop
 | .line (.fin _)=>False
 | _=>True
theorem Ie {q:Nat}:(y.dK q=none→∀d,¬y.has d q)∧(∀d,y.dK q=some d→y.has d q):=by
 unfold aq.dK
 constructor
 ·intro h d ⟨l,o,cn,cu⟩
  have ak:=Option.map_eq_none_iff.mp h
  have:=find?_eq_none.mp ak _ cn
  exact this (any_eq_true.mpr ⟨_,cu,beq_self_eq_true q⟩)
 ·intro d h
  obtain⟨z,hz,e⟩:=Option.map_eq_some_iff.mp h
  have Ah:(z.2.any fun y=>y.1 == q)=true:=find?_some (p:=fun z:Int × List (Nat × Int)=>z.2.any fun y=>y.1 == q) hz
  obtain⟨w,hw,aM⟩:=any_eq_true.mp Ah
  have bT:w.1=q:=beq_iff_eq.mp aM
  exact⟨z.2,w.2,by rw[←e];exact mem_of_find?_eq_some hz,by rw[←bT];exact hw⟩
theorem J.free (h:J y c b) (aZ:y.dK p=none∨y.dK p=some d):∀d',y.has d' p→d'=d:=fun d' t=>by
 rcases aZ with z | z
 ·exact absurd t (Ie.1 z d')
 ·exact h.un d' d p t (Ie.2 d z)
theorem J.YZ {s:bp}(h:J y c b) (m:lZ y s y') (aY:rF s):J y' c b:=by
 cases m with
 | carry p aF aP aD=>exact h.d9 aF
 | cut ai aD=>exact h.nA
 | put d p n aF aC aZ aD h0=>exact h.put aF aC (h.free aZ)
 | dM d p n aF aC hm aD =>
  obtain⟨o,hm⟩:=hm
  exact h.LN aF aC ⟨_,o,ks aC,hm⟩
 | fin d aC aD=>exact aY.elim
theorem J.path {l:List bp}(h:J y c b) (m:Path y l y') (aY:∀s∈l,rF s):J y' c b:=by
 induction m with
 | nil x=>exact h
 | cons m t cC=>exact cC (h.YZ m (aY _ mem_cons_self)) fun s z=>aY s (mem_cons_of_mem _ z)
end
def f5 (y:aq):Prop:=∀s∈y.c7,rF s
section
variable {x y k:aq}{s:bp}{d n m:Int}{p:Nat}{e:b7}
theorem f5.add (h:f5 y) (aY:rF s) (e:x.c7=y.c7++[s]):f5 x:=fun t aZ=>by
 rw[e]at aZ
 rcases mem_append.mp aZ with z | z
 ·exact h t z
 ·rw[mem_singleton.mp z];exact aY
theorem f5.dZ (h:f5 y):f5 (y.dZ p):=by
 unfold aq.dZ
 split
 ·exact h
 ·exact h.add (s:=.d9 p (y.av.getD p 0)) True.intro rfl
theorem f5.dS (h:f5 y):f5 y.dS:=by
 unfold aq.dS
 split
 ·exact h.add (s:=.cut (ep y.b_ y.av y.isOpen y.log)) True.intro rfl
 ·exact h
theorem f5.eU (h:f5 y):∀{i:Nat},f5 (y.eU i)
 | 0=>h
 | i+1=>by rw[kq];exact (f5.eU h (i:=i)).dZ
theorem f5.full (h:f5 y) (m:Int):f5 (y.full m).1:=by
 unfold aq.full
 split
 ·exact h
 ·show f5 y.gd
  rw[kr]
  exact h.eU.dS
theorem f5.putIn (h:f5 y):f5 (y.putIn d p n):=h.add (s:=.line (.put d p (y.av.getD p 0) n)) True.intro rfl
theorem f5.eb:∀{l:List (Nat × Int)}{y:aq},f5 y→f5 (y.eb d l)
 | [],_,h=>h
 | z::l,y,h=>by
  show f5 ((y.putIn d z.1 z.2).eb d l)
  exact f5.eb h.putIn
theorem SI (x:aq) (e:b7):∀j,j<(x.row e).length→∀s∈(x.row e).take j,rF s:=by
 have h0:f5 x.bare:=fun s aY=>by cases aY
 have all:∀{l:List bp},(∀s∈l,rF s)→∀j,j<l.length→∀s∈l.take j,rF s:=fun h j _ s aY=>h s (mem_of_mem_take aY)
 unfold aq.row
 cases aD:x.bare.refusal e with
 | some w =>
  have aU:x.bare.a4 e=(x.bare,.word w):=by unfold aq.a4;rw[aD]
  rw[aU]
  exact all h0
 | none =>
  have aU:x.bare.a4 e=x.bare.gg e:=by unfold aq.a4;rw[aD]
  rw[aU]
  generalize x.bare=y at h0
  cases e with
  | begin =>
   have d4:y.gg .begin=if (y.began.full 1).2=true then ((y.began.full 1).1,.word "no room") else ((y.began.full 1).1.opened,.num y.begun):=rfl
   have ak:f5 (y.began.full 1).1:=f5.full (y:=y.began) h0 1
   rw[d4]
   split
   ·exact all ak
   ·exact all ak
  | put d p n =>
   have d4:y.gg (.put d p n)=if (y.full 2).2=true then ((y.full 2).1,.word "no room") else ((((y.full 2).1.c1 d p.toNat).putIn d p.toNat n),.word "done"):=rfl
   have ak:f5 (y.full 2).1:=f5.full h0 2
   rw[d4]
   split
   ·exact all ak
   ·exact all (f5.putIn (y:=(y.full 2).1.c1 d p.toNat) ak)
  | fin d =>
   intro j di s aY
   have ES:j<(y.c7++[bp.line (.fin d)]).length:=di
   have wm:s∈(y.c7++[bp.line (.fin d)]).take j:=aY
   rw[length_append,length_singleton]at ES
   rw[List.take_append_of_le_length (by omega)]at wm
   exact h0 s (mem_of_mem_take wm)
  | drop d =>
   intro j di s aY
   have ak:f5 (y.dM d):=by rw[gS];exact h0.eb
   have ES:j<((y.dM d).c7++[bp.line (.fin d)]).length:=di
   have wm:s∈((y.dM d).c7++[bp.line (.fin d)]).take j:=aY
   rw[length_append,length_singleton]at ES
   rw[List.take_append_of_le_length (by omega)]at wm
   exact ak s (mem_of_mem_take wm)
  | look p=>exact all h0
  | carry p=>exact all h0.dZ
  | cut=>exact all h0.dS
def hy (k:aq) (e:b7) (a:cW):aq:=match e,a with
 | .begin,.num m=>{ k with aK:=k.aK++[(m,[])] }
 | .put d p n,.word w=>if w="done" then { k with aK:=k.aK.map fun z=>if z.1=d then (z.1,z.2++[(p.toNat,n)]) else z } else k
 | .fin d,.word w=>if w="done" then { k with av:=jv (k.c5 d) k.av,aK:=k.aK.filter fun z=>z.1 != d } else k
 | .drop d,.word w=>if w="done" then { k with aK:=k.aK.filter fun z=>z.1 != d } else k
 | _,_=>k
theorem HY (k:aq) (d p n:Int):hy k (.put d p n) (.word "no room")=k:=by
 have e:hy k (.put d p n) (.word "no room")=if ("no room":Str)="done" then { k with aK:=k.aK.map fun z=>if z.1=d then (z.1,z.2++[(p.toNat,n)]) else z } else k:=rfl
 rw[e,if_neg (by decide +kernel)]
structure hT (x k:aq):Prop where
 bM:k.aK.map (·.1)=x.aK.map (·.1)
 bD:∀d l fH,(d,l)∈x.aK→(d,fH)∈k.aK→fH.map (·.1)=l.map (·.1)
 ur:∀d l q e,(d,l)∈k.aK→l.reverse.find? (fun e=>e.1 == q)=some e→x.av[q]?=some e.2
theorem hT.of (h:hT x k) (aH:y.aK=x.aK) (aM:y.av=x.av):hT y k :=
 ⟨by rw[aH];exact h.bM,by rw[aH];exact h.bD,by rw[aM];exact h.ur⟩
theorem hT.other (h:hT x k) {fH:List (Nat × Int)}(m:(d,fH)∈k.aK):∃l,(d,l)∈x.aK∧fH.map (·.1)=l.map (·.1):=by
 have hd:d∈x.aK.map (·.1):=by rw[←h.bM];exact mem_map.mpr ⟨_,m,rfl⟩
 obtain⟨z,hz,e⟩:=mem_map.mp hd
 have Aj:(d,z.2)∈x.aK:=by rw[←e];exact hz
 exact⟨z.2,Aj,h.bD d z.2 fH Aj m⟩
theorem hT.has (h:hT x k) {fH:List (Nat × Int)}{q:Nat}{o:Int}(m:(d,fH)∈k.aK) (aba:(q,o)∈fH):x.has d q:=by
 obtain⟨l,aE,e⟩:=h.other m
 have bo:q∈l.map (·.1):=by rw[←e];exact mem_map.mpr ⟨_,aba,rfl⟩
 obtain⟨z,hz,aM⟩:=mem_map.mp bo
 exact⟨l,z.2,aE,by rw[←aM];exact hz⟩
theorem hT.isOpen (h:hT x k) (d:Int):k.isOpen d=x.isOpen d:=by
 have e:∀(l:List (Int × List (Nat × Int))),(l.any fun z=>z.1 == d)=(l.map (·.1)).any (· == d):=fun l=>by rw[any_map];rfl
 unfold aq.isOpen
 rw[e,e,h.bM]
theorem yh (d:Int):∀(l:List (Int × List (Nat × Int))),(l.filter fun z=>z.1 != d).map (·.1)=(l.map (·.1)).filter (· != d)
 | []=>rfl
 | z::l=>by
  rw[filter_cons,map_cons,filter_cons]
  by_cases e:(z.1 != d)=true
  ·rw[if_pos e,if_pos e,map_cons,yh d l]
  ·rw[if_neg e,if_neg e,yh d l]
theorem BF {l:List (Nat × Int)}{q:Nat}{e:Nat × Int}(h:l.reverse.find? (fun e=>e.1 == q)=some e):(q,e.2)∈l:=by
 have ak:=mem_reverse.mp (mem_of_find?_eq_some h)
 have az:e.1=q:=beq_iff_eq.mp (find?_some (p:=fun e:Nat × Int=>e.1 == q) h)
 rw[←az];exact ak
theorem hT.drop (h:hT x k) {y:aq}{ds:List Int}(aH:y.aK=x.aK.filter fun z=>z.1 != d) (aM:∀q,(∃d',d'≠d∧x.has d' q)→y.av[q]?=x.av[q]?):hT y { k with av:=ds,aK:=k.aK.filter fun z=>z.1 != d }:=by
 refine⟨?_,fun d' l fH cn cu=>?_,fun d' l q e m hf=>?_⟩
 ·show (k.aK.filter fun z=>z.1 != d).map (·.1)=_
  rw[aH,yh,yh,h.bM]
 ·rw[aH]at cn
  exact h.bD d' l fH (mem_filter.mp cn).1 (mem_filter.mp cu).1
 ·obtain⟨cn,cu⟩:=mem_filter.mp m
  have hd:d'≠d:=bne_iff_ne.mp cu
  rw[aM q ⟨d',hd,h.has cn (BF hf)⟩]
  exact h.ur d' l q e cn hf
theorem Sv (d:Int) (y:Nat × Int) (l:List (Int × List (Nat × Int))):(l.map fun z=>if z.1=d then (z.1,z.2++[y]) else z).map (·.1)=l.map (·.1):=by
 rw[map_map]
 refine map_congr_left fun z _=>?_
 show (if z.1=d then (z.1,z.2++[y]) else z).1=z.1
 split <;> rfl
theorem BX {d d':Int}{y:Nat × Int}{l:List (Int × List (Nat × Int))}{v:List (Nat × Int)}(m:(d',v)∈l.map fun z=>if z.1=d then (z.1,z.2++[y]) else z):∃l0,(d',l0)∈l∧v=if d'=d then l0++[y] else l0:=by
 obtain⟨z,hz,e⟩:=mem_map.mp m
 by_cases c:z.1=d
 ·rw[if_pos c]at e
  cases e
  exact⟨z.2,hz,by rw[if_pos c]⟩
 ·rw[if_neg c]at e
  subst e
  exact⟨v,hz,by rw[if_neg c]⟩
theorem JA (j:J x k.av x.begun) (h:hT x k) (e:b7):J (x.a4 e).1 (hy k e (x.a4 e).2).av (x.a4 e).1.begun∧hT (x.a4 e).1 (hy k e (x.a4 e).2):=by
 cases aD:x.refusal e with
 | some w =>
  have aU:x.a4 e=(x,.word w):=by unfold aq.a4;rw[aD]
  have hw:w≠"done":=fun z=>qi aD (by rw[z])
  have gI:hy k e (.word w)=k:=by
   cases e with
   | begin=>rfl
   | put d p n=>exact if_neg hw
   | fin d=>exact if_neg hw
   | drop d=>exact if_neg hw
   | look p=>rfl
   | carry p=>rfl
   | cut=>rfl
  rw[aU]
  show J x (hy k e (.word w)).av x.begun∧hT x (hy k e (.word w))
  rw[gI]
  exact⟨j,h⟩
 | none =>
  have aU:x.a4 e=x.gg e:=by unfold aq.a4;rw[aD]
  rw[aU]
  cases e with
  | begin =>
   have d4:x.gg .begin=if (x.began.full 1).2=true then ((x.began.full 1).1,.word "no room") else ((x.began.full 1).1.opened,.num x.begun):=rfl
   have h5:J (x.began.full 1).1 k.av x.begun:=(j.of (y':=x.began) rfl rfl rfl rfl).full 1
   have aH:(x.began.full 1).1.aK=x.aK:=i_
   have aM:(x.began.full 1).1.begun=x.begun+1:=mu
   have bT:(x.began.full 1).1.av=x.av:=oh
   rw[d4]
   split
   ·refine⟨?_,h.of aH bT⟩
    show J (x.began.full 1).1 k.av (x.began.full 1).1.begun
    rw[aM]
    exact⟨h5.cl,h5.cd,h5.ln,h5.ej,h5.bF,h5.ek,h5.du,h5.un,h5.pt,h5.eW,fun d m=>by have:=h5.bV d m;omega,fun d m=>by have:=h5.lH d m;omega,fun d q o n m=>by have:=h5.h7 d q o n m;omega,h5.a_,h5.d1⟩
   ·have b1:(x.began.full 1).1.opened.aK=(x.began.full 1).1.aK++[((x.begun:Int),[])]:=by
     show (x.began.full 1).1.aK++[((((x.began.full 1).1.begun:Nat):Int) - 1,[])]=_
     have et:((((x.began.full 1).1.begun:Nat):Int) - 1)=(x.begun:Int):=by rw[aM];omega
     rw[et]
    refine⟨?_,?_,fun d l fH cn cu=>?_,fun d l q e m hf=>?_⟩
    ·show J (x.began.full 1).1.opened k.av (((x.began.full 1).1.begun:Nat):Int)
     have et:(((x.began.full 1).1.begun:Nat):Int)=(x.begun:Int)+1:=by rw[aM];omega
     rw[et]
     exact h5.opened b1 rfl rfl rfl
    ·show List.map (fun z:Int × List (Nat × Int)=>z.1) (k.aK++[((x.begun:Int),[])])=_
     rw[b1,aH,map_append,map_append,h.bM]
    ·rw[b1,aH]at cn
     have cu:(d,fH)∈k.aK++[((x.begun:Int),[])]:=cu
     have nb:∀v,(d,v)∈x.aK→d≠x.begun:=fun v m z=>by
      have:x.isOpen d=true:=any_eq_true.mpr ⟨_,m,beq_self_eq_true d⟩
      have:=j.lH d this
      omega
     rcases mem_append.mp cn with z | z <;> rcases mem_append.mp cu with w | w
     ·exact h.bD d l fH z w
     ·cases mem_singleton.mp w
      exact absurd rfl (nb l z)
     ·cases mem_singleton.mp z
      obtain⟨v,aX,_⟩:=h.other w
      exact absurd rfl (nb v aX)
     ·cases mem_singleton.mp z
      cases mem_singleton.mp w
      rfl
    ·have m:(d,l)∈k.aK++[((x.begun:Int),[])]:=m
     show (x.began.full 1).1.av[q]?=_
     rw[bT]
     rcases mem_append.mp m with w | w
     ·exact h.ur d l q e w hf
     ·cases mem_singleton.mp w
      cases hf
  | put d p n =>
   have d4:x.gg (.put d p n)=if (x.full 2).2=true then ((x.full 2).1,.word "no room") else ((((x.full 2).1.c1 d p.toNat).putIn d p.toNat n),.word "done"):=rfl
   have h5:J (x.full 2).1 k.av x.begun:=j.full 2
   have aH:(x.full 2).1.aK=x.aK:=i_
   have aM:(x.full 2).1.begun=x.begun:=mu
   have bT:(x.full 2).1.av=x.av:=oh
   obtain⟨o1,eV⟩:=nc (.inl ⟨d,n,rfl⟩) aD
   have aC:x.isOpen d=true:=hW (.inl ⟨p,n,rfl⟩) aD
   have aZ:x.dK p.toNat=none∨x.dK p.toNat=some d:=by
    have e:x.refusal (.put d p n)=(if x.isOpen d=false then some "no dealing" else if p<0∨(x.av.length:Int)≤p then some "no page" else if x.dK p.toNat=none∨x.dK p.toNat=some d then none else some "taken":Option Str):=rfl
    rw[aC,if_neg (fun z=>nomatch z),if_neg (by omega)]at e
    rw[aD]at e
    by_cases c:x.dK p.toNat=none∨x.dK p.toNat=some d
    ·exact c
    ·rw[if_neg c]at e;cases e
   have aF:p.toNat<x.av.length:=by omega
   rw[d4]
   split
   ·refine⟨?_,?_⟩
    ·show J (x.full 2).1 (hy k (.put d p n) (.word "no room")).av (x.full 2).1.begun
     rw[HY,aM]
     exact h5
    ·show hT (x.full 2).1 (hy k (.put d p n) (.word "no room"))
     rw[HY]
     exact h.of aH bT
   ·have gI:hy k (.put d p n) (.word "done")={ k with aK:=k.aK.map fun z=>if z.1=d then (z.1,z.2++[(p.toNat,n)]) else z }:=if_pos (e:=k) (rfl:("done":Str)="done")
    show J (((x.full 2).1.c1 d p.toNat).putIn d p.toNat n) (hy k (.put d p n) (.word "done")).av (x.full 2).1.begun∧hT (((x.full 2).1.c1 d p.toNat).putIn d p.toNat n) (hy k (.put d p n) (.word "done"))
    rw[gI,aM]
    have wA:(x.full 2).1.isOpen d=true:=by rw[sX aH];exact aC
    have free:∀d',(x.full 2).1.has d' p.toNat→d'=d:=fun d' t=>by
     obtain⟨l,o,cn,cu⟩:=t
     exact j.free aZ d' ⟨l,o,by rw[←aH];exact cn,cu⟩
    refine⟨h5.put (by rw[bT];exact aF) wA free,?_,fun d' l fH cn cu=>?_,fun d' l q e m hf=>?_⟩
    ·show List.map (fun z:Int × List (Nat × Int)=>z.1) (k.aK.map _)=((x.full 2).1.c1 d p.toNat).aK.map (·.1)
     rw[Sv,Ic,aH,h.bM]
    ·have cn:(d',l)∈(x.full 2).1.aK.map fun z=>if z.1=d then (z.1,z.2++[(p.toNat,(x.full 2).1.av.getD p.toNat 0)]) else z:=cn
     rw[aH]at cn
     obtain⟨v,aX,ev⟩:=BX cn
     obtain⟨l0,iy,t9⟩:=BX cu
     rw[ev,t9]
     have:=h.bD d' v l0 aX iy
     by_cases c:d'=d
     ·rw[if_pos c,if_pos c,map_append,map_append,this];rfl
     ·rw[if_neg c,if_neg c];exact this
    ·obtain⟨l0,iy,t9⟩:=BX m
     show ((x.full 2).1.av.set p.toNat n)[q]?=some e.2
     rw[bT]
     by_cases c:d'=d
     ·rw[if_pos c]at t9
      rw[t9,List.reverse_append]at hf
      have hf:List.find? (fun e:Nat × Int=>e.1 == q) ((p.toNat,n)::l0.reverse)=some e:=hf
      rw[find?_cons]at hf
      by_cases dB:p.toNat=q
      ·rw[show (((p.toNat,n):Nat × Int).1 == q)=true from beq_iff_eq.mpr dB]at hf
       cases Option.some.inj hf
       rw[←dB,getElem?_set_self aF]
      ·rw[show (((p.toNat,n):Nat × Int).1 == q)=false from beq_eq_false_iff_ne.mpr dB]at hf
       rw[getElem?_set_ne dB]
       exact h.ur d' l0 q e iy hf
     ·rw[if_neg c]at t9
      rw[t9]at hf
      have dt:=h.has iy (BF hf)
      have dB:p.toNat≠q:=fun z=>c (j.free aZ d' (by rw[z];exact dt))
      rw[getElem?_set_ne dB]
      exact h.ur d' l0 q e iy hf
  | fin d =>
   have aC:x.isOpen d=true:=hW (.inr (.inl rfl)) aD
   have gI:hy k (.fin d) (.word "done")={ k with av:=jv (k.c5 d) k.av,aK:=k.aK.filter fun z=>z.1 != d }:=if_pos (e:=k) (rfl:("done":Str)="done")
   show J (x.fC d) (hy k (.fin d) (.word "done")).av x.begun∧hT (x.fC d) (hy k (.fin d) (.word "done"))
   rw[gI]
   have aS:(d,k.c5 d)∈k.aK:=ks (by rw[h.isOpen];exact aC)
   have j6:∀z∈k.c5 d,z.1<k.av.length:=fun z hz=>by
    obtain⟨l,o,cn,cu⟩:=h.has (q:=z.1) (o:=z.2) aS hz
    rw[j.cl];exact j.d1 d l z.1 o cn cu
   refine⟨j.fC aC (By _ _) (fun q t=>?_) fun q t=>?_,h.drop rfl fun q _=>rfl⟩
   ·rw[Ii _ _ j6]
    cases hf:(k.c5 d).reverse.find? (fun e=>e.1 == q) with
    | some z=>exact (h.ur d _ q z aS hf).symm
    | none =>
     obtain⟨l,o,cn,cu⟩:=t
     have e:=h.bD d l _ cn aS
     have bo:q∈(k.c5 d).map (·.1):=by rw[e];exact mem_map.mpr ⟨_,cu,rfl⟩
     obtain⟨z,hz,aM⟩:=mem_map.mp bo
     exact absurd (beq_iff_eq.mpr aM) (find?_eq_none.mp hf z (mem_reverse.mpr hz))
   ·rw[Ii _ _ j6]
    cases hf:(k.c5 d).reverse.find? (fun e=>e.1 == q) with
    | some z=>exact absurd (h.has aS (BF hf)) t
    | none=>rfl
  | drop d =>
   have aC:x.isOpen d=true:=hW (.inr (.inr rfl)) aD
   have gI:hy k (.drop d) (.word "done")={ k with aK:=k.aK.filter fun z=>z.1 != d }:=if_pos (e:=k) (rfl:("done":Str)="done")
   show J ((x.dM d).fC d) (hy k (.drop d) (.word "done")).av (x.dM d).begun∧hT ((x.dM d).fC d) (hy k (.drop d) (.word "done"))
   have ea:(x.dM d).begun=x.begun:=by rw[gS,uM]
   rw[gI,ea]
   refine⟨j.drop aC,h.drop (ds:=k.av) ?_ fun q ⟨d',hd,t⟩=>?_⟩
   ·show (x.dM d).aK.filter _=_
    rw[gS,mq]
   ·show (x.dM d).av[q]?=_
    have hm:=ks aC
    rw[gS,Bx,yo _ _ (fun z hz=>j.d1 d _ z.1 z.2 hm hz)]
    cases hf:(x.c5 d).find? (fun e=>e.1 == q) with
    | none=>rfl
    | some z =>
     have hz:=mem_of_find?_eq_some hf
     have aM:z.1=q:=beq_iff_eq.mp (find?_some (p:=fun e:Nat × Int=>e.1 == q) hf)
     exact absurd (j.un d' d q t ⟨_,z.2,hm,by rw[←aM];exact hz⟩) hd
  | look p=>exact⟨j,h⟩
  | carry p =>
   obtain⟨o1,eV⟩:=nc (.inr (.inr rfl)) aD
   refine⟨?_,h.of sY yc⟩
   show J (x.dZ p.toNat) k.av (x.dZ p.toNat).begun
   rw[uL]
   exact j.dZ (by omega)
  | cut =>
   refine⟨?_,h.of s9 yp⟩
   show J x.dS k.av x.dS.begun
   rw[uQ]
   exact j.dS
def keptBy (stop:Nat):List b7→aq→aq→Nat→List Int
 | [],_,k,_=>k.av
 | e::r,x,k,made=>if stop<made+(x.row e).length then k.av else keptBy stop r (x.a4 e).1 (hy k e (x.a4 e).2) (made+(x.row e).length)
theorem J2 (stop:Nat):∀(aB:List b7) (x k:aq) (made:Nat),J x k.av x.begun→hT x k→x.sound→x.fit→made≤stop →
  sJ ((((x.rows aB).flatten).take (stop - made)).foldl bp.jG x.b_) ((((x.rows aB).flatten).take (stop - made)).foldl bp.gV x.log) (keptBy stop aB x k made)
 | [],x,k,made,j,h,S,f,hm=>by
  show sJ (List.foldl bp.jG x.b_ (List.take (stop - made) [])) (List.foldl bp.gV x.log (List.take (stop - made) [])) k.av
  rw[take_nil]
  exact j.want
 | e::r,x,k,made,j,h,S,f,hm=>by
  obtain⟨pW,z,Gl,q5,Gk⟩:=uZ S f e
  have oD:pW.av=x.av∧pW.b_=x.b_∧pW.log=x.log∧pW.aK=x.aK:=by rcases Gl with rfl | rfl <;> exact⟨rfl,rfl,rfl,rfl⟩
  have w5:(x.a4 e).1.b_=z.b_∧(x.a4 e).1.log=z.log:=by
   rcases Gk with h | h
   ·rw[h];exact⟨rfl,rfl⟩
   ·rw[h];exact⟨rfl,rfl⟩
  have lD:(x.rows (e::r)).flatten=x.row e++((x.a4 e).1.rows r).flatten:=rfl
  have gI:keptBy stop (e::r) x k made=if stop<made+(x.row e).length then k.av else keptBy stop r (x.a4 e).1 (hy k e (x.a4 e).2) (made+(x.row e).length):=rfl
  rw[lD,gI]
  by_cases c:stop<made+(x.row e).length
  ·rw[if_pos c,List.take_append_of_le_length (by omega)]
   have YD:Path pW ((x.row e).take (stop - made)++(x.row e).drop (stop - made)) z:=by rw[List.take_append_drop];exact q5
   obtain⟨y,eV,_⟩:=YD.split
   have abl:J pW k.av x.begun:=j.of oD.2.1 oD.1 oD.2.2.1 oD.2.2.2
   have abk:=abl.path eV (SI x e (stop - made) (by omega))
   have oZ:=eV.wR
   rw[oD.2.1,oD.2.2.1]at oZ
   rw[←oZ.1,←oZ.2]
   exact abk.want
  ·rw[if_neg c]
   have aH:(x.row e++((x.a4 e).1.rows r).flatten).take (stop - made)=x.row e++(((x.a4 e).1.rows r).flatten).take (stop - (made+(x.row e).length)):=by
    rw[List.take_append,take_of_length_le (by omega)]
    have:stop - made - (x.row e).length=stop - (made+(x.row e).length):=by omega
    rw[this]
   rw[aH,foldl_append,foldl_append]
   have oZ:=q5.wR
   rw[oD.2.1,oD.2.2.1,←w5.1,←w5.2]at oZ
   rw[←oZ.1,←oZ.2]
   obtain⟨hI,h'⟩:=JA j h e
   exact J2 stop r _ _ _ hI h' (S.a4 e) (f.a4 S e) (by omega)
theorem K9 (ps:List Int) (room:Int):J (bZ ps room) ps 0 :=
 ⟨rfl,rfl,fun q v h=>(by cases h),fun q _=>rfl,fun d q ⟨l,o,m,_⟩=>(by cases m),fun q _=>⟨rfl,rfl⟩,True.intro,fun d d' q ⟨l,o,m,_⟩=>(by cases m),fun d q o n m=>(by cases m),fun d l q z m=>(by cases m),fun d m=>(by cases m),fun d m=>(by cases m),fun d q o n m=>(by cases m),nodup_nil,fun d l q o m=>(by cases m)⟩
end
section
variable {x:aq}{d m:Int}{p:Nat}
theorem RB (S:x.sound) (e:b7):((x.a4 e).1.log.length:Int)+(x.a4 e).1.bound≤x.log.length+x.bound+2:=by
 have xG:∀{y:aq} {m:Int},((y.full m).1.log.length:Int)+(y.full m).1.bound≤y.log.length+y.bound:=fun {y} {m}=>by
  have ak:=HH (x:=y) (m:=m)
  have az:(y.full m).1.bound=y.bound:=qh i_
  rw[az]
  omega
 unfold aq.a4
 cases dp:x.refusal e with
 | some w=>show (x.log.length:Int)+x.bound≤_;omega
 | none =>
  cases e with
  | begin =>
   have ak:((x.began.full 1).1.log.length:Int)+(x.began.full 1).1.bound≤x.log.length+x.bound:=xG (y:=x.began)
   show ((if (x.began.full 1).2=true then ((x.began.full 1).1,cW.word "no room") else ((x.began.full 1).1.opened,.num x.begun)).1.log.length:Int)+(if (x.began.full 1).2=true then ((x.began.full 1).1,cW.word "no room") else ((x.began.full 1).1.opened,.num x.begun)).1.bound≤_
   split
   ·show ((x.began.full 1).1.log.length:Int)+(x.began.full 1).1.bound≤_;omega
   ·show ((x.began.full 1).1.log.length:Int)+(x.began.full 1).1.opened.bound≤_
    rw[Hs];omega
  | put d p n =>
   have ak:=xG (y:=x) (m:=2)
   show ((if (x.full 2).2=true then ((x.full 2).1,cW.word "no room") else ((((x.full 2).1.c1 d p.toNat).putIn d p.toNat n),.word "done")).1.log.length:Int)+(if (x.full 2).2=true then ((x.full 2).1,cW.word "no room") else ((((x.full 2).1.c1 d p.toNat).putIn d p.toNat n),.word "done")).1.bound≤_
   split
   ·show ((x.full 2).1.log.length:Int)+(x.full 2).1.bound≤_;omega
   ·have aC:=hW (.inl ⟨_,_,rfl⟩) dp
    have aa:=BI (x:=(x.full 2).1) (d:=d) (p:=p.toNat) (S.full).a_ (by rw[sX i_];exact aC)
    show (((x.full 2).1.log++[bN.put d p.toNat (((x.full 2).1.c1 d p.toNat).av.getD p.toNat 0) n]).length:Int)+((x.full 2).1.c1 d p.toNat).bound≤_
    rw[aa,length_append,length_singleton]
    omega
  | fin d =>
   have aC:=hW (.inr (.inl rfl)) dp
   have aa:=tb S.a_ aC
   show ((x.log++[bN.fin d]).length:Int)+({ x with aK:=x.aK.filter fun z=>z.1 != d }:aq).bound≤_
   rw[aa,length_append,length_singleton]
   omega
  | drop d =>
   have aC:=hW (.inr (.inr rfl)) dp
   have aa:=tb S.a_ aC
   have aH:((x.dM d).fC d).bound=({ x with aK:=x.aK.filter fun z=>z.1 != d }:aq).bound:=qh (by
    show ((x.dM d).aK.filter fun z=>z.1 != d)=_
    rw[gS,mq])
   have aM:(x.dM d).log.length=x.log.length+(x.c5 d).length:=by rw[gS,yk,length_reverse]
   show (((x.dM d).log++[bN.fin d]).length:Int)+((x.dM d).fC d).bound≤_
   rw[aH,aa,length_append,length_singleton,aM]
   omega
  | look p=>show (x.log.length:Int)+x.bound≤_;omega
  | carry p =>
   show ((x.dZ p.toNat).log.length:Int)+(x.dZ p.toNat).bound≤_
   rw[Bv,qh sY]
   omega
  | cut =>
   have ak:=Bl (x:=x)
   show (x.dS.log.length:Int)+x.dS.bound≤_
   rw[qh s9]
   omega
theorem US (S:x.sound) (e:b7):((x.row e).length:Int)≤x.av.length+2+x.bound:=by
 have bn:=uN x
 have key:∀{y:aq} {k:Nat},x.bare.grow y k→(y.c7.length:Int)≤k:=fun {y k} g=>by
  have ak:=g.1
  have az:x.bare.c7.length=0:=rfl
  omega
 unfold aq.row aq.a4
 cases dp:x.bare.refusal e with
 | some w=>show ((0:Nat):Int)≤_;omega
 | none =>
  cases e with
  | begin =>
   have ak:=key (yv (x:=x.bare.began) (m:=1))
   have Z6:((x.bare.began.full 1).1.c7.length:Int)≤((x.av.length+1:Nat):Int):=ak
   show ((if (x.bare.began.full 1).2=true then ((x.bare.began.full 1).1,cW.word "no room") else ((x.bare.began.full 1).1.opened,.num x.bare.begun)).1.c7.length:Int)≤_
   split
   ·show ((x.bare.began.full 1).1.c7.length:Int)≤_;omega
   ·show ((x.bare.began.full 1).1.c7.length:Int)≤_;omega
  | put d p n =>
   have ak:=key (yv (x:=x.bare) (m:=2))
   have Z6:((x.bare.full 2).1.c7.length:Int)≤((x.av.length+1:Nat):Int):=ak
   show ((if (x.bare.full 2).2=true then ((x.bare.full 2).1,cW.word "no room") else ((((x.bare.full 2).1.c1 d p.toNat).putIn d p.toNat n),.word "done")).1.c7.length:Int)≤_
   split
   ·show ((x.bare.full 2).1.c7.length:Int)≤_;omega
   ·show (((x.bare.full 2).1.c7++[_]).length:Int)≤_
    rw[length_append,length_singleton]
    omega
  | fin d=>show ((1:Nat):Int)≤_;omega
  | drop d =>
   have aC:x.isOpen d=true:=hW (x:=x.bare) (.inr (.inr rfl)) dp
   have aa:=BJ aC S.a_
   have ak:=key (Bs (x:=x.bare) (d:=d) (l:=(x.bare.c5 d).reverse))
   rw[length_reverse]at ak
   have az:((x.bare.dM d).c7.length:Int)≤((x.c5 d).length:Int):=ak
   show (((x.bare.dM d).c7++[_]).length:Int)≤_
   rw[length_append,length_singleton]
   omega
  | look p=>show ((0:Nat):Int)≤_;omega
  | carry p =>
   have ak:=key (BC (x:=x.bare) (p:=p.toNat))
   show ((x.bare.dZ p.toNat).c7.length:Int)≤_
   omega
  | cut =>
   have ak:=key (B7 (x:=x.bare))
   show (x.bare.dS.c7.length:Int)≤_
   omega
theorem VZ (s:bp) (l:List bN):(s.gV l).length≤l.length+1:=by
 cases s with
 | d9 p n=>exact le_succ _
 | line _=>show (l++[_]).length≤_;rw[length_append];exact le_refl _
 | cut k=>show (l.drop k).length≤_;rw[length_drop];omega
theorem JZ:∀(l:List bp) (g:List bN),(l.foldl bp.gV g).length≤g.length+l.length
 | [],_=>le_refl _
 | s::l,g=>by
  rw[foldl_cons,length_cons]
  have ak:=JZ l (s.gV g)
  have az:=VZ s g
  omega
theorem Jl:∀(l:List bp) (g:List bN) (ln:bN),ln∈l.foldl bp.gV g→ln∈g∨bp.line ln∈l
 | [],_,_,h=>.inl h
 | s::l,g,ln,h=>by
  rw[foldl_cons]at h
  rcases Jl l _ ln h with z | z
  ·cases s with
   | d9 p n=>exact .inl z
   | line fH =>
    rcases mem_append.mp z with k | k
    ·exact .inl k
    ·exact .inr (by rw[mem_singleton.mp k];exact mem_cons_self)
   | cut k=>exact .inl (List.mem_of_mem_drop z)
  ·exact .inr (mem_cons_of_mem _ z)
theorem Wg (s:bp) (cs:List Int):(s.jG cs).length=cs.length:=by
 cases s with
 | d9 p n=>exact length_set
 | line _=>rfl
 | cut _=>rfl
theorem J9:∀(l:List bp) (cs:List Int),(l.foldl bp.jG cs).length=cs.length
 | [],_=>rfl
 | s::l,cs=>by
  rw[foldl_cons,J9,Wg]
theorem RH (S:x.sound) (f:x.fit) (e:b7):(x.a4 e).1.av.length=x.av.length:=by
 obtain⟨y,z,a,b,c⟩:=uZ S f e
 have k1:=b.facts.2.1
 have fz:y.av.length=x.av.length:=by rcases a with rfl | rfl <;> rfl
 rcases c with h | h
 ·rw[h,k1,fz]
 ·rw[h];show z.av.length=_;rw[k1,fz]
theorem IF:∀(aB:List b7) (x:aq) (j:Nat),x.sound→x.fit→((((x.rows aB).flatten.take j).foldl bp.gV x.log).length:Int)≤x.log.length+x.bound+2 * aB.length+x.av.length+2
 | [],x,j,S,f=>by
  have bn:=uN x
  show ((List.foldl bp.gV x.log (List.take j [])).length:Int)≤_
  rw[take_nil]
  show (x.log.length:Int)≤_
  omega
 | e::r,x,j,S,f=>by
  obtain⟨pW,z,Gl,q5,Gk⟩:=uZ S f e
  have oD:pW.b_=x.b_∧pW.log=x.log:=by rcases Gl with rfl | rfl <;> exact⟨rfl,rfl⟩
  have w5:(x.a4 e).1.log=z.log:=by
   rcases Gk with h | h
   ·rw[h]
   ·rw[h];rfl
  have lD:(x.rows (e::r)).flatten=x.row e++((x.a4 e).1.rows r).flatten:=rfl
  have kg:=US S e
  rw[lD,length_cons]
  by_cases c:j≤(x.row e).length
  ·rw[List.take_append_of_le_length c]
   have ak:=JZ ((x.row e).take j) x.log
   rw[length_take]at ak
   omega
  ·have aH:(x.row e++((x.a4 e).1.rows r).flatten).take j=x.row e++(((x.a4 e).1.rows r).flatten).take (j - (x.row e).length):=by
    rw[List.take_append,take_of_length_le (by omega)]
   rw[aH,foldl_append]
   have oZ:=q5.wR.2
   rw[oD.2,←w5]at oZ
   rw[←oZ]
   have az:=IF r (x.a4 e).1 (j - (x.row e).length) (S.a4 e) (f.a4 S e)
   have cz:=RB S e
   have dA:=RH S f e
   omega
theorem UZ:tS=bp.jG:=by
 funext cs s
 cases s <;> rfl
theorem UG {ps bM:List Int}{n:Nat}(h:bM.length=ps.length):(lR ps bM n).foldl bp.jG ps=bM:=by
 unfold lR
 rw[foldl_append]
 have e:=Sa h
 rw[UZ]at e
 rw[e]
 unfold nA
 split <;> rfl
theorem Iw {ps bM:List Int}(g:List bN):∀i,(iu ps bM i).foldl bp.gV g=g
 | 0=>rfl
 | i+1=>by
  show (iu ps bM i++_).foldl bp.gV g=g
  rw[foldl_append,Iw g i]
  split <;> rfl
theorem UD {ps bM:List Int}{g:List bN}:(lR ps bM g.length).foldl bp.gV g=[]:=by
 unfold lR
 rw[foldl_append,Iw]
 unfold nA
 by_cases c:g.length=0
 ·rw[if_pos c]
  exact List.length_eq_zero_iff.mp c
 ·rw[if_neg c]
  show g.drop g.length=[]
  exact drop_length
end
end L2
namespace Fl
open PySem L2
theorem cE {j k:Nat}{A:Around}(h:gE j A) (q:k≤j:=by decide):gE k A:=h.mono q
theorem d2 {N Q:List Str}{sc:Scope}(a:sc.kind=.function:=by rfl) (b:sc.isCoroutine=false:=by rfl) (c:sc.isGenerator=false:=by rfl) (d:N.Nodup:=by decide +kernel) (e:N.take Q.length=Q:=by rfl) (f:∀x∈Q,sc.names.lookup x=some .local∨sc.names.lookup x=some .cell:=by decide +kernel) (g:∀y∈sc.names,y.2≠.free:=by decide +kernel):dI N Q sc:=⟨a,b,c,d,e,f,g⟩
abbrev DS:List Str:=["_law_script","_law_head","_law_count","_law_room","_law_pages","_law_asked","_law_house","_law_told","_law_due","_law_deed","_law_rows","_law_flat","_law_row","_law_stop","_law_left","_law_log","_law_ones","_law_others","_law_found","_law_final","_law_rest","_law_kept"]
abbrev rP:List Str:=["_law_cells","_law_count","_law_words","_law_asked","_law_out","_law_over","_law_begun","_law_k","_law_rest","_law_word","_law_odd","_law_far","_law_page","_law_strange","_law_dealing","_law_number"]
abbrev zx:List Str:=["_law_pages","_law_asked","_law_told","_law_rows","_law_stop"]
abbrev tH:List Str:=["_law_house","_law_dealing","_law_page","_law_number"]
abbrev zH:List Str:=["_law_pages","_law_desk","_law_log","_law_puts"]
abbrev vI:List Str:=["_law_number","_law_prime","_law_many"]
abbrev zy:List Str:=["_law_pages","_law_log","_law_strokes"]
abbrev vC:List Str:=["_law_pages","_law_log","_law_stroke"]
abbrev L1:List Str:=["_law_found","_law_count","_law_part"]
abbrev zE:List Str:=["_law_puts","_law_desk","_law_deed"]
abbrev kG:List Str:=["self","dealing","page","number"]
abbrev zB:List Str:=["pages","desk","log","dealings"]
abbrev nG:List Str:=["_law_house","_law_stroke"]
abbrev mL:List Str:=["_law_found","_law_count"]
abbrev zA:List Str:=["_law_cells","_law_count"]
abbrev qB:List Str:=["_law_house","_law_deed"]
abbrev tK:List Str:=["_law_house","_law_page"]
abbrev vF:List Str:=["_law_cell","_law_count"]
abbrev zI:List Str:=["_law_lines","_law_page"]
abbrev zF:List Str:=["_law_house","_law_more"]
abbrev zD:List Str:=["_law_pages","_law_room"]
abbrev zC:List Str:=["self","dealing","page"]
abbrev zJ:List Str:=["_law_found","_law_due"]
abbrev zG:List Str:=["_law_puts","_law_page"]
abbrev zz:List Str:=["pages","room","deeds"]
abbrev vH:List Str:=["_law_script","_law_k"]
abbrev vD:List Str:=["self","pages","room"]
abbrev vE:List Str:=["self","pages","log"]
abbrev hY:List Str:=["self","dealing"]
abbrev j7:List Str:=["self","stroke"]
abbrev nF:List Str:=["house","deed"]
abbrev hQ:List Str:=["self","page"]
abbrev mM:List Str:=["self","more"]
abbrev qA:List Str:=["pages","log"]
abbrev zw:List Str:=["_law_script"]
abbrev k8:List Str:=["_law_found"]
abbrev tL:List Str:=["_law_house"]
abbrev oz:List Str:=["_law_head"]
abbrev vG:List Str:=["_law_puts"]
abbrev k9:List Str:=["self"]
def top (i:Nat):Stmt:=PySem.Challenge.pw_quillhouse_k06_whole_stopped_anywhere.main.body.getD i (.Pass ⟨0,0,0,0⟩)
abbrev Dd:Stmt:=top 1
abbrev Ea:Stmt:=top 2
abbrev CX:Stmt:=inClass (top 10) 0
abbrev Eb:Stmt:=inClass (top 10) 1
abbrev CN:Stmt:=top 12
abbrev CQ:Stmt:=top 13
abbrev CS:Stmt:=inClass (top 15) 0
abbrev CZ:Stmt:=inClass (top 15) 1
abbrev DH:Stmt:=inClass (top 15) 2
abbrev DJ:Stmt:=inClass (top 15) 3
abbrev Dj:Stmt:=inClass (top 15) 4
abbrev Df:Stmt:=inClass (top 15) 5
abbrev CW:Stmt:=inClass (top 15) 6
abbrev DK:Stmt:=inClass (top 15) 7
abbrev Dp:Stmt:=inClass (top 15) 8
abbrev Dm:Stmt:=inClass (top 15) 9
abbrev Dn:Stmt:=inClass (top 15) 10
abbrev Dl:Stmt:=inClass (top 15) 11
abbrev Dh:Stmt:=inClass (top 15) 12
abbrev CP:Stmt:=inClass (top 15) 13
abbrev Cn:Stmt:=inClass (top 15) 14
abbrev CO:Stmt:=inClass (top 15) 15
abbrev BA:Stmt:=top 17
abbrev yN:Stmt:=top 18
abbrev Cs:Stmt:=top 19
abbrev Dk:Stmt:=top 21
abbrev vf:Stmt:=top 22
abbrev Ec:Stmt:=top 23
abbrev C0:Stmt:=top 24
abbrev DI:Stmt:=top 25
abbrev DG:Stmt:=top 26
abbrev Cr:Stmt:=top 27
abbrev BN:Stmt:=top 28
abbrev DL:Stmt:=top 29
abbrev kx:Stmt:=top 30
abbrev CM:Stmt:=top 31
abbrev De:Stmt:=top 32
abbrev CK:Stmt:=top 33
abbrev B0:Stmt:=top 34
abbrev CY:Stmt:=top 35
abbrev C1:Stmt:=top 36
abbrev Cp:Stmt:=top 37
abbrev CR:Stmt:=top 38
abbrev Co:Stmt:=top 39
abbrev CU:Stmt:=top 40
abbrev B1:Stmt:=top 41
abbrev Di:Stmt:=top 42
abbrev CL:Stmt:=top 43
abbrev CT:Stmt:=top 44
abbrev BO:Stmt:=top 45
abbrev Dg:Stmt:=top 46
abbrev CV:Stmt:=top 47
abbrev rL:Stmt:=top 48
theorem dE {c A B:Prop} [Decidable c] (ai:c) (h:A):if decide c=true then A else B:=by
 rw[decide_eq_true ai]
 exact el h
theorem bu {c A B:Prop} [Decidable c] (ai:¬c) (h:B):if decide c=true then A else B:=by
 rw[decide_eq_false ai]
 exact cV h
theorem pF {c A B:Prop} [Decidable c] (ai:¬c) (h:A):if (!decide c)=true then A else B:=by
 rw[decide_eq_false ai]
 exact el h
theorem iT:bootBuiltins "list"=some (.type "list"):=by decide +kernel
theorem vo:bootBuiltins "tuple"=some (.type "tuple"):=by decide +kernel
theorem zR:bootBuiltins "int"=some (.type "int"):=by decide +kernel
theorem vQ:bootBuiltins "str"=some (.type "str"):=by decide +kernel
theorem Lu:bootBuiltins "bool"=some (.type "bool"):=by decide +kernel
theorem Ls:bootBuiltins "dict"=some (.type "dict"):=by decide +kernel
theorem jc:bootBuiltins "isinstance"=some (.builtin "isinstance"):=by decide +kernel
section
variable (K:PySem.W.Frag)
theorem HF:kitOne K (.type "int") (.type "int")=some true:=by kernel_rfl
theorem Hh:kitOne K (.type "int") (.type "bool")=some false:=by kernel_rfl
theorem ql:kitOne K (.type "int") (.type "str")=some false:=by kernel_rfl
theorem kW:kitOne K (.type "str") (.type "str")=some true:=by kernel_rfl
theorem ya:kitOne K (.type "list") (.type "list")=some true:=by kernel_rfl
theorem G7:kitOne K (.type "list") (.type "tuple")=some false:=by kernel_rfl
theorem G6:kitOne K (.type "tuple") (.type "list")=some false:=by kernel_rfl
theorem rk:kitOne K (.type "tuple") (.type "tuple")=some true:=by kernel_rfl
theorem Ve:PySem.W.kitAny K (.type "int") ([ "list","tuple"].map Value.type)=some false:=by kernel_rfl
theorem Vd:PySem.W.kitAny K (.type "str") ([ "list","tuple"].map Value.type)=some false:=by kernel_rfl
theorem Un:PySem.W.kitAny K (.type "list") ([ "list","tuple"].map Value.type)=some true:=by kernel_rfl
theorem S6:PySem.W.kitAny K (.type "tuple") ([ "list","tuple"].map Value.type)=some true:=by kernel_rfl
end
structure eY (mg:Str→Option Value):Prop where
 lst:mg "list"=none
 tup:mg "tuple"=none
 int:mg "int"=none
 str:mg "str"=none
 bV:mg "bool"=none
 jf:mg "isinstance"=none
 len:mg "len"=none
 j6:mg "range"=none
 ua:mg "enumerate"=none
 PR:mg "dict"=none
def Ky:dj:=fun vs H Q _=>∃n p m:Int,vs=[.int n,.int p,.int m]∧0<p∧0<m∧∀r:Int,0≤r→r<m→Q (.int r) H
def yL:dj:=fun vs H Q _=>∃i:Int,vs=[.int i]∧Q (.bV true) H
def LB (K:PySem.W.Frag):dj:=fun vs H Q _=>∃(a:Addr) (ns:List Int) (k:Int),vs=[.ref a,.int k]∧aO K H a (ns.map V.int)∧0≤k∧∀z:Int,Q (.int z) H
def JI:dj:=fun vs H Q _=>∃(x y:V) (d:D),vs=[x,y]∧Rep H d x∧Rep H d y∧d.e7≤190000∧∀af,bO H af→Q (.bV true) af
section
variable {P:Program}{w:World}{K:PySem.W.Frag}{mg:Str→Option Value}{base:Heap}{f:Addr}{fd:FuncData}
theorem VA:dI vI vI (cR Dk):=d2
theorem U_ (F:bW K "_law_draw" "_law_draw" Dk f fd):br P w K mg base bX 1 f fd vI Ky:=by
 refine F.ok VA (fun vs H Q E h=>?_) (fun cy A outer s H vs Q E aD h=>?_)
 ·obtain⟨n,p,m,rfl,_⟩:=h
  rfl
 obtain⟨n,p,m,rfl,aF,hm,q⟩:=h
 refine⟨_,bg (c_ (dg jw (dg jw (dg yW (ah 0) aV) (ah 1)) (ah 2))),?_⟩
 refine⟨_,rfl,_,_,rfl,rfl,.inr ⟨by decide,by decide⟩,_,rfl,_,_,rfl,rfl,aF,_,rfl,_,_,rfl,rfl,hm,?_⟩
 exact q _ (Int.emod_nonneg _ (by omega)) (Int.emod_lt_of_pos _ hm)
theorem JK:dI k8 k8 (cR vf):=d2
theorem TZ (F:bW K "_law_whole" "_law_whole" vf f fd) (B:eY mg):br P w K mg base bX 1 f fd k8 yL:=by
 refine F.ok JK (fun vs H Q E h=>?_) (fun cy A outer s H vs Q E aD h=>?_)
 ·obtain⟨i,rfl,_⟩:=h
  rfl
 obtain⟨i,rfl,q⟩:=h
 refine⟨_,bg (c_ (mD (d8 ju rfl B.jf jc (au (ah 0) (au (iP (v:=.ty "int") rfl B.int zR rfl) aN)))
  (qu (KJ (d8 ju rfl B.jf jc (au (ah 0) (au (iP (v:=.ty "bool") rfl B.bV Lu rfl) aN))))))),?_⟩
 refine⟨_,rfl,_,_,_,_,rfl,.int i,HF K,_,rfl,el ?_⟩
 exact⟨_,rfl,_,_,_,_,rfl,.int i,Hh K,_,rfl,q⟩
theorem Xp:dI vH vH (cR Ec):=d2
theorem WK (F:bW K "_law_at" "_law_at" Ec f fd) (B:eY mg):br P w K mg base bX 1 f fd vH (LB K):=by
 refine F.ok Xp (fun vs H Q E h=>?_) (fun cy A outer s H vs Q E aD h=>?_)
 ·obtain⟨a,ns,k,rfl,_⟩:=h
  rfl
 obtain⟨a,ns,k,rfl,l8,h0,q⟩:=h
 refine⟨_,bq (cI (cM qw (ah 1) (d8 f6 rfl B.len PySem.boot_len (au (ah 0) aN)) (cc _)) (bg (c_ (bE fq (ah 0) (ah 1) (fun _ _=>rfl)))) dk) (bg (c_ aV)),?_⟩
 refine⟨_,rfl,_,rfl,a,_,rfl,.inl l8,_,_,rfl,rfl,_,rfl,?_⟩
 refine gq (fun c=>?_) (fun c=>?_)
 ·have fJ:k<(((ns.map V.int).length:Nat):Int):=of_decide_eq_true c
  obtain⟨v,ak,az⟩:=C_ h0 fJ
  obtain⟨z,rfl,_⟩:=Bt az
  exact⟨_,rfl,_,rfl,a,_,_,_,rfl,rfl,l8,ak,q z⟩
 ·exact q 0
theorem u5:dI ["_law_found","_law_due","_law_left","_law_right","_law_one","_law_two"] zJ (cR C0):=d2
theorem J1 {α:Type}(l:List α) (a:α):(l++[a])[(l++[a]).length - 1]?=some a:=by
 rw[length_append,length_singleton,Nat.add_sub_cancel,getElem?_append_right (le_refl _),sub_self]
 rfl
theorem Ug {g:Addr}{jr:FuncData}(F:bW K "_law_alike" "_law_alike" C0 f fd) (B:eY mg) (oc:br P w K mg base bX 1 g jr k8 yL) (n8:Binds K jr k8 []) (sz:keepIn K (.ref g)=true) (nY:mg "_law_whole"=some (.ref g)) :
  br P w K mg base bX 2 f fd zJ JI:=by
 refine F.ok u5 (fun vs H Q E h=>?_) (fun cy A outer s H vs Q E aD h=>?_)
 ·obtain⟨x,y,d,rfl,_⟩:=h
  rfl
 obtain⟨x,y,d,rfl,bh,ck,hz,q⟩:=h
 have bf:=g_ aD
 refine⟨_,(bq (dc (i:=2) u5.a_ rfl (Or.inl rfl) (fi (au (ah 0) aN))) (bq (dc (i:=3) u5.a_ rfl (Or.inl rfl) (fi (au (ah 1) aN))) (bq (TN PassesOwn.never (cM (Je (Nat.lt_of_succ_lt bf)) (ah 3) (fi aN) (cc _)) (bq (dc (i:=4) u5.a_ rfl (Or.inl rfl) (KL plainAttrs_list PySem.F.slot_list_pop PySem.F.type_list_pop KO (ah 2))) (bq (dc (i:=5) u5.a_ rfl (Or.inl rfl) (KL plainAttrs_list PySem.F.slot_list_pop PySem.F.type_list_pop KO (ah 3))) (bg (cI (g8 (d8 Tn rfl B.jf jc (au (ah 5) (au (gp (au (iP (v:=.ty "list") rfl B.lst iT rfl) (au (iP (v:=.ty "tuple") rfl B.tup vo rfl) aN))) aN)))) (bq (cI (cM kY (d8 ju rfl B.jf jc (au (ah 4) (au (iP (v:=.ty "list") rfl B.lst iT rfl) aN))) (d8 ju rfl B.jf jc (au (ah 5) (au (iP (v:=.ty "list") rfl B.lst iT rfl) aN))) (cc _)) (bg (c_ ir)) dk) (bq (cI (mC (cM kY (d8 ju rfl B.jf jc (au (ah 4) (au (iP (v:=.ty "tuple") rfl B.tup vo rfl) aN))) (d8 ju rfl B.jf jc (au (ah 5) (au (iP (v:=.ty "tuple") rfl B.tup vo rfl) aN))) (cc _)) (cM kY (d8 f6 rfl B.len PySem.boot_len (au (ah 4) aN)) (d8 f6 rfl B.len PySem.boot_len (au (ah 5) aN)) (cc _))) (bg (c_ ir)) dk) (bq (dH (iS plainAttrs_list PySem.F.slot_list_extend PySem.F.type_list_extend HX (ah 2) (au (ah 4) aN))) (bg (dH (iS plainAttrs_list PySem.F.slot_list_extend PySem.F.type_list_extend HX (ah 3) (au (ah 5) aN))))))) (bg (cI (g8 (d8 ju rfl B.jf jc (au (ah 5) (au (iP (v:=.ty "str") rfl B.str vQ rfl) aN)))) (bg (cI (mC (jb (g8 (d8 ju rfl B.jf jc (au (ah 4) (au (iP (v:=.ty "str") rfl B.str vQ rfl) aN))))) (cM kY (ah 4) (ah 5) (cc _))) (bg (c_ ir)) dk)) (bg (cI (mC (jb (g8 (dR oc (cE aD) rfl nY sz n8 .nil de (au (ah 4) aN)))) (cM kY (ah 4) (ah 5) (cc _))) (bg (c_ ir)) dk))))))))) (bg (c_ ir))))),?_⟩
 have small:∀{n:Nat},n≤190000→n<sizeLine:=fun h=>ih (by omega)
 refine⟨_,rfl,cZ,fun l aE=>⟨_,rfl,cZ,fun r iW=>?_⟩⟩
 have qM:l≠r:=cB (aR (H:=H) (a:=l) (o:=.lst [x])) iW
 have EM:H r=none:=by rw[aA qM.symm]at iW;exact iW
 refine⟨fun m σ ay=>∃(ds:List D) (xs ys:List V) (b8 cg:Option V),m=fs ds∧σ=[some x,some y,some (.ref l),some (.ref r),b8,cg]∧bO H ay∧ay l=some (.lst xs)∧ay r=some (.lst ys)∧bl H ds xs∧bl H ds ys∧fs ds≤190000,
  ⟨d.e7,[d],[x],[y],none,none,by rw[oj,nh];rfl,rfl,(bR aE _).trans (bR iW _),by rw[aA qM,aR],aR,.cons bh .nil,.cons ck .nil,by rw[oj,nh];exact hz⟩,?_⟩
 rintro m σ ay ⟨ds,xs,ys,b8,cg,rfl,rfl,s2,aH,aM,bz,b3,hsz⟩
 refine⟨_,rfl,cZ,fun t aZ=>?_⟩
 have s3:bO H (upd ay t (.lst [])):=s2.trans (bR aZ _)
 have Fb:(upd ay t (.lst [])) l=some (.lst xs):=by rw[aA (cB aH aZ)];exact aH
 have E_:(upd ay t (.lst [])) r=some (.lst ys):=by rw[aA (cB aM aZ)];exact aM
 have r8:(upd ay t (.lst [])) t=some (.lst []):=aR
 generalize upd ay t (.lst [])=aT at s3 Fb E_ r8 ⊢
 refine⟨r,t,ys,rfl,rfl,E_,r8,_,rfl,?_⟩
 rcases List.eq_nil_or_concat ds with rfl | ⟨oR,d',PF⟩
 ·rw[b3.lP]
  refine cV ?_
  exact q aT s3
 rw[List.concat_eq_append]at PF
 subst PF
 obtain⟨kC,oU,rfl,MF,z1⟩:=bz.snoc
 obtain⟨k7,y',rfl,ME,z0⟩:=b3.snoc
 have iA:(!(k7++[y']).isEmpty)=true:=by simp
 rw[iA]
 refine el ⟨_,fun bA af h=>h,?_⟩
 have da:∀(fu:List D) (us vs:List V) (b8 cg:Option V) (af:ao),fs fu<d'.e7→bO H af→af l=some (.lst (kC++us))→af r=some (.lst (k7++vs))→bl H fu us→bl H fu vs →
   ∃fG,fG<fs (oR++[d'])∧∃(ds:List D) (xs ys:List V) (eV es:Option V),fG=fs ds∧([some x,some y,some (.ref l),some (.ref r),b8,cg]:St)=[some x,some y,some (.ref l),some (.ref r),eV,es]∧bO H af∧af l=some (.lst xs)∧af r=some (.lst ys)∧bl H ds xs∧bl H ds ys∧fs ds≤190000 :=
  fun fu us vs b8 cg af c8 c6 ak az cz dA=>by
   have e:fs (oR++[d'])=fs oR+d'.e7:=by rw[yl,oj,nh,Nat.add_zero]
   have cX:fs (oR++fu)=fs oR+fs fu:=yl _ _
   exact⟨fs (oR++fu),by omega,oR++fu,_,_,b8,cg,rfl,rfl,c6,ak,az,MF.append cz,ME.append dA,by omega⟩
 have Mj:(upd aT l (.lst (kC++[oU]).dropLast)) r=some (.lst (k7++[y'])):=by rw[aA qM.symm];exact E_
 refine⟨_,rfl,.inl ⟨rfl,_,aO.of Fb⟩,l,_,oU,rfl,rfl,Fb,J1 _ _,?_⟩
 refine⟨_,rfl,.inl ⟨rfl,_,aO.of Mj⟩,r,_,y',rfl,rfl,Mj,J1 _ _,?_⟩
 have s4:bO H (upd (upd aT l (.lst (kC++[oU]).dropLast)) r (.lst (k7++[y']).dropLast)):=(s3.ig aE).ig EM
 have l7:(upd (upd aT l (.lst (kC++[oU]).dropLast)) r (.lst (k7++[y']).dropLast)) l=some (.lst kC):=by rw[aA qM,aR,List.dropLast_concat]
 have nW:(upd (upd aT l (.lst (kC++[oU]).dropLast)) r (.lst (k7++[y']).dropLast)) r=some (.lst k7):=by rw[aR,List.dropLast_concat]
 generalize upd (upd aT l (.lst (kC++[oU]).dropLast)) r (.lst (k7++[y']).dropLast)=cO at s4 l7 nW ⊢
 refine⟨_,rfl,cZ,fun p aF=>?_⟩
 have kO:(upd cO p (.tup [.ty "list",.ty "tuple"])) p=some (.tup [.ty "list",.ty "tuple"]):=aR
 have s5:bO H (upd cO p (.tup [.ty "list",.ty "tuple"])):=s4.trans (bR aF _)
 have m5:(upd cO p (.tup [.ty "list",.ty "tuple"])) l=some (.lst kC):=by rw[aA (cB l7 aF)];exact l7
 have l4:(upd cO p (.tup [.ty "list",.ty "tuple"])) r=some (.lst k7):=by rw[aA (cB nW aF)];exact nW
 generalize upd cO p (.tup [.ty "list",.ty "tuple"])=dC at kO s5 m5 l4 ⊢
 have hlen:∀(fu:List D) (us:List V),fs fu<d'.e7→bl H fu us→kC.length+us.length≤sizeLine∧k7.length+us.length≤sizeLine:=fun fu us ak az=>by
  have a1:=Cz fu
  have a2:=az.length
  have kS:=Cz oR
  have rg:=MF.length
  have xT:=ME.length
  have e:fs (oR++[d'])=fs oR+d'.e7:=by rw[yl,oj,nh,Nat.add_zero]
  exact⟨le_of_lt (small (by omega)),le_of_lt (small (by omega))⟩
 cases d' with
 | int i =>
  cases z1.int_inv
  cases z0.int_inv
  refine⟨_,_,p,["list","tuple"],_,rfl,.int i,kO,Ve K,_,rfl,cV ?_⟩
  refine⟨_,rfl,_,_,_,_,rfl,.int i,ql K,_,rfl,cV ?_⟩
  refine⟨_,rfl,i,rfl,_,rfl,cV ?_⟩
  refine⟨_,rfl,_,rfl,rfl,_,rfl,nq rfl ?_⟩
  exact da [] [] [] _ _ dC (by rw[nh,CE];decide) s5 (by rw[append_nil];exact m5) (by rw[append_nil];exact l4) .nil .nil
 | str z =>
  cases z1.str_inv
  cases z0.str_inv
  refine⟨_,_,p,["list","tuple"],_,rfl,.str z,kO,Vd K,_,rfl,cV ?_⟩
  refine⟨_,rfl,_,_,_,_,rfl,.str z,kW K,_,rfl,el ?_⟩
  refine⟨_,rfl,_,_,_,_,rfl,.str z,kW K,_,rfl,cV ?_⟩
  refine⟨_,rfl,_,rfl,rfl,_,rfl,nq rfl ?_⟩
  exact da [] [] [] _ _ dC (by rw[nh,Ko];decide) s5 (by rw[append_nil];exact m5) (by rw[append_nil];exact l4) .nil .nil
 | tup fu =>
  obtain⟨a,us,rfl,bk,jM⟩:=z1.rx
  obtain⟨b,vs,rfl,aa,su⟩:=z0.rx
  have pQ:=s5 _ _ bk
  have nM:=s5 _ _ aa
  have c8:fs fu<(D.tup fu).e7:=by rw[Kn];omega
  obtain⟨dm,_⟩:=hlen fu us c8 jM
  obtain⟨_,dW⟩:=hlen fu vs c8 su
  refine⟨_,_,p,["list","tuple"],_,rfl,.tup nM,kO,S6 K,_,rfl,el ?_⟩
  refine⟨_,rfl,_,_,_,_,rfl,.tup pQ,G6 K,_,rfl,_,_,_,_,rfl,.tup nM,G6 K,rfl,_,rfl,nq rfl ?_⟩
  refine⟨_,rfl,_,_,_,_,rfl,.tup pQ,rk K,_,rfl,_,_,_,_,rfl,.tup nM,rk K,rfl,_,rfl,nq rfl ?_⟩
  refine⟨_,rfl,a,us,rfl,.inr (aG.of pQ),_,rfl,b,vs,rfl,.inr (aG.of nM),rfl,_,rfl,nq (by rw[jM.length,su.length]) ?_⟩
  refine⟨_,rfl,.inl ⟨rfl,_,aO.of m5⟩,_,rfl,l,a,kC,us,rfl,rfl,m5,.inr pQ,dm,?_⟩
  have fk:(upd dC l (.lst (kC++us))) b=some (.tup vs):=by rw[aA (cB aa aE)];exact nM
  have xg:(upd dC l (.lst (kC++us))) r=some (.lst k7):=by rw[aA qM.symm];exact l4
  refine⟨_,rfl,.inl ⟨rfl,_,aO.of xg⟩,_,rfl,r,b,k7,vs,rfl,rfl,xg,.inr fk,dW,?_⟩
  exact da fu us vs _ _ _ c8 ((s5.ig aE).ig EM) (by rw[aA qM,aR]) aR jM su
 | lst fu =>
  obtain⟨a,us,rfl,bk,jM⟩:=z1.lst_inv
  obtain⟨b,vs,rfl,aa,su⟩:=z0.lst_inv
  have pQ:=s5 _ _ bk
  have nM:=s5 _ _ aa
  have c8:fs fu<(D.lst fu).e7:=by rw[tl];omega
  obtain⟨dm,_⟩:=hlen fu us c8 jM
  obtain⟨_,dW⟩:=hlen fu vs c8 su
  refine⟨_,_,p,["list","tuple"],_,rfl,.lst nM,kO,Un K,_,rfl,el ?_⟩
  refine⟨_,rfl,_,_,_,_,rfl,.lst pQ,ya K,_,rfl,_,_,_,_,rfl,.lst nM,ya K,rfl,_,rfl,nq rfl ?_⟩
  refine⟨_,rfl,_,_,_,_,rfl,.lst pQ,G7 K,_,rfl,_,_,_,_,rfl,.lst nM,G7 K,rfl,_,rfl,nq rfl ?_⟩
  refine⟨_,rfl,a,us,rfl,.inl (aO.of pQ),_,rfl,b,vs,rfl,.inl (aO.of nM),rfl,_,rfl,nq (by rw[jM.length,su.length]) ?_⟩
  refine⟨_,rfl,.inl ⟨rfl,_,aO.of m5⟩,_,rfl,l,a,kC,us,rfl,rfl,m5,.inl pQ,dm,?_⟩
  have fk:(upd dC l (.lst (kC++us))) b=some (.lst vs):=by rw[aA (cB aa aE)];exact nM
  have xg:(upd dC l (.lst (kC++us))) r=some (.lst k7):=by rw[aA qM.symm];exact l4
  refine⟨_,rfl,.inl ⟨rfl,_,aO.of xg⟩,_,rfl,r,b,k7,vs,rfl,rfl,xg,.inl fk,dW,?_⟩
  exact da fu us vs _ _ _ c8 ((s5.ig aE).ig EM) (by rw[aA qM,aR]) aR jM su
def JJ:dj:=fun vs H Q _=>∃(l:Addr) (xs:List V) (log:List bN) (p:Nat),vs=[.ref l,.int (p:Nat)]∧H l=some (.lst xs)∧gT H log xs∧Q (.bV (log.any (iR p))) H
def I7:dj:=fun vs H Q _=>∃(ce aj lo pu:Addr) (cs ds:List Int) (xs:List V) (log:List bN) (kvs:List (Key × V)) (op:Int→Bool),vs=[.ref ce,.ref aj,.ref lo,.ref pu]∧H ce=some (.lst (cs.map V.int))∧H aj=some (.lst (ds.map V.int))∧cs.length=ds.length∧H lo=some (.lst xs)∧gT H log xs∧(∀ln∈log,ln.ok ds.length)∧log.length≤100000 ∧
 H pu=some (.bS kvs)∧(∀d:Int,(dw kvs (Sum.inl d)).isSome=op d)∧∀af,bO H af→Q (.int (ep cs ds op log:Nat)) af
def uY:dj:=fun vs H Q _=>∃(h ce aj lo pu st:Addr) (pl:List (Int × Addr)) (x:aq) (v:V) (s:bp),vs=[.ref h,v]∧bw H h ce aj lo pu st pl x∧Rep H s.D v∧s.okIn x∧x.fits 1 ∧
 ∀lo' af,bw af h ce aj lo' pu st pl (x.c9 s)→jd (own h ce aj pu st pl) lo lo' H af→Q .cP af
def Cf:dj:=fun vs H Q _=>∃(h ce aj lo pu st:Addr) (pl:List (Int × Addr)) (x:aq),vs=[.ref h]∧bw H h ce aj lo pu st pl x∧x.fits 1 ∧
 ∀lo' af,bw af h ce aj lo' pu st pl x.dS→jd (own h ce aj pu st pl) lo lo' H af→Q .cP af
def BL:dj:=fun vs H Q _=>∃(h ce aj lo pu st:Addr) (pl:List (Int × Addr)) (x:aq) (p:Nat),vs=[.ref h,.int (p:Nat)]∧bw H h ce aj lo pu st pl x∧p<x.av.length∧x.fits 1 ∧
 ∀lo' af,bw af h ce aj lo' pu st pl (x.dZ p)→jd (own h ce aj pu st pl) lo lo' H af→Q .cP af
theorem JP:dI ["_law_lines","_law_page","_law_one"] zI (cR C1):=d2
theorem Uh (F:bW K "_law_put_again" "_law_put_again" C1 f fd):br P w K mg base bX 1 f fd zI JJ:=by
 refine F.ok JP (fun vs H Q E h=>?_) (fun cy A outer s H vs Q E aD h=>?_)
 ·obtain⟨l,xs,log,p,rfl,_⟩:=h
  rfl
 obtain⟨l,xs,log,p,rfl,aE,eS,q⟩:=h
 refine⟨_,(bq (hP PassesOwn.never rfl (ku (ah 0)) (ff (i:=2) JP.a_ rfl (Or.inl rfl)) (bg (cI (om (cM dJ (bE b6 (ah 2) aV (fun _ _=>rfl)) bB (cc _)) (cM dJ (bE b6 (ah 2) aV (fun _ _=>rfl)) (ah 1) (cc _))) (bg (c_ ir)) dk))) (bg (c_ ir))),?_⟩
 refine⟨_,rfl,l,rfl,⟨xs,aO.of aE⟩,ng (K:=K) (a:=l) (xs:=xs) (fun i σ ay=>∃o:Option V,σ=[some (.ref l),some (.int (p:Nat)),o]∧ay=H∧(log.take i).any (iR p)=false)
  ⟨none,rfl,rfl,rfl⟩ (fun i σ ay _ ⟨_,_,e,_⟩=>by rw[e];exact aO.of aE) ?_ ?_⟩
 ·rintro i x σ ay aL ⟨o,rfl,rfl,aP⟩
  obtain⟨ln,fO,gF⟩:=eS.get aL
  have i4:(log.take (i+1)).any (iR p)=iR p ln:=by
   rw[take_add_one,any_append,aP,fO]
   simp
  cases ln with
  | fin d =>
   obtain⟨c,rfl,ai⟩:=gF
   refine⟨_,rfl,c,_,_,_,rfl,rfl,aG.of ai,rfl,rfl,_,rfl,bu tw ?_⟩
   refine cV ?_
   exact⟨_,rfl,rfl,i4⟩
  | put d eg fl n =>
   obtain⟨c,rfl,ai⟩:=gF
   refine⟨_,rfl,c,_,_,_,rfl,rfl,aG.of ai,rfl,rfl,_,rfl,dE rfl ?_⟩
   refine⟨_,rfl,c,_,_,_,rfl,rfl,aG.of ai,rfl,_,rfl,rfl,_,rfl,gq (fun cN=>?_) (fun cN=>?_)⟩
   ·have aH:V.int (eg:Nat)=V.int (p:Nat):=of_decide_eq_true cN
    injection aH with aH
    have aM:eg=p:=by omega
    have bT:log.any (iR p)=true:=any_eq_true.mpr ⟨_,mem_of_getElem? fO,decide_eq_true aM⟩
    rw[bT]at q
    exact q
   ·refine⟨_,rfl,rfl,?_⟩
    rw[i4]
    refine decide_eq_false fun z=>cN (decide_eq_true (by rw[z]))
 ·rintro σ ay ⟨o,rfl,rfl,aP⟩
  rw[←eS.1,take_length]at aP
  rw[aP]at q
  exact q
theorem yy:dI ["_law_pages","_law_desk","_law_log","_law_puts","_law_k","_law_line","_law_page"] zH (cR Cp):=d2
theorem SX {cs ds:List Int}{op:Int→Bool}{log:List bN}{i:Nat}{ln:bN}(h:log[i]?=some ln):log.drop i=ln::log.drop (i+1):=by
 obtain⟨aL,e⟩:=List.getElem?_eq_some_iff.mp h
 rw[List.drop_eq_getElem_cons aL,e]
theorem SQ {GH:Addr}{Q5:FuncData}(F:bW K "_law_needed" "_law_needed" Cp f fd) (B:eY mg) (abX:br P w K mg base bX 1 GH Q5 zI JJ) (abC:Binds K Q5 zI []) (abi:keepIn K (.ref GH)=true) (abe:mg "_law_put_again"=some (.ref GH)) :
  br P w K mg base bX 2 f fd zH I7:=by
 refine F.ok yy (fun vs H Q E h=>?_) (fun cy A outer s H vs Q E aD h=>?_)
 ·obtain⟨ce,aj,lo,pu,cs,ds,xs,log,kvs,op,rfl,_⟩:=h
  rfl
 obtain⟨ce,aj,lo,pu,cs,ds,xs,log,kvs,op,rfl,ai,hd,k_,aE,eS,bG,nU,aF,nH,q⟩:=h
 have bf:=g_ aD
 have iD:=eS.1
 refine⟨_,(bq (hP PassesOwn.never rfl (s_ rfl B.j6 (au (d8 f6 rfl B.len PySem.boot_len (au (ah 2) aN)) aN)) (ff (i:=4) yy.a_ rfl (Or.inl rfl)) (bq (dc (i:=5) yy.a_ rfl (Or.inl rfl) (bE fq (ah 2) (ah 4) (fun _ _=>rfl))) (bg (cI (cM dJ (bE b6 (ah 5) aV (fun _ _=>rfl)) bB (cc _)) (bq (cI (tp (C5 bf (bE b6 (ah 5) aV (fun _ _=>rfl)) (ah 3))) (bg (c_ (ah 4))) dk) (bq (dc (i:=6) yy.a_ rfl (Or.inl rfl) (bE b6 (ah 5) aV (fun _ _=>rfl))) (bg (cI (om (jb (g8 (dR abX (cE aD) rfl abe abi abC .nil de (au (nf pa (ah 2) (ni (dg ht (ah 4) aV)) nj) (au (ah 6) aN))))) (cM kY (bE fq (ah 0) (ah 6) (fun _ _=>rfl)) (bE fq (ah 1) (ah 6) (fun _ _=>rfl)) (cc _))) (bg (c_ (ah 4))) dk)))) dk)))) (bg (c_ (d8 f6 rfl B.len PySem.boot_len (au (ah 2) aN))))),?_⟩
 refine⟨_,rfl,lo,xs,rfl,.inl (aO.of aE),_,rfl,by omega,by omega,uU (fun i σ ay=>∃hF hg iC:Option V,σ=[some (.ref ce),some (.ref aj),some (.ref lo),some (.ref pu),hF,hg,iC]∧bO H ay∧ep cs ds op log=i+ep cs ds op (log.drop i))
  ⟨none,none,none,rfl,bO.refl _,by rw[drop_zero,zero_add]⟩ ?_ ?_⟩
 ·rintro i σ ay aL ⟨hF,hg,iC,rfl,s2,aP⟩
  have e0:(0:Int)+(i:Int)=((i:Nat):Int):=by omega
  rw[e0]
  have jg:i<xs.length:=by omega
  obtain⟨ln,fO,gF⟩:=eS.get (getElem?_eq_getElem jg)
  have j4:=gF.mono s2.e5
  have iz:=SX (cs:=cs) (ds:=ds) (op:=op) fO
  rw[iz]at aP
  refine⟨_,rfl,_,rfl,lo,_,_,_,rfl,rfl,aO.of (s2 _ _ aE),fh (getElem?_eq_getElem jg),?_⟩
  generalize xs[i]=v at j4 ⊢
  cases ln with
  | fin d =>
   obtain⟨c,rfl,aX⟩:=j4
   refine⟨_,rfl,c,_,_,_,rfl,rfl,aG.of aX,rfl,rfl,_,rfl,bu tw ?_⟩
   refine⟨_,_,_,rfl,s2,?_⟩
   rw[aP]
   show i+(ep cs ds op (log.drop (i+1))+1)=_
   omega
  | put d p o n =>
   obtain⟨c,rfl,aX⟩:=j4
   have Zq:p<ds.length:=bG _ (mem_of_getElem? fO)
   refine⟨_,rfl,c,_,_,_,rfl,rfl,aG.of aX,rfl,rfl,_,rfl,dE rfl ?_⟩
   refine⟨_,rfl,c,_,_,_,rfl,rfl,aG.of aX,rfl,_,rfl,pu,_,rfl,e9.k (k:=Sum.inl d) (s2 _ _ aF),_,rfl,?_⟩
   rw[nH d]
   have j2:¬(op d=true∨((log.drop (i+1)).any (iR p)=false∧cs[p]?≠ds[p]?))→ep cs ds op log=(i+1)+ep cs ds op (log.drop (i+1)):=fun z=>by
    rw[aP]
    show i+(if _ then _ else _)=_
    rw[if_neg z]
    omega
   have stop:(op d=true∨((log.drop (i+1)).any (iR p)=false∧cs[p]?≠ds[p]?))→ep cs ds op log=i:=fun z=>by
    rw[aP]
    show i+(if _ then _ else _)=_
    rw[if_pos z]
    rfl
   refine gq (fun cN=>?_) (fun cN=>?_)
   ·have aW:=q ay s2
    rw[stop (.inl cN)]at aW
    exact⟨_,rfl,aW⟩
   refine⟨_,rfl,c,_,_,_,rfl,rfl,aG.of aX,rfl,?_⟩
   refine⟨_,rfl,_,rfl,_,_,rfl,rfl,_,rfl,lo,_,rfl,aO.of (s2 _ _ aE),fun u oG=>?_⟩
   have aH:((i:Nat):Int)+1=((i+1:Nat):Int):=by omega
   rw[aH,ti]at *
   have s3:=bR oG (.lst (xs.drop (i+1)))
   have jT:(upd ay u (.lst (xs.drop (i+1)))) u=some (.lst (xs.drop (i+1))):=aR
   generalize upd ay u (.lst (xs.drop (i+1)))=aT at s3 jT ⊢
   have fm:=s2.trans s3
   obtain⟨dm,a1,e4⟩:=kX (ns:=cs) (k:=((p:Nat):Int)) (by omega) (by omega)
   obtain⟨dW,a2,fK⟩:=kX (ns:=ds) (k:=((p:Nat):Int)) (by omega) (by omega)
   rw[Int.toNat_natCast]at a1 a2
   refine⟨_,rfl,u,_,log.drop (i+1),p,rfl,jT,(eS.mono fun a x h=>h.mono fm.e5).drop _,_,rfl,?_⟩
   cases Mf:(log.drop (i+1)).any (iR p) with
   | true =>
    refine cV (cV ?_)
    exact⟨_,_,_,rfl,fm,j2 fun z=>z.elim (fun y=>cN y) fun y=>by rw[Mf]at y;cases y.1⟩
   | false =>
    refine el ?_
    refine⟨_,rfl,_,rfl,ce,_,_,_,rfl,rfl,aO.of (fm _ _ ai),e4,_,rfl,_,rfl,aj,_,_,_,rfl,rfl,aO.of (fm _ _ hd),fK,rfl,_,rfl,?_⟩
    by_cases e:dm=dW
    ·rw[e]
     have d4:decide (V.int dW=V.int dW)=true:=decide_eq_true rfl
     rw[d4]
     refine cV ?_
     exact⟨_,_,_,rfl,fm,j2 fun z=>z.elim (fun y=>cN y) fun y=>y.2 (by rw[a1,a2,e])⟩
    ·have d4:decide (V.int dm=V.int dW)=false:=decide_eq_false fun y=>e (by injection y)
     rw[d4]
     refine el ?_
     have aW:=q aT fm
     rw[stop (.inr ⟨Mf,by rw[a1,a2];exact fun y=>e (Option.some.inj y)⟩)]at aW
     exact⟨_,rfl,aW⟩
 ·rintro σ ay ⟨hF,hg,iC,rfl,s2,aP⟩
  have aM:(xs.length:Int).toNat=log.length:=by omega
  rw[aM,drop_length]at aP
  have aW:=q ay s2
  rw[aP]at aW
  refine⟨_,rfl,lo,xs,rfl,.inl (aO.of (s2 _ _ aE)),?_⟩
  rw[←iD]
  exact aW
theorem Tw:dI nG nG (cR Co):=d2
theorem zk:¬(V.str "cut"=V.str "line"):=by decide +kernel
theorem zd:¬(V.str "page"=V.str "line"):=by decide +kernel
theorem Dq:¬(V.str "page"=V.str "cut"):=by decide +kernel
theorem SP (F:bW K "_law_stroke_in" "_law_stroke_in" Co f fd) (B:eY mg):br P w K mg base bX 1 f fd nG uY:=by
 refine F.ok Tw (fun vs H Q E h=>?_) (fun cy A outer s H vs Q E aD h=>?_)
 ·obtain⟨h,ce,aj,lo,pu,st,pl,x,v,s,rfl,_⟩:=h
  rfl
 obtain⟨h,ce,aj,lo,pu,st,pl,x,v,c6,rfl,b5,bL,bG,⟨dm,dW,AH⟩,q⟩:=h
 have bf:=g_ aD
 refine⟨_,(bq (dH (iS plainAttrs_list PySem.F.slot_list_append PySem.F.type_list_append ie (eT bf (ah 0) bB (fun _ _=>rfl)) (au (ah 1) aN))) (bg (cI (cM dJ (bE b6 (ah 1) aV (fun _ _=>rfl)) bB (cc _)) (bg (mA bf (ah 0) bB (dg rD (eT bf (ah 0) bB (fun _ _=>rfl)) (fi (au (bE b6 (ah 1) aV (fun _ _=>rfl)) aN))) rfl)) (bg (cI (cM dJ (bE b6 (ah 1) aV (fun _ _=>rfl)) bB (cc _)) (bg (mA bf (ah 0) bB (nf pa (eT bf (ah 0) bB (fun _ _=>rfl)) (ni (bE b6 (ah 1) aV (fun _ _=>rfl))) nj) rfl)) (bg (oq (bE b6 (ah 1) aV (fun _ _=>rfl)) (rB (eT bf (ah 0) bB (fun _ _=>rfl)) (bE b6 (ah 1) aV (fun _ _=>rfl)) set_list)))))))),?_⟩
 obtain⟨zs,aB,rs⟩:=b5.fQ
 have jo:=rs.length
 rw[length_map]at jo
 refine⟨_,rfl,h,_,rfl,b5.Jp,.inl ⟨rfl,_,aO.of aB⟩,_,rfl,st,zs,v,rfl,rfl,aB,ih (by omega),?_⟩
 have bC:=b5.LD aB rs bL
 have kt:eh H (upd H st (.lst (zs++[v]))):=ru aB
 have tQ:=Rep.keep kt _ _ (bp.gD c6) bL
 have cg:gX (own h ce aj pu st pl) H (upd H st (.lst (zs++[v]))):=kv (bw.ms ..)
 generalize upd H st (.lst (zs++[v]))=ay at bC tQ cg ⊢
 cases c6 with
 | line ln =>
  obtain⟨c,cS,c2,rfl,ai,bz,b3⟩:=f7 tQ
  cases bz.str_inv
  refine⟨_,rfl,c,_,_,_,rfl,rfl,aG.of ai,rfl,rfl,_,rfl,dE rfl ?_⟩
  obtain⟨xs,du,kg⟩:=bC.aE
  have jq:xs.length=x.log.length:=kg.1.symm
  refine⟨_,rfl,h,_,rfl,bC.vO,_,rfl,c,_,_,_,rfl,rfl,aG.of ai,rfl,cZ,fun gG ak=>?_⟩
  have s3:=bR ak (.lst [c2])
  have bT:(upd ay gG (.lst [c2])) gG=some (.lst [c2]):=aR
  generalize upd ay gG (.lst [c2])=aT at s3 bT ⊢
  have cj:=bC.same s3
  refine⟨lo,gG,_,_,rfl,rfl,s3 _ _ du,bT,le_of_lt (ih (by rw[length_singleton];omega)),fun gu az=>?_⟩
  have s4:=bR az (.lst (xs++[c2]))
  have b1:(upd aT gu (.lst (xs++[c2]))) gu=some (.lst (xs++[c2])):=aR
  have dP:=cj.there az
  generalize upd aT gu (.lst (xs++[c2]))=cO at s4 b1 ⊢
  have dV:=cj.same s4
  have hq:=s3.trans s4
  have uH:gT cO (x.log++[ln]) (xs++[c2]):=f3.snoc (kg.mono fun a y q=>q.mono hq.e5) ((je.zf b3).mono hq.e5)
  refine⟨_,rfl,h,_,rfl,dV.LS _,?_⟩
  exact q gu _ (dV.DE b1 uH dP) (.fresh (cg.trans (bO.ew s3)) az (cg.trans ((bO.ew hq).trans (kv (bw.o2 ..)))))
 | cut k =>
  obtain⟨c,cS,c2,rfl,ai,bz,b3⟩:=f7 tQ
  cases bz.str_inv
  cases b3.int_inv
  refine⟨_,rfl,c,_,_,_,rfl,rfl,aG.of ai,rfl,rfl,_,rfl,bu zk ?_⟩
  refine⟨_,rfl,c,_,_,_,rfl,rfl,aG.of ai,rfl,rfl,_,rfl,dE rfl ?_⟩
  obtain⟨xs,du,kg⟩:=bC.aE
  refine⟨_,rfl,h,_,rfl,bC.vO,_,rfl,c,_,_,_,rfl,rfl,aG.of ai,rfl,_,rfl,lo,xs,rfl,aO.of du,fun gu az=>?_⟩
  rw[ti]at *
  have s4:=bR az (.lst (xs.drop k))
  have b1:(upd ay gu (.lst (xs.drop k))) gu=some (.lst (xs.drop k)):=aR
  have dP:=bC.there az
  generalize upd ay gu (.lst (xs.drop k))=cO at s4 b1 ⊢
  have dV:=bC.same s4
  have uH:gT cO (x.log.drop k) (xs.drop k):=(kg.mono fun a y q=>q.mono s4.e5).drop k
  refine⟨_,rfl,h,_,rfl,dV.LS _,?_⟩
  exact q gu _ (dV.DE b1 uH dP) (.fresh cg az (cg.trans ((bO.ew s4).trans (kv (bw.o2 ..)))))
 | d9 p n =>
  obtain⟨c,cS,c2,mW,rfl,ai,bz,b3,h4⟩:=yD tQ
  cases bz.str_inv
  cases b3.int_inv
  cases h4.int_inv
  refine⟨_,rfl,c,_,_,_,rfl,rfl,aG.of ai,rfl,rfl,_,rfl,bu zd ?_⟩
  refine⟨_,rfl,c,_,_,_,rfl,rfl,aG.of ai,rfl,rfl,_,rfl,bu Dq ?_⟩
  have aF:p<x.av.length:=bG
  refine⟨_,rfl,c,_,_,_,rfl,rfl,aG.of ai,rfl,_,rfl,h,_,rfl,bC.CC,_,rfl,c,_,_,_,rfl,rfl,aG.of ai,rfl,ce,_,_,p,rfl,rfl,bC.ai,ry (by rw[length_map];exact b5.cd ▸ aF),?_⟩
  rw[qj]
  exact q lo _ (bC.setC (by rw[length_set];exact b5.cd)) (cg.trans (kv (bw.sv ..))).l
def Cc:dj:=fun vs H Q _=>∃(h ce aj lo pu st:Addr) (pl:List (Int × Addr)) (x:aq) (d:Int) (p:Nat) (n:Int),vs=[.ref h,.int d,.int (p:Nat),.int n]∧bw H h ce aj lo pu st pl x∧p<x.av.length∧x.fits 1 ∧
 ∀lo' af,bw af h ce aj lo' pu st pl (x.putIn d p n)→jd (own h ce aj pu st pl) lo lo' H af→Q .cP af
def JH:dj:=fun vs H Q _=>∃(h ce aj lo pu st:Addr) (pl:List (Int × Addr)) (x:aq),vs=[.ref pu]∧bw H h ce aj lo pu st pl x∧x.aK.length≤200∧∀af,bO H af→Q (.int x.bound) af
def JB:dj:=fun vs H Q _=>∃(h ce aj lo pu st:Addr) (pl:List (Int × Addr)) (x:aq) (p:Nat),vs=[.ref pu,.int (p:Nat)]∧bw H h ce aj lo pu st pl x∧∀af,bO H af→Q (.int ((x.dK p).getD (-1))) af
def Kx:dj:=fun vs H Q _=>∃(h ce aj lo pu st:Addr) (pl:List (Int × Addr)) (x:aq) (m:Int),vs=[.ref h,.int m]∧bw H h ce aj lo pu st pl x∧x.aK.length≤200∧x.av.length≤1000∧x.fits (x.av.length+1) ∧
 ∀lo' af,bw af h ce aj lo' pu st pl (x.full m).1→jd (own h ce aj pu st pl) lo lo' H af→Q (.bV (x.full m).2) af
theorem JN:dI ["_law_house","_law_many"] tL (cR CU):=d2
theorem T_ {l_:Addr}{n6:FuncData}{fx:Addr}{gC:FuncData}(F:bW K "_law_cut_in" "_law_cut_in" CU f fd) (B:eY mg) (sS:br P w K mg base bX 2 l_ n6 zH I7) (sH:Binds K n6 zH []) (Gs:keepIn K (.ref l_)=true) (mN:mg "_law_needed"=some (.ref l_)) (i8:br P w K mg base bX 1 fx gC nG uY) (i5:Binds K gC nG []) (nZ:keepIn K (.ref fx)=true) (iZ:mg "_law_stroke_in"=some (.ref fx)):br P w K mg base bX 3 f fd tL Cf:=by
 refine F.ok JN (fun vs H Q E h=>?_) (fun cy A outer s H vs Q E aD h=>?_)
 ·obtain⟨h,ce,aj,lo,pu,st,pl,x,rfl,_⟩:=h
  rfl
 obtain⟨h,ce,aj,lo,pu,st,pl,x,rfl,b5,z,q⟩:=h
 have bf:=g_ aD
 refine⟨_,(bq (dc (i:=1) JN.a_ rfl (Or.inl rfl) (dR sS (cE aD) rfl mN Gs sH .nil de (au (eT bf (ah 0) bB (fun _ _=>rfl)) (au (eT bf (ah 0) bB (fun _ _=>rfl)) (au (eT bf (ah 0) bB (fun _ _=>rfl)) (au (eT bf (ah 0) bB (fun _ _=>rfl)) aN)))))) (bg (cI (cM rE (ah 1) aV (cc _)) (bg (dH (dR i8 (cE aD) rfl iZ nZ i5 .nil de (au (ah 0) (au (gp (au bB (au (ah 1) aN))) aN))))) dk))),?_⟩
 obtain⟨xs,du,kg⟩:=b5.aE
 refine⟨_,rfl,h,_,rfl,b5.CC,_,rfl,h,_,rfl,b5.lN,_,rfl,h,_,rfl,b5.vO,_,rfl,h,_,rfl,b5.kZ,?_⟩
 refine⟨ce,aj,lo,pu,_,_,xs,x.log,_,x.isOpen,rfl,b5.ai,b5.hd,b5.cd,du,kg,z.2.2,by have:=z.2.1;omega,b5.aF,b5.isOpen,fun ay s2=>?_⟩
 have bC:=b5.same s2
 have hi:x.dS=if 0<ep x.b_ x.av x.isOpen x.log then x.c9 (.cut (ep x.b_ x.av x.isOpen x.log)) else x:=rfl
 generalize ep x.b_ x.av x.isOpen x.log=n at hi ⊢
 refine⟨_,rfl,_,_,rfl,rfl,_,rfl,gq (fun cN=>?_) (fun cN=>?_)⟩
 ·have dB:0<n:=by have e3:(0:Int)<(n:Nat):=of_decide_eq_true cN;omega
  rw[if_pos dB]at hi
  refine⟨_,rfl,_,rfl,cZ,fun t aZ=>?_⟩
  have s3:=bR aZ (.tup [.str "cut",.int (n:Nat)])
  refine⟨h,ce,aj,lo,pu,st,pl,x,.ref t,.cut n,rfl,bC.same s3,.g9 aR (.cons .ofStr (.cons .ofInt .nil)),True.intro,z,fun lo' af cj dO=>?_⟩
  rw[←hi]at cj
  exact q lo' af cj ((bO.ew (s2.trans s3)).l.trans dO)
 ·have dB:¬0<n:=fun y=>cN (decide_eq_true (by omega))
  rw[if_neg dB]at hi
  rw[←hi]at bC
  exact q lo ay bC ((bO.ew s2).l)
theorem Ij:dI ["_law_house","_law_page","_law_number"] tK (cR B1):=d2
theorem Sd {fx:Addr}{gC:FuncData}(F:bW K "_law_carry_in" "_law_carry_in" B1 f fd) (B:eY mg) (i8:br P w K mg base bX 1 fx gC nG uY) (i5:Binds K gC nG []) (nZ:keepIn K (.ref fx)=true) (iZ:mg "_law_stroke_in"=some (.ref fx)):br P w K mg base bX 2 f fd tK BL:=by
 refine F.ok Ij (fun vs H Q E h=>?_) (fun cy A outer s H vs Q E aD h=>?_)
 ·obtain⟨h,ce,aj,lo,pu,st,pl,x,p,rfl,_⟩:=h
  rfl
 obtain⟨h,ce,aj,lo,pu,st,pl,x,p,rfl,b5,aF,z,q⟩:=h
 have bf:=g_ aD
 refine⟨_,(bq (dc (i:=2) Ij.a_ rfl (Or.inl rfl) (bE fq (eT bf (ah 0) bB (fun _ _=>rfl)) (ah 1) (fun _ _=>rfl))) (bg (cI (cM kY (bE fq (eT bf (ah 0) bB (fun _ _=>rfl)) (ah 1) (fun _ _=>rfl)) (ah 2) (cc _)) (bg (dH (dR i8 (cE aD) rfl iZ nZ i5 .nil de (au (ah 0) (au (gp (au bB (au (ah 1) (au (ah 2) aN)))) aN))))) dk))),?_⟩
 obtain⟨c,cN,dB⟩:=b5.atC aF
 obtain⟨d,fV,e2⟩:=b5.q2 aF
 have hi:x.dZ p=if x.b_[p]?=x.av[p]? then x else x.c9 (.d9 p (x.av.getD p 0)):=rfl
 rw[getD_eq_getElem?_getD,cN,fV,Option.getD_some]at hi
 refine⟨_,rfl,h,_,rfl,b5.lN,_,rfl,aj,_,_,_,rfl,rfl,aO.of b5.hd,e2,?_⟩
 refine⟨_,rfl,h,_,rfl,b5.CC,_,rfl,ce,_,_,_,rfl,rfl,aO.of b5.ai,dB,_,rfl,rfl,_,rfl,?_⟩
 by_cases e:c=d
 ·have d4:decide (V.int c=V.int d)=true:=decide_eq_true (by rw[e])
  rw[d4]
  rw[if_pos (by rw[e])]at hi
  refine cV ?_
  rw[←hi]at b5
  exact q lo H b5 (gX.refl _ _).l
 ·have d4:decide (V.int c=V.int d)=false:=decide_eq_false fun y=>e (by injection y)
  rw[d4]
  rw[if_neg (fun y=>e (Option.some.inj y))]at hi
  refine el ?_
  refine⟨_,rfl,_,rfl,_,rfl,cZ,fun t aZ=>?_⟩
  have s3:=bR aZ (.tup [.str "page",.int (p:Nat),.int d])
  refine⟨h,ce,aj,lo,pu,st,pl,x,.ref t,.d9 p d,rfl,b5.same s3,.g9 aR (.cons .ofStr (.cons .ofInt (.cons .ofInt .nil))),aF,z,fun lo' af cj dO=>?_⟩
  rw[←hi]at cj
  exact q lo' af cj ((bO.ew s3).l.trans dO)
theorem JL:dI ["_law_house","_law_dealing","_law_page","_law_number","_law_old"] tH (cR CL):=d2
theorem T4 {fx:Addr}{gC:FuncData}(F:bW K "_law_put_in" "_law_put_in" CL f fd) (B:eY mg) (i8:br P w K mg base bX 1 fx gC nG uY) (i5:Binds K gC nG []) (nZ:keepIn K (.ref fx)=true) (iZ:mg "_law_stroke_in"=some (.ref fx)):br P w K mg base bX 2 f fd tH Cc:=by
 refine F.ok JL (fun vs H Q E h=>?_) (fun cy A outer s H vs Q E aD h=>?_)
 ·obtain⟨h,ce,aj,lo,pu,st,pl,x,d,p,n,rfl,_⟩:=h
  rfl
 obtain⟨h,ce,aj,lo,pu,st,pl,x,d,p,n,rfl,b5,aF,z,q⟩:=h
 have bf:=g_ aD
 refine⟨_,(bq (dc (i:=4) JL.a_ rfl (Or.inl rfl) (bE fq (eT bf (ah 0) bB (fun _ _=>rfl)) (ah 2) (fun _ _=>rfl))) (bq (dH (dR i8 (cE aD) rfl iZ nZ i5 .nil de (au (ah 0) (au (gp (au bB (au (gp (au bB (au (ah 1) (au (ah 2) (au (ah 4) (au (ah 3) aN)))))) aN))) aN)))) (bg (oq (ah 3) (rB (eT bf (ah 0) bB (fun _ _=>rfl)) (ah 2) set_list))))),?_⟩
 obtain⟨o,fV,e2⟩:=b5.q2 aF
 have iF:x.av.getD p 0=o:=by rw[getD_eq_getElem?_getD,fV];rfl
 have hi:x.putIn d p n={ x.c9 (.line (.put d p (x.av.getD p 0) n)) with av:=x.av.set p n }:=rfl
 rw[iF]at hi
 refine⟨_,rfl,h,_,rfl,b5.lN,_,rfl,aj,_,_,_,rfl,rfl,aO.of b5.hd,e2,?_⟩
 refine⟨_,rfl,_,rfl,_,rfl,_,rfl,_,rfl,cZ,fun t1 r1=>⟨cZ,fun eE r0=>?_⟩⟩
 have s1:=bR r1 (.tup [.str "put",.int d,.int (p:Nat),.int o,.int n])
 have aH:(upd H t1 (.tup [.str "put",.int d,.int (p:Nat),.int o,.int n])) t1=some (.tup [.str "put",.int d,.int (p:Nat),.int o,.int n]):=aR
 have vJ:(upd H t1 (.tup [.str "put",.int d,.int (p:Nat),.int o,.int n])) eE=none:=r0
 have s2:=bR vJ (.tup [.str "line",.ref t1])
 refine⟨h,ce,aj,lo,pu,st,pl,x,.ref eE,.line (.put d p o n),rfl,b5.same (s1.trans s2),.g9 aR (.cons .ofStr (.cons (.g9 (s2 _ _ aH) (.cons .ofStr (.cons .ofInt (.cons .ofInt (.cons .ofInt (.cons .ofInt .nil)))))) .nil)),aF,z,fun lo' af cj dO=>?_⟩
 have ld:(x.c9 (.line (.put d p o n))).av=x.av:=rfl
 refine⟨_,rfl,_,rfl,h,_,rfl,cj.lN,_,rfl,aj,_,_,p,rfl,rfl,cj.hd,ry (by rw[length_map];exact aF),?_⟩
 rw[qj]
 have dV:=cj.tG (c:=x.av.set p n) (by rw[length_set];rfl)
 exact q lo' _ (by rw[hi];exact dV) ((bO.ew (s1.trans s2)).l.trans (dO.trans (kv (bw.xm ..)).l))
structure zU (mg:Str→Option Value):Prop where
 sum:mg "sum"=none
 rev:mg "reversed"=none
theorem Yc:bootBuiltins "sum"=some (.builtin "sum"):=by decide +kernel
theorem UQ:dI vG vG (cR CY):=d2
theorem Ud (F:bW K "_law_bound" "_law_bound" CY f fd) (B:eY mg) (od:zU mg):br P w K mg base bX 1 f fd vG JH:=by
 refine F.ok UQ (fun vs H Q E h=>?_) (fun cy A outer s H vs Q E aD h=>?_)
 ·obtain⟨h,ce,aj,lo,pu,st,pl,x,rfl,_⟩:=h
  rfl
 obtain⟨h,ce,aj,lo,pu,st,pl,x,rfl,b5,sj,q⟩:=h
 have bf:=g_ aD
 refine⟨_,(bg (c_ (d8 (Uz aD.hd) rfl od.sum Yc (au (Cv [0] ["_law_dealing","_law_puts"] (k4.one (fv:="_law_puts") (j:=0) rfl (by decide +kernel) (by decide +kernel) rfl (by decide +kernel) rfl rfl (by decide +kernel) rfl rfl rfl) rfl (ku (i9 (BH aD.hd) rfl B.lst iT (au (ah 0) aN))) (fun C s1 H1 bJ=>(dg ht (d8 (RI (K:=K) rfl) rfl B.len PySem.boot_len (au (eT bf (ah 1) (ah 0) (fun _ _=>rfl)) aN)) aV))) aN)))),?_⟩
 have q9:=b5.mH
 refine⟨_,rfl,pu,_,rfl,b5.aF,fun gy ak=>⟨gy,rfl,⟨_,aO.of aR⟩,fun acc ec=>?_⟩⟩
 rw[Ct]at *
 have s1:=bR ak (.lst ((pl.map (·.1)).map V.int))
 have aH:(upd H gy (.lst ((pl.map (·.1)).map V.int))) gy=some (.lst ((pl.map (·.1)).map V.int)):=aR
 have bC:=b5.same s1
 have DA:(upd H gy (.lst ((pl.map (·.1)).map V.int))) acc=none:=ec
 generalize upd H gy (.lst ((pl.map (·.1)).map V.int))=H1 at s1 aH bC DA ⊢
 refine Th (K:=K) (zs:=(x.aK.map fun z=>(z.2.length:Int)+1).map V.int) aH DA (by rw[length_map,length_map];omega) (by rw[length_map,length_map,length_map,length_map];exact q9.symm) (fun i y z aT k ck hz s3 aS=>?_) ?_
 ·have aL:i<pl.length:=by
   have:=(List.getElem?_eq_some_iff.mp ck).1
   rw[length_map,length_map]at this
   exact this
  have hR:pl[i]?=some pl[i]:=getElem?_eq_getElem aL
  obtain⟨w,ys,e6,eB,jk,so,w8⟩:=(bC.same s3).at_ hR
  have fz:y=.int (pl[i]).1:=by
   rw[getElem?_map,getElem?_map,hR]at ck
   exact (Option.some.inj ck).symm
  have gA:z=.int ((w.2.length:Int)+1):=by
   rw[getElem?_map,getElem?_map,e6]at hz
   exact (Option.some.inj hz).symm
  subst fz gA
  have gx:=so.length
  rw[length_map]at gx
  refine⟨_,rfl,_,rfl,pu,_,rfl,w8,_,ys,rfl,.inl (aO.of jk),_,_,rfl,rfl,?_⟩
  rw[gx]
  exact aS
 ·exact⟨acc,_,rfl,aO.of aR,q _ (s1.trans (bR DA _))⟩
theorem Cj:dI ["_law_puts","_law_page","_law_dealing","_law_pair"] zG (cR CK):=d2
theorem T3 (F:bW K "_law_taker" "_law_taker" CK f fd) (B:eY mg):br P w K mg base bX 1 f fd zG JB:=by
 refine F.ok Cj (fun vs H Q E h=>?_) (fun cy A outer s H vs Q E aD h=>?_)
 ·obtain⟨h,ce,aj,lo,pu,st,pl,x,p,rfl,_⟩:=h
  rfl
 obtain⟨h,ce,aj,lo,pu,st,pl,x,p,rfl,b5,q⟩:=h
 have bf:=g_ aD
 refine⟨_,(bq (hP PassesOwn.never rfl (ku (i9 (BH aD.hd) rfl B.lst iT (au (ah 0) aN))) (ff (i:=2) Cj.a_ rfl (Or.inl rfl)) (bg (hP PassesOwn.never rfl (ku (eT bf (ah 0) (ah 2) (fun _ _=>rfl))) (ff (i:=3) Cj.a_ rfl (Or.inl rfl)) (bg (cI (cM dJ (bE b6 (ah 3) aV (fun _ _=>rfl)) (ah 1) (cc _)) (bg (c_ (ah 2))) dk))))) (bg (c_ (tv tk aV)))),?_⟩
 have q9:=b5.mH
 refine⟨_,rfl,pu,_,rfl,b5.aF,fun gy ak=>⟨gy,rfl,⟨_,aO.of aR⟩,?_⟩⟩
 rw[Ct]at *
 have s1:=bR ak (.lst ((pl.map (·.1)).map V.int))
 have aH:(upd H gy (.lst ((pl.map (·.1)).map V.int))) gy=some (.lst ((pl.map (·.1)).map V.int)):=aR
 have bC:=b5.same s1
 generalize upd H gy (.lst ((pl.map (·.1)).map V.int))=H1 at s1 aH bC ⊢
 have bo:=q H1 s1
 refine ng (K:=K) (a:=gy) (xs:=(pl.map (·.1)).map V.int) (fun i σ ay=>∃cg dO:Option V,σ=[some (.ref pu),some (.int (p:Nat)),cg,dO]∧H1=ay∧(x.aK.take i).find? (fun z=>z.2.any fun y=>y.1 == p)=none)
  ⟨none,none,rfl,rfl,rfl⟩ (fun i σ ay _ ⟨_,_,_,e,_⟩=>by rw[←e];exact aO.of aH) ?_ ?_
 ·rintro i v σ ay aL ⟨cg,dO,rfl,rfl,aP⟩
  have r3:i<pl.length:=by
   have:=(List.getElem?_eq_some_iff.mp aL).1
   rw[length_map,length_map]at this
   exact this
  have hR:pl[i]?=some pl[i]:=getElem?_eq_getElem r3
  obtain⟨w,ys,e6,eB,jk,so,w8⟩:=bC.at_ hR
  have fz:v=.int w.1:=by
   rw[getElem?_map,getElem?_map,hR]at aL
   rw[eB]
   exact (Option.some.inj aL).symm
  subst fz
  rw[←eB]at w8
  generalize (pl[i]).2=lB at jk w8
  refine⟨_,rfl,_,rfl,pu,_,rfl,w8,lB,rfl,⟨ys,aO.of jk⟩,?_⟩
  refine ng (K:=K) (a:=lB) (xs:=ys) (fun j σ ay=>∃dO:Option V,σ=[some (.ref pu),some (.int (p:Nat)),some (.int w.1),dO]∧H1=ay∧(w.2.take j).any (fun y=>y.1 == p)=false)
   ⟨_,rfl,rfl,rfl⟩ (fun j σ ay _ ⟨_,_,e,_⟩=>by rw[←e];exact aO.of jk) ?_ ?_
  ·rintro j v σ ay di ⟨dO,rfl,rfl,hm⟩
   obtain⟨z,dm,dW⟩:=o_ so di
   obtain⟨c,cS,c2,rfl,ai,bz,b3⟩:=f7 (a:=.int (z.1:Nat)) (b:=.int z.2) dW
   cases bz.int_inv
   have i4:(w.2.take (j+1)).any (fun y=>y.1 == p)=(z.1 == p):=by
    rw[take_add_one,any_append,hm,dm]
    simp
   refine⟨_,rfl,c,_,_,_,rfl,rfl,aG.of ai,rfl,_,rfl,rfl,_,rfl,gq (fun cN=>?_) (fun cN=>?_)⟩
   ·have bT:V.int (z.1:Nat)=V.int (p:Nat):=of_decide_eq_true cN
    injection bT with bT
    have b1:z.1=p:=by omega
    have et:x.dK p=some w.1:=by
     unfold aq.dK
     rw[H0 e6 aP (any_eq_true.mpr ⟨z,mem_of_getElem? dm,by rw[b1];exact beq_self_eq_true p⟩)]
     rfl
    rw[et]at bo
    exact⟨_,rfl,bo⟩
   ·refine⟨_,rfl,rfl,?_⟩
    rw[i4]
    exact beq_eq_false_iff_ne.mpr fun y=>cN (decide_eq_true (by rw[y]))
  ·rintro σ ay ⟨dO,rfl,rfl,hm⟩
   have gx:=so.length
   rw[length_map]at gx
   rw[gx,take_length]at hm
   exact⟨_,_,rfl,rfl,Tc e6 aP hm⟩
 ·rintro σ ay ⟨cg,dO,rfl,rfl,aP⟩
  rw[length_map,length_map,q9,take_length]at aP
  have et:x.dK p=none:=by
   unfold aq.dK
   rw[aP]
   rfl
  rw[et]at bo
  exact⟨_,rfl,bo⟩
theorem KA:dI ["_law_house","_law_more","_law_page"] zF (cR Di):=d2
theorem U7 {ux:Addr}{xN:FuncData}{jS:Addr}{lG:FuncData}{jR:Addr}{lF:FuncData}(F:bW K "_law_full" "_law_full" Di f fd) (B:eY mg) (Bc:br P w K mg base bX 1 ux xN vG JH) (A5:Binds K xN vG []) (QK:keepIn K (.ref ux)=true) (AV:mg "_law_bound"=some (.ref ux)) (qf:br P w K mg base bX 2 jS lG tK BL) (qa:Binds K lG tK []) (xx:keepIn K (.ref jS)=true) (p2:mg "_law_carry_in"=some (.ref jS)) (qe:br P w K mg base bX 3 jR lF tL Cf) (p_:Binds K lF tL []) (xr:keepIn K (.ref jR)=true) (p1:mg "_law_cut_in"=some (.ref jR)):br P w K mg base bX 4 f fd zF Kx:=by
 refine F.ok KA (fun vs H Q E h=>?_) (fun cy A outer s H vs Q E aD h=>?_)
 ·obtain⟨h,ce,aj,lo,pu,st,pl,x,m,rfl,_⟩:=h
  rfl
 obtain⟨h,ce,aj,lo,pu,st,pl,x,m,rfl,b5,sj,w5,z,q⟩:=h
 have bf:=g_ aD
 refine⟨_,(bq (cI (cM K7 (dg ht (dg ht (d8 f6 rfl B.len PySem.boot_len (au (eT bf (ah 0) bB (fun _ _=>rfl)) aN)) (dR Bc (cE aD) rfl AV QK A5 .nil de (au (eT bf (ah 0) bB (fun _ _=>rfl)) aN))) (ah 1)) (eT bf (ah 0) bB (fun _ _=>rfl)) (cc _)) (bg (c_ ir)) dk) (bq (hP PassesOwn.never rfl (s_ rfl B.j6 (au (d8 f6 rfl B.len PySem.boot_len (au (eT bf (ah 0) bB (fun _ _=>rfl)) aN)) aN)) (ff (i:=2) KA.a_ rfl (Or.inl rfl)) (bg (dH (dR qf (cE aD) rfl p2 xx qa .nil de (au (ah 0) (au (ah 2) aN)))))) (bq (dH (dR qe (cE aD) rfl p1 xr p_ .nil de (au (ah 0) aN))) (bg (c_ (iO rE (dg ht (dg ht (d8 f6 rfl B.len PySem.boot_len (au (eT bf (ah 0) bB (fun _ _=>rfl)) aN)) (dR Bc (cE aD) rfl AV QK A5 .nil de (au (eT bf (ah 0) bB (fun _ _=>rfl)) aN))) (ah 1)) (eT bf (ah 0) bB (fun _ _=>rfl)) (cc _))))))),?_⟩
 obtain⟨xs,du,kg⟩:=b5.aE
 have iD:x.log.length=xs.length:=kg.1
 have lD:x.full m=if x.hx m=true then (x,false) else (x.gd, !x.gd.hx m):=rfl
 refine⟨_,rfl,h,_,rfl,b5.vO,lo,xs,rfl,.inl (aO.of du),_,rfl,h,_,rfl,b5.kZ,h,ce,aj,lo,pu,st,pl,x,rfl,b5,sj,fun ay s2=>?_⟩
 have bC:=b5.same s2
 refine⟨_,_,rfl,rfl,_,rfl,_,_,rfl,rfl,_,rfl,h,_,rfl,bC.K_,_,_,rfl,rfl,_,rfl,gq (fun cN=>?_) (fun cN=>?_)⟩
 ·have dB:x.hx m=true:=by unfold aq.hx;rw[iD];exact cN
  rw[if_pos dB]at lD
  rw[lD]at q
  exact q lo ay bC ((bO.ew s2).l)
 have dB:¬x.hx m=true:=fun y=>cN (by unfold aq.hx at y;rw[iD]at y;exact y)
 rw[if_neg dB]at lD
 rw[lD]at q
 have ld:(x.av.map V.int).length=x.av.length:=length_map _
 refine⟨_,rfl,h,_,rfl,bC.lN,aj,_,rfl,.inl (aO.of bC.hd),_,rfl,by omega,by omega,uU (fun i σ aT=>∃(cg:Option V) (lo':Addr),σ=[some (.ref h),some (.int m),cg]∧bw aT h ce aj lo' pu st pl (x.eU i)∧jd (own h ce aj pu st pl) lo lo' H aT)
  ⟨none,lo,rfl,bC,(bO.ew s2).l⟩ ?_ ?_⟩
 ·rintro i σ aT aL ⟨cg,lo',rfl,cj,dO⟩
  have e0:(0:Int)+(i:Int)=((i:Nat):Int):=by omega
  rw[e0]
  have jg:i<x.av.length:=by omega
  refine⟨_,rfl,_,rfl,h,ce,aj,lo',pu,st,pl,_,i,rfl,cj,by rw[rm];exact jg,aq.fits.eU (i:=i) (k:=1) (z.mono (by omega)) (by omega),fun eN cO dV hF=>?_⟩
  rw[←kq]at dV
  exact⟨_,eN,rfl,dV,dO.trans hF⟩
 ·rintro σ aT ⟨cg,lo',rfl,cj,dO⟩
  have uz:((x.av.map V.int).length:Int).toNat=x.av.length:=by omega
  rw[uz]at cj
  refine⟨_,rfl,h,ce,aj,lo',pu,st,pl,_,rfl,cj,aq.fits.eU (i:=x.av.length) (k:=1) z (le_refl _),fun eN cO dV hF=>?_⟩
  rw[←kr]at dV
  obtain⟨ys,aac,Yx⟩:=dV.aE
  have gx:x.gd.log.length=ys.length:=Yx.1
  refine⟨_,rfl,h,_,rfl,dV.vO,eN,ys,rfl,.inl (aO.of aac),_,rfl,h,_,rfl,dV.kZ,h,ce,aj,eN,pu,st,pl,x.gd,rfl,dV,by rw[G9];exact sj,fun dC s5=>?_⟩
  have gc:=dV.same s5
  refine⟨_,_,rfl,rfl,_,rfl,_,_,rfl,rfl,_,rfl,h,_,rfl,gc.K_,_,_,rfl,rfl,?_⟩
  have kN:=q eN dC gc (dO.trans (hF.trans (bO.ew s5).l))
  have mc:(!x.gd.hx m)=decide (x.gd.room<(ys.length:Int)+x.gd.bound+m):=by
   unfold aq.hx
   rw[gx]
   by_cases y:(ys.length:Int)+x.gd.bound+m≤x.gd.room
   ·rw[decide_eq_true y,decide_eq_false (by omega)];rfl
   ·rw[decide_eq_false y,decide_eq_true (by omega)];rfl
  rw[mc]at kN
  exact kN
def Ig:dj:=fun vs H Q _=>∃(h ce aj lo pu st:Addr) (pl:List (Int × Addr)) (x:aq) (v:V) (e:b7),vs=[.ref pu,.ref aj,v]∧bw H h ce aj lo pu st pl x∧Rep H e.D v∧1≤x.av.length∧(∀z∈x.aK,0≤z.1)∧∀af,bO H af→Q (.str ((x.refusal e).getD "done")) af
def Wd (o5:Bool) (d:Int):b7:=if o5 then .drop d else .fin d
def JE:dj:=fun vs H Q _=>∃(h ce aj lo pu st:Addr) (pl:List (Int × Addr)) (x:aq) (v:V) (o5:Bool) (d:Int),vs=[.ref h,v]∧bw H h ce aj lo pu st pl x∧Rep H (Wd o5 d).D v∧x.isOpen d=true∧(∀z∈x.c5 d,z.1<x.av.length)∧x.fits ((x.c5 d).length+1) ∧
 ∀lo' af,bw af h ce aj lo' pu st (pl.filter fun z=>z.1 != d) ((if o5 then x.dM d else x).fC d)→jd (own h ce aj pu st pl) lo lo' H af→Q .cP af
theorem yq:dI ["_law_puts","_law_desk","_law_deed","_law_page"] zE (cR B0):=d2
theorem Vf (t d:Int):(if true=true then !iw (.int t) [.int (-1),.int d] else iw (.int t) [.int (-1),.int d]) = !decide (t = -1∨t=d):=by
 rw[if_pos rfl]
 have e:=Uo t [-1,d]
 have aM:([-1,d]:List Int).map V.int=[.int (-1),.int d]:=rfl
 rw[aM]at e
 rw[e]
 congr 1
 exact decide_eq_decide.mpr (by simp)
theorem qD {c A B:Prop} [Decidable c] (ai:c) (h:B):if (!decide c)=true then A else B:=by
 rw[decide_eq_true ai]
 exact cV h
theorem Sb {n1:Addr}{gJ:FuncData}(F:bW K "_law_refusal" "_law_refusal" B0 f fd) (B:eY mg) (GT:br P w K mg base bX 1 n1 gJ zG JB) (xQ:Binds K gJ zG []) (xu:keepIn K (.ref n1)=true) (q8:mg "_law_taker"=some (.ref n1)):br P w K mg base bX 2 f fd zE Ig:=by
 refine F.ok yq (fun vs H Q E h=>?_) (fun cy A outer s H vs Q E aD h=>?_)
 ·obtain⟨h,ce,aj,lo,pu,st,pl,x,v,e,rfl,_⟩:=h
  rfl
 obtain⟨h,ce,aj,lo,pu,st,pl,x,v,e,rfl,b5,bL,acX,aP,q⟩:=h
 have bf:=g_ aD
 refine⟨_,(bq (cI (om (cM IC (bE b6 (ah 2) aV (fun _ _=>rfl)) (fi (au bB (au bB (au bB aN)))) (by with_unfolding_all rfl)) (tp (BR bf (bE b6 (ah 2) aV (fun _ _=>rfl)) (ah 0)))) (bg (c_ bB)) dk) (bq (dc (i:=3) yq.a_ rfl (Or.inl rfl) aV) (bq (cI (cM dJ (bE b6 (ah 2) aV (fun _ _=>rfl)) bB (cc _)) (bg (dc (i:=3) yq.a_ rfl (Or.inl rfl) (bE b6 (ah 2) aV (fun _ _=>rfl)))) dk) (bq (cI (mC (cM dJ (bE b6 (ah 2) aV (fun _ _=>rfl)) bB (cc _)) (cM dJ (bE b6 (ah 2) aV (fun _ _=>rfl)) bB (cc _))) (bg (dc (i:=3) yq.a_ rfl (Or.inl rfl) (bE b6 (ah 2) aV (fun _ _=>rfl)))) dk) (bq (cI (mC (cM qw (ah 3) aV (cc _)) (cM ze (ah 3) (d8 f6 rfl B.len PySem.boot_len (au (ah 1) aN)) (cc _))) (bg (c_ bB)) dk) (bq (cI (om (cM dJ (bE b6 (ah 2) aV (fun _ _=>rfl)) bB (cc _)) (cM RL (dR GT (cE aD) rfl q8 xu xQ .nil de (au (ah 0) (au (ah 3) aN))) (fi (au (tv tk aV) (au (bE b6 (ah 2) aV (fun _ _=>rfl)) aN))) (by with_unfolding_all rfl))) (bg (c_ bB)) dk) (bg (c_ bB)))))))),?_⟩
 cases e with
 | begin =>
  obtain⟨c,cS,rfl,ai,bz⟩:=qp bL
  cases bz.str_inv
  refine⟨_,rfl,c,_,_,_,rfl,rfl,aG.of ai,rfl,cZ,fun l aE=>⟨l,_,rfl,.inl (aO.of aR),rfl,rfl,_,rfl,?_⟩⟩
  have s1:=bR aE (.lst [.str "put",.str "end",.str "drop"])
  have bC:=b5.same s1
  have cJ:=s1 _ _ ai
  have aW:=q _ s1
  generalize upd H l (.lst [.str "put",.str "end",.str "drop"])=H1 at s1 bC cJ aW ⊢
  have lX:(if false=true then !iw (V.str "begin") [V.str "put",V.str "end",V.str "drop"] else iw (V.str "begin") [V.str "put",V.str "end",V.str "drop"])=false:=by decide +kernel
  rw[lX]
  have aW:Q (.str ((none:Option Str).getD "done")) H1:=aW
  refine cV (cV ?_)
  refine⟨_,rfl,c,_,_,_,rfl,rfl,aG.of cJ,rfl,rfl,_,rfl,bu (by decide +kernel) ?_⟩
  refine⟨_,rfl,c,_,_,_,rfl,rfl,aG.of cJ,rfl,rfl,_,rfl,bu (by decide +kernel) ?_⟩
  refine⟨_,rfl,c,_,_,_,rfl,rfl,aG.of cJ,rfl,rfl,_,rfl,bu (by decide +kernel) ?_⟩
  refine⟨_,rfl,_,_,rfl,rfl,_,rfl,bu (by decide) ?_⟩
  refine⟨_,rfl,_,rfl,aj,_,rfl,.inl (aO.of bC.hd),_,_,rfl,rfl,_,rfl,bu (by rw[length_map];omega) ?_⟩
  refine⟨_,rfl,c,_,_,_,rfl,rfl,aG.of cJ,rfl,rfl,_,rfl,bu (by decide +kernel) (cV ?_)⟩
  exact aW
 | put d p n =>
  obtain⟨c,cS,c2,mW,w6,rfl,ai,bz,b3,h4,nW⟩:=yC bL
  cases bz.str_inv
  cases b3.int_inv
  cases h4.int_inv
  cases nW.int_inv
  refine⟨_,rfl,c,_,_,_,rfl,rfl,aG.of ai,rfl,cZ,fun l aE=>⟨l,_,rfl,.inl (aO.of aR),rfl,rfl,_,rfl,?_⟩⟩
  have s1:=bR aE (.lst [.str "put",.str "end",.str "drop"])
  have bC:=b5.same s1
  have cJ:=s1 _ _ ai
  have aW:=q _ s1
  generalize upd H l (.lst [.str "put",.str "end",.str "drop"])=H1 at s1 bC cJ aW ⊢
  have lX:(if false=true then !iw (V.str "put") [V.str "put",V.str "end",V.str "drop"] else iw (V.str "put") [V.str "put",V.str "end",V.str "drop"])=true:=by decide +kernel
  rw[lX]
  have aW:Q (.str (((if x.isOpen d=false then some "no dealing" else if p<0∨(x.av.length:Int)≤p then some "no page" else if x.dK p.toNat=none∨x.dK p.toNat=some d then none else some "taken"):Option Str).getD "done")) H1:=aW
  refine el ?_
  refine⟨_,rfl,c,_,_,_,rfl,rfl,aG.of cJ,rfl,_,rfl,pu,_,rfl,bC.tA d,_,rfl,?_⟩
  rw[bC.isOpen d]
  cases aC:x.isOpen d with
  | false =>
   rw[aC,if_pos rfl]at aW
   exact el aW
  | true =>
  rw[aC,if_neg (fun z=>nomatch z)]at aW
  refine cV ?_
  refine⟨_,rfl,c,_,_,_,rfl,rfl,aG.of cJ,rfl,rfl,_,rfl,dE rfl ?_⟩
  refine⟨_,rfl,c,_,_,_,rfl,rfl,aG.of cJ,rfl,?_⟩
  refine⟨_,rfl,c,_,_,_,rfl,rfl,aG.of cJ,rfl,rfl,_,rfl,bu (by decide +kernel) ?_⟩
  refine⟨_,rfl,c,_,_,_,rfl,rfl,aG.of cJ,rfl,rfl,_,rfl,bu (by decide +kernel) ?_⟩
  refine⟨_,rfl,_,_,rfl,rfl,_,rfl,gq (fun cN=>?_) (fun cN=>?_)⟩
  ·have dB:p<0:=of_decide_eq_true cN
   refine el ?_
   rw[if_pos (Or.inl dB)]at aW
   exact aW
  refine⟨_,rfl,_,rfl,aj,_,rfl,.inl (aO.of bC.hd),_,_,rfl,rfl,_,rfl,gq (fun e3=>?_) (fun e3=>?_)⟩
  ·have g5:((x.av.map V.int).length:Int)≤p:=of_decide_eq_true e3
   rw[length_map]at g5
   rw[if_pos (Or.inr g5)]at aW
   exact aW
  have dB:¬p<0:=fun y=>cN (decide_eq_true y)
  have g5:¬(x.av.length:Int)≤p:=fun y=>e3 (decide_eq_true (by rw[length_map];exact y))
  rw[if_neg (fun y=>y.elim dB g5)]at aW
  refine⟨_,rfl,c,_,_,_,rfl,rfl,aG.of cJ,rfl,rfl,_,rfl,dE rfl ?_⟩
  obtain⟨bK,rfl⟩:∃bK:Nat,p=(bK:Int):=⟨p.toNat,by omega⟩
  rw[Int.toNat_natCast]at aW
  refine⟨_,rfl,_,rfl,h,ce,aj,lo,pu,st,pl,x,bK,rfl,bC,fun aT s3=>?_⟩
  have mS:=s3 _ _ cJ
  refine⟨_,rfl,_,rfl,c,_,_,_,rfl,rfl,aG.of mS,rfl,cZ,fun iE Ao=>⟨iE,_,rfl,.inl (aO.of aR),rfl,rfl,_,rfl,?_⟩⟩
  have s4:=bR Ao (.lst [.int (-1),.int d])
  have jn:=q _ (s1.trans (s3.trans s4))
  have jn:Q (.str ((if x.isOpen d=false then some "no dealing" else if (bK:Int)<0∨(x.av.length:Int)≤(bK:Int) then some "no page" else if x.dK (bK:Int).toNat=none∨x.dK (bK:Int).toNat=some d then none else some "taken":Option Str).getD "done")) _:=jn
  rw[aC,if_neg (fun z=>nomatch z),if_neg (fun y=>y.elim dB g5),Int.toNat_natCast]at jn
  rw[Vf]
  cases aZ:x.dK bK with
  | none =>
   rw[aZ,if_pos (Or.inl rfl)]at jn
   refine qD ?_ jn
   exact Or.inl rfl
  | some t =>
   rw[aZ]at jn
   have t0:0≤t:=by
    unfold aq.dK at aZ
    obtain⟨z,hz,e⟩:=Option.map_eq_some_iff.mp aZ
    rw[←e]
    exact aP z (mem_of_find?_eq_some hz)
   by_cases e:t=d
   ·subst e
    rw[if_pos (Or.inr rfl)]at jn
    exact qD (Or.inr rfl) jn
   ·rw[if_neg (fun y=>y.elim (fun z=>nomatch z) fun z=>e (Option.some.inj z))]at jn
    refine pF (fun y=>?_) jn
    rcases y with y | y
    ·have y':t = -1:=y
     omega
    ·exact e y
 | fin d =>
  obtain⟨c,cS,c2,rfl,ai,bz,b3⟩:=f7 bL
  cases bz.str_inv
  cases b3.int_inv
  refine⟨_,rfl,c,_,_,_,rfl,rfl,aG.of ai,rfl,cZ,fun l aE=>⟨l,_,rfl,.inl (aO.of aR),rfl,rfl,_,rfl,?_⟩⟩
  have s1:=bR aE (.lst [.str "put",.str "end",.str "drop"])
  have bC:=b5.same s1
  have cJ:=s1 _ _ ai
  have aW:=q _ s1
  generalize upd H l (.lst [.str "put",.str "end",.str "drop"])=H1 at s1 bC cJ aW ⊢
  have lX:(if false=true then !iw (V.str "end") [V.str "put",V.str "end",V.str "drop"] else iw (V.str "end") [V.str "put",V.str "end",V.str "drop"])=true:=by decide +kernel
  rw[lX]
  have aW:Q (.str (((if x.isOpen d=false then some "no dealing" else none):Option Str).getD "done")) H1:=aW
  refine el ?_
  refine⟨_,rfl,c,_,_,_,rfl,rfl,aG.of cJ,rfl,_,rfl,pu,_,rfl,bC.tA d,_,rfl,?_⟩
  rw[bC.isOpen d]
  cases aC:x.isOpen d with
  | false =>
   rw[aC,if_pos rfl]at aW
   exact el aW
  | true =>
  rw[aC,if_neg (fun z=>nomatch z)]at aW
  refine cV ?_
  refine⟨_,rfl,c,_,_,_,rfl,rfl,aG.of cJ,rfl,rfl,_,rfl,bu (by decide +kernel) ?_⟩
  refine⟨_,rfl,c,_,_,_,rfl,rfl,aG.of cJ,rfl,rfl,_,rfl,bu (by decide +kernel) ?_⟩
  refine⟨_,rfl,c,_,_,_,rfl,rfl,aG.of cJ,rfl,rfl,_,rfl,bu (by decide +kernel) ?_⟩
  refine⟨_,rfl,_,_,rfl,rfl,_,rfl,bu (by decide) ?_⟩
  refine⟨_,rfl,_,rfl,aj,_,rfl,.inl (aO.of bC.hd),_,_,rfl,rfl,_,rfl,bu (by rw[length_map];omega) ?_⟩
  refine⟨_,rfl,c,_,_,_,rfl,rfl,aG.of cJ,rfl,rfl,_,rfl,bu (by decide +kernel) (cV ?_)⟩
  exact aW
 | drop d =>
  obtain⟨c,cS,c2,rfl,ai,bz,b3⟩:=f7 bL
  cases bz.str_inv
  cases b3.int_inv
  refine⟨_,rfl,c,_,_,_,rfl,rfl,aG.of ai,rfl,cZ,fun l aE=>⟨l,_,rfl,.inl (aO.of aR),rfl,rfl,_,rfl,?_⟩⟩
  have s1:=bR aE (.lst [.str "put",.str "end",.str "drop"])
  have bC:=b5.same s1
  have cJ:=s1 _ _ ai
  have aW:=q _ s1
  generalize upd H l (.lst [.str "put",.str "end",.str "drop"])=H1 at s1 bC cJ aW ⊢
  have lX:(if false=true then !iw (V.str "drop") [V.str "put",V.str "end",V.str "drop"] else iw (V.str "drop") [V.str "put",V.str "end",V.str "drop"])=true:=by decide +kernel
  rw[lX]
  have aW:Q (.str (((if x.isOpen d=false then some "no dealing" else none):Option Str).getD "done")) H1:=aW
  refine el ?_
  refine⟨_,rfl,c,_,_,_,rfl,rfl,aG.of cJ,rfl,_,rfl,pu,_,rfl,bC.tA d,_,rfl,?_⟩
  rw[bC.isOpen d]
  cases aC:x.isOpen d with
  | false =>
   rw[aC,if_pos rfl]at aW
   exact el aW
  | true =>
  rw[aC,if_neg (fun z=>nomatch z)]at aW
  refine cV ?_
  refine⟨_,rfl,c,_,_,_,rfl,rfl,aG.of cJ,rfl,rfl,_,rfl,bu (by decide +kernel) ?_⟩
  refine⟨_,rfl,c,_,_,_,rfl,rfl,aG.of cJ,rfl,rfl,_,rfl,bu (by decide +kernel) ?_⟩
  refine⟨_,rfl,c,_,_,_,rfl,rfl,aG.of cJ,rfl,rfl,_,rfl,bu (by decide +kernel) ?_⟩
  refine⟨_,rfl,_,_,rfl,rfl,_,rfl,bu (by decide) ?_⟩
  refine⟨_,rfl,_,rfl,aj,_,rfl,.inl (aO.of bC.hd),_,_,rfl,rfl,_,rfl,bu (by rw[length_map];omega) ?_⟩
  refine⟨_,rfl,c,_,_,_,rfl,rfl,aG.of cJ,rfl,rfl,_,rfl,bu (by decide +kernel) (cV ?_)⟩
  exact aW
 | look p =>
  obtain⟨c,cS,c2,rfl,ai,bz,b3⟩:=f7 bL
  cases bz.str_inv
  cases b3.int_inv
  refine⟨_,rfl,c,_,_,_,rfl,rfl,aG.of ai,rfl,cZ,fun l aE=>⟨l,_,rfl,.inl (aO.of aR),rfl,rfl,_,rfl,?_⟩⟩
  have s1:=bR aE (.lst [.str "put",.str "end",.str "drop"])
  have bC:=b5.same s1
  have cJ:=s1 _ _ ai
  have aW:=q _ s1
  generalize upd H l (.lst [.str "put",.str "end",.str "drop"])=H1 at s1 bC cJ aW ⊢
  have lX:(if false=true then !iw (V.str "look") [V.str "put",V.str "end",V.str "drop"] else iw (V.str "look") [V.str "put",V.str "end",V.str "drop"])=false:=by decide +kernel
  rw[lX]
  have aW:Q (.str (((if p<0∨(x.av.length:Int)≤p then some "no page" else none):Option Str).getD "done")) H1:=aW
  refine cV (cV ?_)
  refine⟨_,rfl,c,_,_,_,rfl,rfl,aG.of cJ,rfl,rfl,_,rfl,bu (by decide +kernel) ?_⟩
  refine⟨_,rfl,c,_,_,_,rfl,rfl,aG.of cJ,rfl,rfl,_,rfl,dE rfl (el ?_)⟩
  refine⟨_,rfl,c,_,_,_,rfl,rfl,aG.of cJ,rfl,?_⟩
  refine⟨_,rfl,_,_,rfl,rfl,_,rfl,gq (fun cN=>?_) (fun cN=>?_)⟩
  ·have dB:p<0:=of_decide_eq_true cN
   refine el ?_
   rw[if_pos (Or.inl dB)]at aW
   exact aW
  refine⟨_,rfl,_,rfl,aj,_,rfl,.inl (aO.of bC.hd),_,_,rfl,rfl,_,rfl,gq (fun e3=>?_) (fun e3=>?_)⟩
  ·have g5:((x.av.map V.int).length:Int)≤p:=of_decide_eq_true e3
   rw[length_map]at g5
   rw[if_pos (Or.inr g5)]at aW
   exact aW
  have dB:¬p<0:=fun y=>cN (decide_eq_true y)
  have g5:¬(x.av.length:Int)≤p:=fun y=>e3 (decide_eq_true (by rw[length_map];exact y))
  rw[if_neg (fun y=>y.elim dB g5)]at aW
  refine⟨_,rfl,c,_,_,_,rfl,rfl,aG.of cJ,rfl,rfl,_,rfl,bu (by decide +kernel) (cV ?_)⟩
  exact aW
 | carry p =>
  obtain⟨c,cS,c2,rfl,ai,bz,b3⟩:=f7 bL
  cases bz.str_inv
  cases b3.int_inv
  refine⟨_,rfl,c,_,_,_,rfl,rfl,aG.of ai,rfl,cZ,fun l aE=>⟨l,_,rfl,.inl (aO.of aR),rfl,rfl,_,rfl,?_⟩⟩
  have s1:=bR aE (.lst [.str "put",.str "end",.str "drop"])
  have bC:=b5.same s1
  have cJ:=s1 _ _ ai
  have aW:=q _ s1
  generalize upd H l (.lst [.str "put",.str "end",.str "drop"])=H1 at s1 bC cJ aW ⊢
  have lX:(if false=true then !iw (V.str "carry") [V.str "put",V.str "end",V.str "drop"] else iw (V.str "carry") [V.str "put",V.str "end",V.str "drop"])=false:=by decide +kernel
  rw[lX]
  have aW:Q (.str (((if p<0∨(x.av.length:Int)≤p then some "no page" else none):Option Str).getD "done")) H1:=aW
  refine cV (cV ?_)
  refine⟨_,rfl,c,_,_,_,rfl,rfl,aG.of cJ,rfl,rfl,_,rfl,bu (by decide +kernel) ?_⟩
  refine⟨_,rfl,c,_,_,_,rfl,rfl,aG.of cJ,rfl,rfl,_,rfl,bu (by decide +kernel) ?_⟩
  refine⟨_,rfl,c,_,_,_,rfl,rfl,aG.of cJ,rfl,rfl,_,rfl,dE rfl ?_⟩
  refine⟨_,rfl,c,_,_,_,rfl,rfl,aG.of cJ,rfl,?_⟩
  refine⟨_,rfl,_,_,rfl,rfl,_,rfl,gq (fun cN=>?_) (fun cN=>?_)⟩
  ·have dB:p<0:=of_decide_eq_true cN
   refine el ?_
   rw[if_pos (Or.inl dB)]at aW
   exact aW
  refine⟨_,rfl,_,rfl,aj,_,rfl,.inl (aO.of bC.hd),_,_,rfl,rfl,_,rfl,gq (fun e3=>?_) (fun e3=>?_)⟩
  ·have g5:((x.av.map V.int).length:Int)≤p:=of_decide_eq_true e3
   rw[length_map]at g5
   rw[if_pos (Or.inr g5)]at aW
   exact aW
  have dB:¬p<0:=fun y=>cN (decide_eq_true y)
  have g5:¬(x.av.length:Int)≤p:=fun y=>e3 (decide_eq_true (by rw[length_map];exact y))
  rw[if_neg (fun y=>y.elim dB g5)]at aW
  refine⟨_,rfl,c,_,_,_,rfl,rfl,aG.of cJ,rfl,rfl,_,rfl,bu (by decide +kernel) (cV ?_)⟩
  exact aW
 | cut =>
  obtain⟨c,cS,rfl,ai,bz⟩:=qp bL
  cases bz.str_inv
  refine⟨_,rfl,c,_,_,_,rfl,rfl,aG.of ai,rfl,cZ,fun l aE=>⟨l,_,rfl,.inl (aO.of aR),rfl,rfl,_,rfl,?_⟩⟩
  have s1:=bR aE (.lst [.str "put",.str "end",.str "drop"])
  have bC:=b5.same s1
  have cJ:=s1 _ _ ai
  have aW:=q _ s1
  generalize upd H l (.lst [.str "put",.str "end",.str "drop"])=H1 at s1 bC cJ aW ⊢
  have lX:(if false=true then !iw (V.str "cut") [V.str "put",V.str "end",V.str "drop"] else iw (V.str "cut") [V.str "put",V.str "end",V.str "drop"])=false:=by decide +kernel
  rw[lX]
  have aW:Q (.str ((none:Option Str).getD "done")) H1:=aW
  refine cV (cV ?_)
  refine⟨_,rfl,c,_,_,_,rfl,rfl,aG.of cJ,rfl,rfl,_,rfl,bu (by decide +kernel) ?_⟩
  refine⟨_,rfl,c,_,_,_,rfl,rfl,aG.of cJ,rfl,rfl,_,rfl,bu (by decide +kernel) ?_⟩
  refine⟨_,rfl,c,_,_,_,rfl,rfl,aG.of cJ,rfl,rfl,_,rfl,bu (by decide +kernel) ?_⟩
  refine⟨_,rfl,_,_,rfl,rfl,_,rfl,bu (by decide) ?_⟩
  refine⟨_,rfl,_,rfl,aj,_,rfl,.inl (aO.of bC.hd),_,_,rfl,rfl,_,rfl,bu (by rw[length_map];omega) ?_⟩
  refine⟨_,rfl,c,_,_,_,rfl,rfl,aG.of cJ,rfl,rfl,_,rfl,bu (by decide +kernel) (cV ?_)⟩
  exact aW
theorem Ck:dI ["_law_house","_law_deed","_law_page","_law_old"] qB (cR CT):=d2
theorem T8 {fx:Addr}{gC:FuncData}{hL:Addr}{iG:FuncData}(F:bW K "_law_end_in" "_law_end_in" CT f fd) (B:eY mg) (od:zU mg) (i8:br P w K mg base bX 1 fx gC nG uY) (i5:Binds K gC nG []) (nZ:keepIn K (.ref fx)=true) (iZ:mg "_law_stroke_in"=some (.ref fx)) (mj:br P w K mg base bX 2 hL iG tH Cc) (md:Binds K iG tH []) (xw:keepIn K (.ref hL)=true) (kj:mg "_law_put_in"=some (.ref hL)):br P w K mg base bX 3 f fd qB JE:=by
 refine F.ok Ck (fun vs H Q E h=>?_) (fun cy A outer s H vs Q E aD h=>?_)
 ·obtain⟨h,ce,aj,lo,pu,st,pl,x,v,o5,d,rfl,_⟩:=h
  rfl
 obtain⟨h,ce,aj,lo,pu,st,pl,x,v,o5,d,rfl,b5,bL,aC,oJ,z,q⟩:=h
 have bf:=g_ aD
 refine⟨_,(bq (cI (cM dJ (bE b6 (ah 1) aV (fun _ _=>rfl)) bB (cc _)) (bg (hP PassesOwn.never rfl (ku (R_ aD.hd rfl B.lst rfl od.rev (eT bf (eT bf (ah 0) bB (fun _ _=>rfl)) (bE b6 (ah 1) aV (fun _ _=>rfl)) (fun _ _=>rfl)))) (pq rfl (ja (ff (i:=2) Ck.a_ rfl (Or.inl rfl)) (ja (ff (i:=3) Ck.a_ rfl (Or.inl rfl)) pd))) (bg (dH (dR mj (cE aD) rfl kj xw md .nil de (au (ah 0) (au (bE b6 (ah 1) aV (fun _ _=>rfl)) (au (ah 2) (au (ah 3) aN))))))))) dk) (bq (dH (dR i8 (cE aD) rfl iZ nZ i5 .nil de (au (ah 0) (au (gp (au bB (au (gp (au bB (au (bE b6 (ah 1) aV (fun _ _=>rfl)) aN))) aN))) aN)))) (bg (dH (B4 (eT bf (ah 0) bB (fun _ _=>rfl)) (bE b6 (ah 1) aV (fun _ _=>rfl)) ⟨rfl,rfl,rfl,rfl⟩))))),?_⟩
 obtain⟨c,c2,ev,ai,b3,iA⟩:∃c w,v=.ref c∧H c=some (.tup [.str w,.int d])∧(o5=true→w="drop")∧(o5=false→w="end"):=by
  cases o5 with
  | true =>
   obtain⟨c,cS,c2,rfl,ai,bz,b3⟩:=f7 (a:=.str "drop") (b:=.int d) bL
   cases bz.str_inv
   cases b3.int_inv
   exact⟨c,_,rfl,ai,fun _=>rfl,(fun z=>nomatch z)⟩
  | false =>
   obtain⟨c,cS,c2,rfl,ai,bz,b3⟩:=f7 (a:=.str "end") (b:=.int d) bL
   cases bz.str_inv
   cases b3.int_inv
   exact⟨c,_,rfl,ai,(fun z=>nomatch z),fun _=>rfl⟩
 subst ev
 cases o5 with
 | true =>
  cases b3 rfl
  refine⟨_,rfl,c,_,_,_,rfl,rfl,aG.of ai,rfl,rfl,_,rfl,dE rfl ?_⟩
  obtain⟨i,a,ys,aL,hw,bk,pP,cF⟩:=b5.qs aC
  have lV:=pP.length
  rw[length_map]at lV
  refine⟨_,rfl,h,_,rfl,b5.kZ,_,rfl,c,_,_,_,rfl,rfl,aG.of ai,rfl,pu,_,rfl,cF,a,ys,rfl,aO.of bk,fun l aE=>⟨l,rfl,⟨_,aO.of aR⟩,?_⟩⟩
  have s1:=bR aE (.lst ys.reverse)
  have aH:(upd H l (.lst ys.reverse)) l=some (.lst ys.reverse):=aR
  have nl:=b5.there aE
  have bC:=b5.same s1
  have pO:=bl.mono s1 _ _ pP
  have cJ:=s1 _ _ ai
  generalize upd H l (.lst ys.reverse)=H1 at s1 aH bC pO cJ ⊢
  refine ng (K:=K) (a:=l) (xs:=ys.reverse) (fun j σ ay=>∃(cg dO:Option V) (lo':Addr),σ=[some (.ref h),some (.ref c),cg,dO]∧bw ay h ce aj lo' pu st pl (x.eb d ((x.c5 d).reverse.take j))∧jd (own h ce aj pu st pl) lo lo' H1 ay)
   ⟨none,none,lo,rfl,bC,(gX.refl _ _).l⟩ (fun j σ ay _ ⟨_,_,_,_,_,cg⟩=>aO.of (cg.1 _ _ nl aH)) ?_ ?_
  ·rintro j v σ ay di ⟨cg,dO,lo',rfl,cj,ew⟩
   have ZO:j<ys.length:=by
    have:=(List.getElem?_eq_some_iff.mp di).1
    rw[length_reverse]at this
    exact this
   have tZ:ys[ys.length - 1 - j]?=some v:=by rw[getElem?_reverse ZO]at di;exact di
   obtain⟨jj,dm,dW⟩:=o_ pO tZ
   have Yk:(x.c5 d).reverse[j]?=some jj:=by
    rw[getElem?_reverse (by omega),←lV]
    exact dm
   have kt:=bC.e5 ew.1
   obtain⟨b,e6,eB,rfl,aa,bx,aW⟩:=f7 (a:=.int (jj.1:Nat)) (b:=.int jj.2) (Rep.keep kt _ _ (hn jj) dW)
   cases bx.int_inv
   cases aW.int_inv
   have mR:jj.1<x.av.length:=oJ jj (mem_of_getElem? dm)
   refine⟨b,_,rfl,aG.of aa,rfl,_,_,rfl,_,_,rfl,rfl,?_⟩
   refine⟨_,rfl,_,rfl,c,_,_,_,rfl,rfl,aG.of (kt _ _ cJ),rfl,_,rfl,_,rfl,h,ce,aj,lo',pu,st,pl,_,d,jj.1,jj.2,rfl,cj,by rw[uO];exact mR,aq.fits.eb (k:=1) (z.mono ?_) (fun y ck=>oJ y (mem_reverse.mp (mem_of_mem_take ck))),fun eN cO dV hF=>?_⟩
   ·rw[length_take,length_reverse]
    omega
   ·rw[←Hu]at dV
    have i4:(x.c5 d).reverse.take (j+1)=(x.c5 d).reverse.take j++[jj]:=by
     rw[take_add_one,Yk]
     rfl
    rw[←i4]at dV
    exact⟨_,_,eN,rfl,dV,ew.trans hF⟩
  ·rintro σ ay ⟨cg,dO,lo',rfl,cj,ew⟩
   have du:ys.reverse.length=(x.c5 d).reverse.length:=by rw[length_reverse,length_reverse];exact lV
   rw[du,take_length,←gS]at cj
   have mS:=bC.e5 ew.1 _ _ cJ
   have z2:(x.dM d).aK=x.aK:=by rw[gS,mq]
   have AH:(x.dM d).fits 1:=by
    rw[gS]
    exact aq.fits.eb (k:=1) (by rw[length_reverse];exact z) fun y ck=>oJ y (mem_reverse.mp ck)
   have qQ:(x.dM d).isOpen d=true:=by unfold aq.isOpen;rw[z2];exact aC
   have fE:∀eN af,bw af h ce aj eN pu st (pl.filter fun z=>z.1 != d) ((x.dM d).fC d)→jd (own h ce aj pu st pl) lo' eN ay af→Q .cP af:=fun eN af dV hF=>q eN af dV ((bO.ew s1).l.trans (ew.trans hF))
   refine⟨_,rfl,_,rfl,c,_,_,_,rfl,rfl,aG.of mS,rfl,cZ,fun t1 r1=>⟨cZ,fun eE r0=>?_⟩⟩
   have s1:=bR r1 (.tup [.str "end",.int d])
   have aH:(upd ay t1 (.tup [.str "end",.int d])) t1=some (.tup [.str "end",.int d]):=aR
   have vJ:(upd ay t1 (.tup [.str "end",.int d])) eE=none:=r0
   have s2:=bR vJ (.tup [.str "line",.ref t1])
   have ia:=s1.trans s2
   refine⟨h,ce,aj,lo',pu,st,pl,(x.dM d),.ref eE,.line (.fin d),rfl,cj.same ia,.g9 aR (.cons .ofStr (.cons (.g9 (s2 _ _ aH) (.cons .ofStr (.cons .ofInt .nil))) .nil)),True.intro,AH,fun eN dC gc hg=>?_⟩
   have qW:=(cj.same ia).e5 hg.1 _ _ (ia _ _ mS)
   have aX:=gc.isOpen d
   have EP:((x.dM d).c9 (.line (.fin d))).isOpen d=true:=qQ
   rw[EP]at aX
   obtain⟨sq,rZ⟩:=Option.isSome_iff_exists.mp aX
   refine⟨_,rfl,h,_,rfl,gc.kZ,pu,rfl,.inl ⟨_,.inl gc.aF⟩,_,rfl,c,_,_,_,rfl,rfl,aG.of qW,rfl,_,Sum.inl d,sq,gc.aF,rfl,rZ,?_⟩
   exact fE eN _ (gc.ended d) ((bO.ew ia).l.trans (hg.trans (kv (bw.mp ..)).l))
 | false =>
  cases iA rfl
  refine⟨_,rfl,c,_,_,_,rfl,rfl,aG.of ai,rfl,rfl,_,rfl,bu (by decide +kernel) ?_⟩
  have fE:∀eN af,bw af h ce aj eN pu st (pl.filter fun z=>z.1 != d) (x.fC d)→jd (own h ce aj pu st pl) lo eN H af→Q .cP af:=q
  have cj:=b5
  have mS:=ai
  have qQ:=aC
  have AH:x.fits 1:=z.mono (by omega)
  refine⟨_,rfl,_,rfl,c,_,_,_,rfl,rfl,aG.of mS,rfl,cZ,fun t1 r1=>⟨cZ,fun eE r0=>?_⟩⟩
  have s1:=bR r1 (.tup [.str "end",.int d])
  have aH:(upd H t1 (.tup [.str "end",.int d])) t1=some (.tup [.str "end",.int d]):=aR
  have vJ:(upd H t1 (.tup [.str "end",.int d])) eE=none:=r0
  have s2:=bR vJ (.tup [.str "line",.ref t1])
  have ia:=s1.trans s2
  refine⟨h,ce,aj,lo,pu,st,pl,x,.ref eE,.line (.fin d),rfl,cj.same ia,.g9 aR (.cons .ofStr (.cons (.g9 (s2 _ _ aH) (.cons .ofStr (.cons .ofInt .nil))) .nil)),True.intro,AH,fun eN dC gc hg=>?_⟩
  have qW:=(cj.same ia).e5 hg.1 _ _ (ia _ _ mS)
  have aX:=gc.isOpen d
  have EP:(x.c9 (.line (.fin d))).isOpen d=true:=qQ
  rw[EP]at aX
  obtain⟨sq,rZ⟩:=Option.isSome_iff_exists.mp aX
  refine⟨_,rfl,h,_,rfl,gc.kZ,pu,rfl,.inl ⟨_,.inl gc.aF⟩,_,rfl,c,_,_,_,rfl,rfl,aG.of qW,rfl,_,Sum.inl d,sq,gc.aF,rfl,rZ,?_⟩
  exact fE eN _ (gc.ended d) ((bO.ew ia).l.trans (hg.trans (kv (bw.mp ..)).l))
def HN:dj:=fun vs H Q _=>∃(h ce aj lo pu st:Addr) (pl:List (Int × Addr)) (x:aq) (v:V) (e:b7) (n:Nat),vs=[.ref h,v]∧bw H h ce aj lo pu st pl x∧Rep H e.D v∧x.good n∧n≤110 ∧
 ∀lo' hb af,bw af h ce aj lo' pu st hb (x.a4 e).1→jd (own h ce aj pu st pl) lo lo' H af→(∀b∈own h ce aj pu st hb,b∈own h ce aj pu st pl∨H b=none)→Q (x.a4 e).2.v af
theorem K4:dI ["_law_house","_law_deed","_law_word"] qB (cR BO):=d2
theorem RW {uw:Addr}{xK:FuncData}{l9:Addr}{n5:FuncData}{hL:Addr}{iG:FuncData}{sC:Addr}{xM:FuncData}{jS:Addr}{lG:FuncData}{jR:Addr}{lF:FuncData}(F:bW K "_law_answered" "_law_answered" BO f fd) (B:eY mg) (Bb:br P w K mg base bX 4 uw xK zF Kx) (A4:Binds K xK zF []) (QJ:keepIn K (.ref uw)=true) (AU:mg "_law_full"=some (.ref uw)) (sR:br P w K mg base bX 2 l9 n5 zE Ig) (sG:Binds K n5 zE []) (Gr:keepIn K (.ref l9)=true) (o3:mg "_law_refusal"=some (.ref l9)) (mj:br P w K mg base bX 2 hL iG tH Cc) (md:Binds K iG tH []) (xw:keepIn K (.ref hL)=true) (kj:mg "_law_put_in"=some (.ref hL)) (GE:br P w K mg base bX 3 sC xM qB JE) (GP:Binds K xM qB []) (Gv:keepIn K (.ref sC)=true) (Gp:mg "_law_end_in"=some (.ref sC)) (qf:br P w K mg base bX 2 jS lG tK BL) (qa:Binds K lG tK []) (xx:keepIn K (.ref jS)=true) (p2:mg "_law_carry_in"=some (.ref jS)) (qe:br P w K mg base bX 3 jR lF tL Cf) (p_:Binds K lF tL []) (xr:keepIn K (.ref jR)=true) (p1:mg "_law_cut_in"=some (.ref jR)):br P w K mg base bX 5 f fd qB HN:=by
 refine F.ok K4 (fun vs H Q E h=>?_) (fun cy A outer s H vs Q E aD h=>?_)
 ·obtain⟨h,ce,aj,lo,pu,st,pl,x,v,e,n,rfl,_⟩:=h
  rfl
 obtain⟨h,ce,aj,lo,pu,st,pl,x,v,e,nn,rfl,b5,bL,g,aP,q⟩:=h
 have bf:=g_ aD
 refine⟨_,(bq (cI (cM dJ (bE b6 (ah 1) aV (fun _ _=>rfl)) bB (cc _)) (bq (mA bf (ah 0) bB (dg ht (eT bf (ah 0) bB (fun _ _=>rfl)) aV) rfl) (bq (cI (g8 (dR Bb (cE aD) rfl AU QJ A4 .nil de (au (ah 0) (au aV aN)))) (bg (c_ bB)) dk) (bq (mA bf (eT bf (ah 0) bB (fun _ _=>rfl)) (dg rC (eT bf (ah 0) bB (fun _ _=>rfl)) aV) (fi aN) rfl) (bg (c_ (dg rC (eT bf (ah 0) bB (fun _ _=>rfl)) aV)))))) dk) (bq (dc (i:=2) K4.a_ rfl (Or.inl rfl) (dR sR (cE aD) rfl o3 Gr sG .nil de (au (eT bf (ah 0) bB (fun _ _=>rfl)) (au (eT bf (ah 0) bB (fun _ _=>rfl)) (au (ah 1) aN))))) (bq (cI (cM kY (ah 2) bB (cc _)) (bg (c_ (ah 2))) dk) (bq (cI (cM dJ (bE b6 (ah 1) aV (fun _ _=>rfl)) bB (cc _)) (bq (cI (g8 (dR Bb (cE aD) rfl AU QJ A4 .nil de (au (ah 0) (au aV aN)))) (bg (c_ bB)) dk) (bq (dH (iS plainAttrs_list PySem.F.slot_list_append PySem.F.type_list_append ie (eT bf (eT bf (ah 0) bB (fun _ _=>rfl)) (bE b6 (ah 1) aV (fun _ _=>rfl)) (fun _ _=>rfl)) (au (gp (au (bE b6 (ah 1) aV (fun _ _=>rfl)) (au (bE fq (eT bf (ah 0) bB (fun _ _=>rfl)) (bE b6 (ah 1) aV (fun _ _=>rfl)) (fun _ _=>rfl)) aN))) aN))) (bg (dH (dR mj (cE aD) rfl kj xw md .nil de (au (ah 0) (au (bE b6 (ah 1) aV (fun _ _=>rfl)) (au (bE b6 (ah 1) aV (fun _ _=>rfl)) (au (bE b6 (ah 1) aV (fun _ _=>rfl)) aN))))))))) (bg (cI (mC (cM dJ (bE b6 (ah 1) aV (fun _ _=>rfl)) bB (cc _)) (cM dJ (bE b6 (ah 1) aV (fun _ _=>rfl)) bB (cc _))) (bg (dH (dR GE (cE aD) rfl Gp Gv GP .nil de (au (ah 0) (au (ah 1) aN))))) (bg (cI (cM dJ (bE b6 (ah 1) aV (fun _ _=>rfl)) bB (cc _)) (bg (c_ (bE fq (eT bf (ah 0) bB (fun _ _=>rfl)) (bE b6 (ah 1) aV (fun _ _=>rfl)) (fun _ _=>rfl)))) (bg (cI (cM dJ (bE b6 (ah 1) aV (fun _ _=>rfl)) bB (cc _)) (bg (dH (dR qf (cE aD) rfl p2 xx qa .nil de (au (ah 0) (au (bE b6 (ah 1) aV (fun _ _=>rfl)) aN))))) (bg (dH (dR qe (cE aD) rfl p1 xr p_ .nil de (au (ah 0) aN))))))))))) (bg (c_ bB)))))),?_⟩
 cases e with
 | begin =>
  obtain⟨c,cS,rfl,ai,bz⟩:=qp bL
  cases bz.str_inv
  refine⟨_,rfl,c,_,_,_,rfl,rfl,aG.of ai,rfl,rfl,_,rfl,dE rfl ?_⟩
  have aU:x.a4 .begin=if (x.began.full 1).2=true then ((x.began.full 1).1,.word "no room") else ((x.began.full 1).1.opened,.num x.begun):=rfl
  refine⟨_,rfl,h,_,rfl,b5.C9,_,_,rfl,rfl,_,rfl,h,_,rfl,b5.VN _,?_⟩
  have bC:bw _ h ce aj lo pu st pl x.began:=b5.setB (n:=x.begun+1) (b:=(x.begun:Int)+1) (by omega)
  have cg:gX (own h ce aj pu st pl) H (upd H h (.bS (putK (aS ce aj lo pu st x.room x.begun) (Sum.inr "begun") (.int ((x.begun:Int)+1))))):=kv (bw.o2 ..)
  generalize upd H h (.bS (putK (aS ce aj lo pu st x.room x.begun) (Sum.inr "begun") (.int ((x.begun:Int)+1))))=ay at bC cg ⊢
  have m9:x.began.fits (x.began.av.length+1):=g.fits (by omega) (by have:=g.e2;show x.av.length+1≤_;omega)
  refine⟨_,rfl,h,ce,aj,lo,pu,st,pl,x.began,1,rfl,bC,(by have:=g.pl;show x.aK.length≤200;omega),(by have:=g.e2;show x.av.length≤1000;omega),m9,fun lo' aT cj dO=>⟨_,rfl,?_⟩⟩
  cases hf:(x.began.full 1).2 with
  | true =>
   rw[hf,if_pos rfl]at aU
   refine el ?_
   rw[aU]at q
   exact q lo' pl aT cj (cg.l.trans dO) fun b aa=>.inl aa
  | false =>
   rw[hf,if_neg Bool.false_ne_true]at aU
   rw[aU]at q
   refine cV ?_
   have ea:(x.began.full 1).1.begun=x.begun+1:=mu
   have cp:(x.began.full 1).1.aK=x.aK:=i_
   have iF:(x.began.full 1).1.opened={ (x.began.full 1).1 with aK:=(x.began.full 1).1.aK++[((((x.began.full 1).1.begun:Nat):Int) - 1,[])] }:=rfl
   rw[iF]at q
   generalize (x.began.full 1).1=y at cj q ea cp
   have nH:y.isOpen ((y.begun:Int) - 1)=false:=by
    cases ck:y.isOpen ((y.begun:Int) - 1) with
    | false=>rfl
    | true =>
     have m:=ks ck
     rw[cp]at m
     have:=(g.d1 _ m).2.1
     rw[ea]at this
     have ach:(((x.begun+1:Nat):Int) - 1)<(x.begun:Nat):=this
     omega
   refine⟨cZ,fun u oG=>?_⟩
   have l6:=cj.there oG
   have s4:=bR oG (.lst [])
   have b1:(upd aT u (.lst [])) u=some (.lst []):=aR
   have nul:u≠lo':=by
    obtain⟨xs,du,_⟩:=cj.aE
    exact (cB du oG).symm
   have Zj:u∉own h ce aj pu st pl→H u=none:=fun aP=>by
    cases e:H u with
    | none=>rfl
    | some bY =>
     have:=(cg.trans dO.1) u bY aP e
     rw[oG]at this
     cases this
   have dV:=cj.same s4
   generalize upd aT u (.lst [])=cO at s4 b1 dV ⊢
   have EB:(d3 pl).length<sizeLine:=ih (by
    have aH:(d3 pl).length=pl.length:=length_map _
    have aM:=b5.mH
    have:=g.pl
    omega)
   refine⟨_,rfl,h,_,rfl,dV.kZ,_,rfl,h,_,rfl,dV.C9,_,_,rfl,rfl,pu,_,rfl,.inl ⟨_,Sum.inl ((y.begun:Int) - 1),dV.aF,rfl,EB,rfl⟩,?_⟩
   have gc:=dV.opened (d:=(y.begun:Int) - 1) b1 l6 nul nH
   refine⟨_,rfl,h,_,rfl,gc.C9,_,_,rfl,rfl,?_⟩
   have kN:=q lo' _ _ gc (cg.l.trans (dO.trans ((bO.ew s4).l.trans (kv (bw.mp ..)).l))) fun b aa=>by
    rw[pe]at aa
    rcases aa with e | e | e | e | e | ⟨z,hz,e⟩
    ·rw[e];exact .inl (bw.o2 ..)
    ·rw[e];exact .inl (bw.sv ..)
    ·rw[e];exact .inl (bw.xm ..)
    ·rw[e];exact .inl (bw.mp ..)
    ·rw[e];exact .inl (bw.ms ..)
    ·rcases mem_append.mp hz with hz | hz
     ·rw[←e];exact .inl (bw.xj hz ..)
     ·have gA:=mem_singleton.mp hz
      rw[gA]at e
      rw[←e]
      exact .inr (Zj l6)
   have ev:V.int ((y.begun:Int) - 1)=(cW.num x.begun).v:=by
    show V.int _=V.int _
    rw[ea]
    congr 1
    omega
   show Q (V.int ((y.begun:Int) - 1)) _
   rw[ev]
   exact kN
 | put d p n =>
  obtain⟨c,cS,c2,mW,w6,rfl,ai,bz,b3,h4,nW⟩:=yC bL
  cases bz.str_inv
  cases b3.int_inv
  cases h4.int_inv
  cases nW.int_inv
  refine⟨_,rfl,c,_,_,_,rfl,rfl,aG.of ai,rfl,rfl,_,rfl,bu (by decide +kernel) ?_⟩
  refine⟨_,rfl,h,_,rfl,b5.kZ,_,rfl,h,_,rfl,b5.lN,_,rfl,h,ce,aj,lo,pu,st,pl,x,.ref c,(.put d p n),rfl,b5,bL,g.fV,fun z hz=>(g.d1 z hz).1,fun ay s2=>?_⟩
  have bC:=b5.same s2
  have cJ:=s2 _ _ ai
  cases dp:x.refusal (.put d p n) with
  | some ww =>
   have aU:x.a4 (.put d p n)=(x,.word ww):=by unfold aq.a4;rw[dp]
   rw[aU]at q
   refine⟨_,rfl,rfl,_,rfl,pF (qi dp) ?_⟩
   exact⟨_,rfl,q lo pl ay bC ((bO.ew s2).l) fun b aa=>.inl aa⟩
  | none =>
  have aU:x.a4 (.put d p n)=x.gg (.put d p n):=by unfold aq.a4;rw[dp]
  rw[aU]at q
  refine⟨_,rfl,rfl,_,rfl,qD rfl ?_⟩
  refine⟨_,rfl,c,_,_,_,rfl,rfl,aG.of cJ,rfl,rfl,_,rfl,dE rfl ?_⟩
  have aC:x.isOpen d=true:=hW (.inl ⟨p,n,rfl⟩) dp
  obtain⟨o1,eV⟩:=nc (.inl ⟨d,n,rfl⟩) dp
  obtain⟨bK,rfl⟩:∃bK:Nat,p=(bK:Int):=⟨p.toNat,by omega⟩
  have j9:bK<x.av.length:=by omega
  have d4:x.gg (.put d (bK:Int) n)=if (x.full 2).2=true then ((x.full 2).1,.word "no room") else ((((x.full 2).1.c1 d (bK:Int).toNat).putIn d (bK:Int).toNat n),.word "done"):=rfl
  rw[Int.toNat_natCast]at d4
  have m9:x.fits (x.av.length+1+1):=g.fits (by omega) (by have:=g.e2;omega)
  refine⟨_,rfl,h,ce,aj,lo,pu,st,pl,x,2,rfl,bC,(by have:=g.pl;omega),(by have:=g.e2;omega),m9.mono (by omega),fun lo' aT cj dO=>⟨_,rfl,?_⟩⟩
  have gL:=(bO.ew (gv:=own h ce aj pu st pl) s2).l.trans dO
  cases hf:(x.full 2).2 with
  | true =>
   rw[hf,if_pos rfl]at d4
   refine el ?_
   rw[d4]at q
   exact q lo' pl aT cj gL fun b aa=>.inl aa
  | false =>
   rw[hf,if_neg Bool.false_ne_true]at d4
   rw[d4]at q
   refine cV ?_
   have cp:(x.full 2).1.aK=x.aK:=i_
   have wN:(x.full 2).1.av=x.av:=oh
   have rd:(x.full 2).1.fits 1:=aq.fits.full m9
   have mS:=bC.e5 dO.1 _ _ cJ
   generalize (x.full 2).1=y at cj q cp wN rd
   have r2:y.isOpen d=true:=by unfold aq.isOpen;rw[cp];exact aC
   have wt:bK<y.av.length:=by rw[wN];exact j9
   obtain⟨i,a,ys,aL,hw,bk,pP,cF⟩:=cj.qs r2
   obtain⟨o,fV,e2⟩:=cj.q2 wt
   have iF:y.av.getD bK 0=o:=by rw[getD_eq_getElem?_getD,fV];rfl
   have lV:=pP.length
   rw[length_map]at lV
   have jo:(y.c5 d).length≤110:=by
    have m:=ks r2
    rw[cp]at m
    have cz:(y.c5 d).length≤_:=(g.d1 _ m).2.2.1
    omega
   refine⟨_,rfl,h,_,rfl,cj.kZ,_,rfl,c,_,_,_,rfl,rfl,aG.of mS,rfl,pu,_,rfl,cF,.inl ⟨rfl,_,aO.of bk⟩,_,rfl,c,_,_,_,rfl,rfl,aG.of mS,rfl,_,rfl,h,_,rfl,cj.lN,_,rfl,c,_,_,_,rfl,rfl,aG.of mS,rfl,aj,_,_,_,rfl,rfl,aO.of cj.hd,e2,cZ,fun t aZ=>?_⟩
   have s4:=bR aZ (.tup [.int (bK:Nat),.int o])
   have b1:(upd aT t (.tup [.int (bK:Nat),.int o])) t=some (.tup [.int (bK:Nat),.int o]):=aR
   have dV:=cj.same s4
   have OG:=s4 _ _ mS
   generalize upd aT t (.tup [.int (bK:Nat),.int o])=cO at s4 b1 dV OG ⊢
   refine⟨a,ys,.ref t,rfl,rfl,s4 _ _ bk,ih (by omega),?_⟩
   have gc:=dV.c1 (y:=(bK,o)) (v:=.ref t) aL (s4 _ _ bk) (.g9 b1 (.cons .ofInt (.cons .ofInt .nil)))
   have Gn:a∈own h ce aj pu st pl:=bw.xj (mem_of_getElem? aL) ..
   have hg:gX (own h ce aj pu st pl) cO (upd cO a (.lst (ys++[.ref t]))):=kv Gn
   have qW:=dV.e5 hg _ _ OG
   have gI:y.c1 d bK={ y with aK:=y.aK.map fun z=>if z.1=d then (z.1,z.2++[(bK,y.av.getD bK 0)]) else z }:=rfl
   rw[iF]at gI
   rw[←gI]at gc
   generalize upd cO a (.lst (ys++[.ref t]))=dC at gc hg qW ⊢
   refine⟨_,rfl,_,rfl,c,_,_,_,rfl,rfl,aG.of qW,rfl,_,rfl,c,_,_,_,rfl,rfl,aG.of qW,rfl,_,rfl,c,_,_,_,rfl,rfl,aG.of qW,rfl,h,ce,aj,lo',pu,st,pl,y.c1 d bK,d,bK,n,rfl,gc,wt,rd,fun eN ed sW iC=>?_⟩
   exact q eN pl ed sW (gL.trans ((bO.ew s4).l.trans (hg.l.trans iC))) fun b aa=>.inl aa
 | fin d =>
  obtain⟨c,cS,c2,rfl,ai,bz,b3⟩:=f7 bL
  cases bz.str_inv
  cases b3.int_inv
  refine⟨_,rfl,c,_,_,_,rfl,rfl,aG.of ai,rfl,rfl,_,rfl,bu (by decide +kernel) ?_⟩
  refine⟨_,rfl,h,_,rfl,b5.kZ,_,rfl,h,_,rfl,b5.lN,_,rfl,h,ce,aj,lo,pu,st,pl,x,.ref c,(.fin d),rfl,b5,bL,g.fV,fun z hz=>(g.d1 z hz).1,fun ay s2=>?_⟩
  have bC:=b5.same s2
  have cJ:=s2 _ _ ai
  cases dp:x.refusal (.fin d) with
  | some ww =>
   have aU:x.a4 (.fin d)=(x,.word ww):=by unfold aq.a4;rw[dp]
   rw[aU]at q
   refine⟨_,rfl,rfl,_,rfl,pF (qi dp) ?_⟩
   exact⟨_,rfl,q lo pl ay bC ((bO.ew s2).l) fun b aa=>.inl aa⟩
  | none =>
  have aU:x.a4 (.fin d)=x.gg (.fin d):=by unfold aq.a4;rw[dp]
  rw[aU]at q
  refine⟨_,rfl,rfl,_,rfl,qD rfl ?_⟩
  refine⟨_,rfl,c,_,_,_,rfl,rfl,aG.of cJ,rfl,rfl,_,rfl,bu (by decide +kernel) ?_⟩
  refine⟨_,rfl,c,_,_,_,rfl,rfl,aG.of cJ,rfl,rfl,_,rfl,dE rfl (el ?_)⟩
  have aC:x.isOpen d=true:=hW (.inr (.inl rfl)) dp
  have m:=g.d1 _ (ks aC)
  have jo:(x.c5 d).length≤nn:=m.2.2.1
  refine⟨_,rfl,_,rfl,h,ce,aj,lo,pu,st,pl,x,.ref c,false,d,rfl,bC,Rep.keep s2.e5 _ _ (b7.gD _) bL,aC,m.2.2.2,g.fits (by omega) (by omega),fun lo' aT cj dO=>?_⟩
  refine q lo' _ aT cj ((bO.ew s2).l.trans dO) fun b aa=>.inl ?_
  rw[pe]at aa ⊢
  rcases aa with e | e | e | e | e | ⟨z,hz,e⟩
  ·exact .inl e
  ·exact .inr (.inl e)
  ·exact .inr (.inr (.inl e))
  ·exact .inr (.inr (.inr (.inl e)))
  ·exact .inr (.inr (.inr (.inr (.inl e))))
  ·exact .inr (.inr (.inr (.inr (.inr ⟨z,(mem_filter.mp hz).1,e⟩))))
 | drop d =>
  obtain⟨c,cS,c2,rfl,ai,bz,b3⟩:=f7 bL
  cases bz.str_inv
  cases b3.int_inv
  refine⟨_,rfl,c,_,_,_,rfl,rfl,aG.of ai,rfl,rfl,_,rfl,bu (by decide +kernel) ?_⟩
  refine⟨_,rfl,h,_,rfl,b5.kZ,_,rfl,h,_,rfl,b5.lN,_,rfl,h,ce,aj,lo,pu,st,pl,x,.ref c,(.drop d),rfl,b5,bL,g.fV,fun z hz=>(g.d1 z hz).1,fun ay s2=>?_⟩
  have bC:=b5.same s2
  have cJ:=s2 _ _ ai
  cases dp:x.refusal (.drop d) with
  | some ww =>
   have aU:x.a4 (.drop d)=(x,.word ww):=by unfold aq.a4;rw[dp]
   rw[aU]at q
   refine⟨_,rfl,rfl,_,rfl,pF (qi dp) ?_⟩
   exact⟨_,rfl,q lo pl ay bC ((bO.ew s2).l) fun b aa=>.inl aa⟩
  | none =>
  have aU:x.a4 (.drop d)=x.gg (.drop d):=by unfold aq.a4;rw[dp]
  rw[aU]at q
  refine⟨_,rfl,rfl,_,rfl,qD rfl ?_⟩
  refine⟨_,rfl,c,_,_,_,rfl,rfl,aG.of cJ,rfl,rfl,_,rfl,bu (by decide +kernel) ?_⟩
  refine⟨_,rfl,c,_,_,_,rfl,rfl,aG.of cJ,rfl,rfl,_,rfl,bu (by decide +kernel) ?_⟩
  refine⟨_,rfl,c,_,_,_,rfl,rfl,aG.of cJ,rfl,rfl,_,rfl,dE rfl ?_⟩
  have aC:x.isOpen d=true:=hW (.inr (.inr rfl)) dp
  have m:=g.d1 _ (ks aC)
  have jo:(x.c5 d).length≤nn:=m.2.2.1
  refine⟨_,rfl,_,rfl,h,ce,aj,lo,pu,st,pl,x,.ref c,true,d,rfl,bC,Rep.keep s2.e5 _ _ (b7.gD _) bL,aC,m.2.2.2,g.fits (by omega) (by omega),fun lo' aT cj dO=>?_⟩
  refine q lo' _ aT cj ((bO.ew s2).l.trans dO) fun b aa=>.inl ?_
  rw[pe]at aa ⊢
  rcases aa with e | e | e | e | e | ⟨z,hz,e⟩
  ·exact .inl e
  ·exact .inr (.inl e)
  ·exact .inr (.inr (.inl e))
  ·exact .inr (.inr (.inr (.inl e)))
  ·exact .inr (.inr (.inr (.inr (.inl e))))
  ·exact .inr (.inr (.inr (.inr (.inr ⟨z,(mem_filter.mp hz).1,e⟩))))
 | look p =>
  obtain⟨c,cS,c2,rfl,ai,bz,b3⟩:=f7 bL
  cases bz.str_inv
  cases b3.int_inv
  refine⟨_,rfl,c,_,_,_,rfl,rfl,aG.of ai,rfl,rfl,_,rfl,bu (by decide +kernel) ?_⟩
  refine⟨_,rfl,h,_,rfl,b5.kZ,_,rfl,h,_,rfl,b5.lN,_,rfl,h,ce,aj,lo,pu,st,pl,x,.ref c,(.look p),rfl,b5,bL,g.fV,fun z hz=>(g.d1 z hz).1,fun ay s2=>?_⟩
  have bC:=b5.same s2
  have cJ:=s2 _ _ ai
  cases dp:x.refusal (.look p) with
  | some ww =>
   have aU:x.a4 (.look p)=(x,.word ww):=by unfold aq.a4;rw[dp]
   rw[aU]at q
   refine⟨_,rfl,rfl,_,rfl,pF (qi dp) ?_⟩
   exact⟨_,rfl,q lo pl ay bC ((bO.ew s2).l) fun b aa=>.inl aa⟩
  | none =>
  have aU:x.a4 (.look p)=x.gg (.look p):=by unfold aq.a4;rw[dp]
  rw[aU]at q
  refine⟨_,rfl,rfl,_,rfl,qD rfl ?_⟩
  refine⟨_,rfl,c,_,_,_,rfl,rfl,aG.of cJ,rfl,rfl,_,rfl,bu (by decide +kernel) ?_⟩
  refine⟨_,rfl,c,_,_,_,rfl,rfl,aG.of cJ,rfl,rfl,_,rfl,bu (by decide +kernel) ?_⟩
  refine⟨_,rfl,c,_,_,_,rfl,rfl,aG.of cJ,rfl,rfl,_,rfl,bu (by decide +kernel) ?_⟩
  obtain⟨o1,eV⟩:=nc (.inr (.inl rfl)) dp
  obtain⟨bK,rfl⟩:∃bK:Nat,p=(bK:Int):=⟨p.toNat,by omega⟩
  have j9:bK<x.av.length:=by omega
  refine⟨_,rfl,c,_,_,_,rfl,rfl,aG.of cJ,rfl,rfl,_,rfl,dE rfl ?_⟩
  obtain⟨o,fV,e2⟩:=bC.q2 j9
  have d4:x.gg (.look (bK:Int))=(x,.num (x.av.getD (bK:Int).toNat 0)):=rfl
  rw[Int.toNat_natCast,getD_eq_getElem?_getD,fV,Option.getD_some]at d4
  rw[d4]at q
  exact⟨_,rfl,h,_,rfl,bC.lN,_,rfl,c,_,_,_,rfl,rfl,aG.of cJ,rfl,aj,_,_,_,rfl,rfl,aO.of bC.hd,e2,q lo pl ay bC ((bO.ew s2).l) fun b aa=>.inl aa⟩
 | carry p =>
  obtain⟨c,cS,c2,rfl,ai,bz,b3⟩:=f7 bL
  cases bz.str_inv
  cases b3.int_inv
  refine⟨_,rfl,c,_,_,_,rfl,rfl,aG.of ai,rfl,rfl,_,rfl,bu (by decide +kernel) ?_⟩
  refine⟨_,rfl,h,_,rfl,b5.kZ,_,rfl,h,_,rfl,b5.lN,_,rfl,h,ce,aj,lo,pu,st,pl,x,.ref c,(.carry p),rfl,b5,bL,g.fV,fun z hz=>(g.d1 z hz).1,fun ay s2=>?_⟩
  have bC:=b5.same s2
  have cJ:=s2 _ _ ai
  cases dp:x.refusal (.carry p) with
  | some ww =>
   have aU:x.a4 (.carry p)=(x,.word ww):=by unfold aq.a4;rw[dp]
   rw[aU]at q
   refine⟨_,rfl,rfl,_,rfl,pF (qi dp) ?_⟩
   exact⟨_,rfl,q lo pl ay bC ((bO.ew s2).l) fun b aa=>.inl aa⟩
  | none =>
  have aU:x.a4 (.carry p)=x.gg (.carry p):=by unfold aq.a4;rw[dp]
  rw[aU]at q
  refine⟨_,rfl,rfl,_,rfl,qD rfl ?_⟩
  refine⟨_,rfl,c,_,_,_,rfl,rfl,aG.of cJ,rfl,rfl,_,rfl,bu (by decide +kernel) ?_⟩
  refine⟨_,rfl,c,_,_,_,rfl,rfl,aG.of cJ,rfl,rfl,_,rfl,bu (by decide +kernel) ?_⟩
  refine⟨_,rfl,c,_,_,_,rfl,rfl,aG.of cJ,rfl,rfl,_,rfl,bu (by decide +kernel) ?_⟩
  obtain⟨o1,eV⟩:=nc (.inr (.inr rfl)) dp
  obtain⟨bK,rfl⟩:∃bK:Nat,p=(bK:Int):=⟨p.toNat,by omega⟩
  have j9:bK<x.av.length:=by omega
  refine⟨_,rfl,c,_,_,_,rfl,rfl,aG.of cJ,rfl,rfl,_,rfl,bu (by decide +kernel) ?_⟩
  refine⟨_,rfl,c,_,_,_,rfl,rfl,aG.of cJ,rfl,rfl,_,rfl,dE rfl ?_⟩
  have d4:x.gg (.carry (bK:Int))=(x.dZ (bK:Int).toNat,.word "done"):=rfl
  rw[Int.toNat_natCast]at d4
  rw[d4]at q
  refine⟨_,rfl,_,rfl,c,_,_,_,rfl,rfl,aG.of cJ,rfl,h,ce,aj,lo,pu,st,pl,x,bK,rfl,bC,j9,g.fits (by omega) (by omega),fun lo' aT cj dO=>?_⟩
  exact q lo' pl aT cj ((bO.ew s2).l.trans dO) fun b aa=>.inl aa
 | cut =>
  obtain⟨c,cS,rfl,ai,bz⟩:=qp bL
  cases bz.str_inv
  refine⟨_,rfl,c,_,_,_,rfl,rfl,aG.of ai,rfl,rfl,_,rfl,bu (by decide +kernel) ?_⟩
  refine⟨_,rfl,h,_,rfl,b5.kZ,_,rfl,h,_,rfl,b5.lN,_,rfl,h,ce,aj,lo,pu,st,pl,x,.ref c,(.cut),rfl,b5,bL,g.fV,fun z hz=>(g.d1 z hz).1,fun ay s2=>?_⟩
  have bC:=b5.same s2
  have cJ:=s2 _ _ ai
  cases dp:x.refusal (.cut) with
  | some ww =>
   have aU:x.a4 (.cut)=(x,.word ww):=by unfold aq.a4;rw[dp]
   rw[aU]at q
   refine⟨_,rfl,rfl,_,rfl,pF (qi dp) ?_⟩
   exact⟨_,rfl,q lo pl ay bC ((bO.ew s2).l) fun b aa=>.inl aa⟩
  | none =>
  have aU:x.a4 (.cut)=x.gg (.cut):=by unfold aq.a4;rw[dp]
  rw[aU]at q
  refine⟨_,rfl,rfl,_,rfl,qD rfl ?_⟩
  refine⟨_,rfl,c,_,_,_,rfl,rfl,aG.of cJ,rfl,rfl,_,rfl,bu (by decide +kernel) ?_⟩
  refine⟨_,rfl,c,_,_,_,rfl,rfl,aG.of cJ,rfl,rfl,_,rfl,bu (by decide +kernel) ?_⟩
  refine⟨_,rfl,c,_,_,_,rfl,rfl,aG.of cJ,rfl,rfl,_,rfl,bu (by decide +kernel) ?_⟩
  refine⟨_,rfl,c,_,_,_,rfl,rfl,aG.of cJ,rfl,rfl,_,rfl,bu (by decide +kernel) ?_⟩
  refine⟨_,rfl,c,_,_,_,rfl,rfl,aG.of cJ,rfl,rfl,_,rfl,bu (by decide +kernel) ?_⟩
  have d4:x.gg .cut=(x.dS,.word "done"):=rfl
  rw[d4]at q
  refine⟨_,rfl,h,ce,aj,lo,pu,st,pl,x,rfl,bC,g.fits (by omega) (by omega),fun lo' aT cj dO=>?_⟩
  exact q lo' pl aT cj ((bO.ew s2).l.trans dO) fun b aa=>.inl aa
def aq.new (ps:List Int) (room:Int):aq:=⟨ps,ps,[],[],room,0,[]⟩
def JD:dj:=fun vs H Q _=>∃(p:Addr) (ps:List Int) (room:Int),vs=[.ref p,.int room]∧H p=some (.lst (ps.map V.int)) ∧
 ∀h ce aj lo pu st af,bO H af→bw af h ce aj lo pu st [] (aq.new ps room)→(∀b∈own h ce aj pu st [],H b=none)→Q (.ref h) af
def Kq:dj:=fun vs H Q _=>∃i:Int,vs=[.int i]∧∀(r:Int) (af:ao),0≤r→bO H af→Q (.int r) af
def JC:dj:=fun vs H Q _=>∃(i c:Int),vs=[.int i,.int c]∧1≤c∧c≤100∧∀(p:Addr) (ps:List Int) (af:ao),bO H af→H p=none→af p=some (.lst (ps.map V.int))→ps.length=c.toNat→Q (.ref p) af
theorem JM:dI ["_law_pages","_law_room","_law_house"] zD (cR CR):=d2
theorem Ui (ce aj lo pu st:Addr) (room:Int):putK (putK (putK (mE [] [(Sum.inr "cellar",V.ref ce),(Sum.inr "desk",V.ref aj),(Sum.inr "log",V.ref lo),(Sum.inr "puts",V.ref pu)]) (Sum.inr "room") (.int room)) (Sum.inr "begun") (.int 0)) (Sum.inr "strokes") (.ref st)=aS ce aj lo pu st room 0:=by kernel_rfl
theorem T6 (F:bW K "_law_house_of" "_law_house_of" CR f fd) (B:eY mg):br P w K mg base bX 1 f fd zD JD:=by
 refine F.ok JM (fun vs H Q E h=>?_) (fun cy A outer s H vs Q E aD h=>?_)
 ·obtain⟨p,ps,room,rfl,_⟩:=h
  rfl
 obtain⟨p,ps,room,rfl,aF,q⟩:=h
 have bf:=g_ aD
 refine⟨_,(bq (dc (i:=2) JM.a_ rfl (Or.inl rfl) (U0 (yF bB (i9 nd rfl B.lst iT (au (ah 0) aN)) (yF bB (i9 nd rfl B.lst iT (au (ah 0) aN)) (yF bB (fi aN) (yF bB u0 UW)))) rfl rfl (fun z=>nomatch z) (by decide))) (bq (mA bf (ah 2) bB (ah 1) rfl) (bq (mA bf (ah 2) bB aV rfl) (bq (mA bf (ah 2) bB (fi aN) rfl) (bg (c_ (ah 2))))))),?_⟩
 intro h dt
 have s0:=bR dt (.bS [])
 have e0:(upd H h (.bS [])) h=some (.bS []):=aR
 generalize upd H h (.bS [])=d6 at s0 e0 ⊢
 refine⟨_,rfl,p,_,rfl,.inl (aO.of (s0 _ _ aF)),fun ce EY=>?_⟩
 have s1:=bR EY (.lst (ps.map V.int))
 have aH:(upd d6 ce (.lst (ps.map V.int))) ce=some (.lst (ps.map V.int)):=aR
 have f1:=s0.free EY
 generalize upd d6 ce (.lst (ps.map V.int))=H1 at s1 aH ⊢
 have n9:=s0.trans s1
 refine⟨_,rfl,p,_,rfl,.inl (aO.of (n9 _ _ aF)),fun aj r4=>?_⟩
 have s2:=bR r4 (.lst (ps.map V.int))
 have aM:(upd H1 aj (.lst (ps.map V.int))) aj=some (.lst (ps.map V.int)):=aR
 have f2:=n9.free r4
 generalize upd H1 aj (.lst (ps.map V.int))=ay at s2 aM ⊢
 have ia:=n9.trans s2
 refine⟨cZ,fun lo nJ=>?_⟩
 have s3:=bR nJ (.lst [])
 have bT:(upd ay lo (.lst [])) lo=some (.lst []):=aR
 generalize upd ay lo (.lst [])=aT at s3 bT ⊢
 have fm:=ia.trans s3
 intro pu kH
 have s4:=bR kH (.bS [])
 have b1:(upd aT pu (.bS [])) pu=some (.bS []):=aR
 have f4:=fm.free kH
 generalize upd aT pu (.bS [])=cO at s4 b1 ⊢
 have hq:=fm.trans s4
 have cN:=(s2.trans (s3.trans s4)) _ _ aH
 have dB:=(s3.trans s4) _ _ aM
 have e3:=s4 _ _ bT
 have xP:=(s1.trans (s2.trans (s3.trans s4))) _ _ e0
 have dT:ce≠h:=(cB e0 EY).symm
 have dP:aj≠h:=(cB (s1 _ _ e0) r4).symm
 have eO:lo≠h:=(cB ((s1.trans s2) _ _ e0) nJ).symm
 have fF:pu≠h:=(cB ((s1.trans (s2.trans s3)) _ _ e0) kH).symm
 have gi:ce≠aj:=cB aH r4
 have gw:ce≠lo:=cB (s2 _ _ aH) nJ
 have g0:ce≠pu:=cB ((s2.trans s3) _ _ aH) kH
 have jO:aj≠lo:=cB aM nJ
 have lz:aj≠pu:=cB (s3 _ _ aM) kH
 have na:lo≠pu:=cB bT kH
 refine⟨xP,[(Sum.inr "cellar",V.ref ce),(Sum.inr "desk",V.ref aj),(Sum.inr "log",V.ref lo),(Sum.inr "puts",V.ref pu)],rfl,le_of_ble_eq_true rfl,?_⟩
 have ad8:(mE [] [(Sum.inr "cellar",V.ref ce),(Sum.inr "desk",V.ref aj),(Sum.inr "log",V.ref lo),(Sum.inr "puts",V.ref pu)]).length≤4:=by
  have:=Bh [(Sum.inr "cellar",V.ref ce),(Sum.inr "desk",V.ref aj),(Sum.inr "log",V.ref lo),(Sum.inr "puts",V.ref pu)] []
  exact this
 have L2:(putK (mE [] [(Sum.inr "cellar",V.ref ce),(Sum.inr "desk",V.ref aj),(Sum.inr "log",V.ref lo),(Sum.inr "puts",V.ref pu)]) (Sum.inr "room") (.int room)).length≤5:=by
  have:=qk (mE [] [(Sum.inr "cellar",V.ref ce),(Sum.inr "desk",V.ref aj),(Sum.inr "log",V.ref lo),(Sum.inr "puts",V.ref pu)]) (Sum.inr "room") (.int room)
  omega
 have ad7:(putK (putK (mE [] [(Sum.inr "cellar",V.ref ce),(Sum.inr "desk",V.ref aj),(Sum.inr "log",V.ref lo),(Sum.inr "puts",V.ref pu)]) (Sum.inr "room") (.int room)) (Sum.inr "begun") (.int 0)).length≤6:=by
  have:=qk (putK (mE [] [(Sum.inr "cellar",V.ref ce),(Sum.inr "desk",V.ref aj),(Sum.inr "log",V.ref lo),(Sum.inr "puts",V.ref pu)]) (Sum.inr "room") (.int room)) (Sum.inr "begun") (.int 0)
  omega
 refine⟨_,rfl,_,rfl,h,_,rfl,.inl ⟨_,Sum.inr "room",aR,rfl,ih (by omega),rfl⟩,?_⟩
 rw[rv]
 refine⟨_,rfl,h,_,rfl,.inl ⟨_,Sum.inr "begun",aR,rfl,ih (by omega),rfl⟩,?_⟩
 rw[rv]
 refine⟨cZ,fun st iz=>?_⟩
 have zN:(upd cO h (.bS (putK (putK (mE [] [(Sum.inr "cellar",V.ref ce),(Sum.inr "desk",V.ref aj),(Sum.inr "log",V.ref lo),(Sum.inr "puts",V.ref pu)]) (Sum.inr "room") (.int room)) (Sum.inr "begun") (.int 0)))) st=none:=iz
 have m0:st≠h:=fun e=>by rw[e,aR]at zN;cases zN
 have vK:cO st=none:=by rw[aA m0]at zN;exact zN
 have gk:=hq.free vK
 refine⟨_,rfl,h,_,rfl,.inl ⟨_,Sum.inr "strokes",by rw[aA m0.symm];exact aR,rfl,ih (by omega),rfl⟩,?_⟩
 rw[Ui]
 have cn:ce≠st:=cB cN vK
 have cu:aj≠st:=cB dB vK
 have fb:lo≠st:=cB e3 vK
 have gj:pu≠st:=cB b1 vK
 refine⟨_,rfl,q h ce aj lo pu st _ ?_ ?_ ?_⟩
 ·intro b o aa
  have nb:b≠h:=fun e=>by rw[e,dt]at aa;cases aa
  have ns:b≠st:=fun e=>by rw[e,gk]at aa;cases aa
  rw[aA nb,aA ns,aA nb]
  exact hq _ _ aa
 ·refine⟨aR,by rw[aA dT,aA cn,aA dT];exact cN,by rw[aA dP,aA cu,aA dP];exact dB,⟨[],by rw[aA eO,aA fb,aA eO];exact e3,.nil⟩,by rw[aA fF,aA gj,aA fF];exact b1,rfl,fun i z w a=>by simp at a,nodup_nil,⟨[],by rw[aA m0,aR],.nil⟩,?_,?_,rfl⟩
  ·unfold own
   simp[dT.symm,dP.symm,fF.symm,m0.symm,gi,g0,cn,lz,cu,gj]
  ·unfold own
   simp[eO,gw.symm,jO.symm,na,fb]
 ·intro b aa
  rw[pe]at aa
  rcases aa with e | e | e | e | e | ⟨z,hz,_⟩
  ·rw[e];exact dt
  ·rw[e];exact f1
  ·rw[e];exact f2
  ·rw[e];exact f4
  ·rw[e];exact gk
  ·cases hz
theorem UN:dI vF vF (cR CM):=d2
theorem T5 (F:bW K "_law_pages_of" "_law_pages_of" CM f fd) (B:eY mg):br P w K mg base bX 1 f fd vF JC:=by
 refine F.ok UN (fun vs H Q E h=>?_) (fun cy A outer s H vs Q E aD h=>?_)
 ·obtain⟨i,c,rfl,_⟩:=h
  rfl
 obtain⟨i,c,rfl,ak,az,q⟩:=h
 refine⟨_,(bg (c_ (Cv [0] ["_law_k","_law_cell"] (k4.one (fv:="_law_cell") (j:=0) rfl (by decide +kernel) (by decide +kernel) rfl (by decide +kernel) rfl rfl (by decide +kernel) rfl rfl rfl) rfl (s_ rfl B.j6 (au (ah 1) aN)) (fun C s1 H1 bJ=>(bE (Jo (K:=K) rfl) (fi (au (dg jw (dg ht (ah 1) (dg yW aV (ah 0))) aV) (au (dg rC (dg jw (ah 1) (dg yV aV aV)) (ah 0)) aN))) (dg jw (ah 0) aV) (fun _ _=>rfl)))))),?_⟩
 refine⟨_,rfl,c,rfl,by omega,by omega,fun acc ec=>R2 (fun v=>∃z:Int,v=.int z) ec (by omega) (fun k aT p4 aS wD=>?_) fun ys af gx lW s1 aH=>?_⟩
 ·refine⟨_,rfl,_,rfl,_,_,rfl,rfl,.inl ⟨by decide,by decide⟩,_,_,rfl,rfl,_,_,rfl,rfl,(by decide:(0:Int)<7),_,rfl,_,_,rfl,rfl,⟨by decide,by decide,by decide⟩,_,_,rfl,rfl,(show (0:Int)<10 ^ (30:Int).toNat by decide),_,rfl,_,_,rfl,rfl,cZ,fun t aZ=>?_⟩
  refine⟨_,rfl,_,_,rfl,rfl,(by decide:(0:Int)<2),?_⟩
  obtain⟨z,a1,e4⟩:=kX (ns:=[(i+3 * (0+(k:Int))) % 7,i % 10 ^ (30:Int).toNat - (0+(k:Int))]) (k:=(0+(k:Int)) % 2) (by omega) (by show _<(2:Int);omega)
  exact⟨t,_,_,_,rfl,rfl,aO.of aR,e4,wD _ _ ⟨z,rfl⟩ (bR aZ _)⟩
 ·obtain⟨ps,rfl⟩:=ints_of lW
  rw[length_map]at gx
  exact q acc ps af s1 ec aH gx
theorem Vy:dI oz oz (cR De):=d2
theorem U3 (F:bW K "_law_room_of" "_law_room_of" De f fd) (B:eY mg):br P w K mg base bX 1 f fd oz Kq:=by
 refine F.ok Vy (fun vs H Q E h=>?_) (fun cy A outer s H vs Q E aD h=>?_)
 ·obtain⟨i,rfl,_⟩:=h
  rfl
 obtain⟨i,rfl,q⟩:=h
 refine⟨_,(bg (c_ (bE fq (fi (au (dg yV aV aV) (au aV (au aV (au aV (au aV (au (dg ht aV (dg jw (dg u6 (ah 0) aV) aV)) (au (dg jw (ah 0) (dg yV aV aV)) aN)))))))) (dg jw (dg u6 (ah 0) aV) aV) (fun _ _=>rfl)))),?_⟩
 refine⟨_,_,rfl,rfl,⟨by decide,by decide,by decide⟩,_,rfl,_,_,rfl,rfl,⟨by decide,by decide⟩,_,_,rfl,rfl,(by decide:(0:Int)<60),_,_,rfl,rfl,_,rfl,_,_,rfl,rfl,⟨by decide,by decide,by decide⟩,_,_,rfl,rfl,(show (0:Int)<10 ^ (30:Int).toNat by decide),cZ,fun t aZ=>?_⟩
 refine⟨_,rfl,_,_,rfl,rfl,⟨by decide,by decide⟩,_,_,rfl,rfl,(by decide:(0:Int)<7),?_⟩
 obtain⟨z,a1,e4⟩:=kX (ns:=[10 ^ (12:Int).toNat,4,6,9,14,15+i / 25 % 60,i % 10 ^ (30:Int).toNat]) (k:=i / 5 % 7) (by omega) (by show _<(7:Int);omega)
 have mV:0≤z:=by
  have Ql:=mem_of_getElem? a1
  have eV:(0:Int)≤10 ^ (12:Int).toNat:=by decide
  have es:(0:Int)≤i % 10 ^ (30:Int).toNat:=Int.emod_nonneg _ (by decide)
  simp only[mem_cons,not_mem_nil,or_false]at Ql
  rcases Ql with z | z | z | z | z | z | z
  ·rw[z];exact eV
  ·omega
  ·omega
  ·omega
  ·omega
  ·omega
  ·rw[z];exact es
 exact⟨t,_,_,_,rfl,rfl,aO.of aR,e4,q z _ mV (bR aZ _)⟩
structure iN (K:PySem.W.Frag) (mg:Str→Option Value) (C:Addr):Prop where
 cl:lq K C
 tf:jx K C "cellar"
 ou:jx K C "desk"
 K8:jx K C "room"
 yI:jx K C "strokes"
 Cy:jx K C "begins"
 qx:jx K C "puts"
 Cx:jx K C "takers"
 vh:jx K C "bound"
 Es:mg "House"=some (.ref C)
abbrev q1:List Value:=[.type "ValueError",.type "Exception",.type "BaseException",.type "object"]
structure sf (K:PySem.W.Frag) (mg:Str→Option Value) (cU cH c4 cT:Addr):Prop where
 hH:mg "NoDealing"=some (.ref cU)
 kj:mg "NoPage"=some (.ref cH)
 q8:mg "Taken"=some (.ref c4)
 o3:mg "NoRoom"=some (.ref cT)
 aa4:excIn K cU q1 "ValueError.__new__"=true
 aa3:excIn K cH q1 "ValueError.__new__"=true
 aa1:excIn K c4 q1 "ValueError.__new__"=true
 aa2:excIn K cT q1 "ValueError.__new__"=true
theorem VM {P:Program}{w:World}{X:bI}:Passes (d_ P w) X Ro:=fun _ _ _ _ _ _ _ h=>by
 obtain⟨_,_,_,_,_,_,_,_,_,q⟩:=h
 exact q.elim
def DD (C:Addr):dj:=fun vs H Q _=>∃(c ct dX:Addr) (x:V) (ps ls:List V) (fQ:iL),vs=[.ref c,x]∧y5 C H c ct dX ps ls∧D4 H fQ x∧fQ.ok ps.length∧ls.length≤199999 ∧
 ∀(mQ:Addr) (af:ao),y5 C af c ct mQ (iL.ct ps fQ) (iL.dX ls fQ)→(mQ=dX∨H mQ=none)→(∀b o,H b=some o→b≠c→b≠ct→(b≠dX∨mQ≠dX)→af b=some o)→Q .cP af
def tF (a5 aI:Addr):dj:=fun vs H Q _=>∃(a:ee) (lo:Addr) (pl:List (Int × Addr)) (x:aq) (aQ:List (Key × V)) (v:V) (s:bp),vs=[.ref a.h,v]∧cQ a5 aI H a lo pl x aQ∧Rep H s.D v∧s.okIn x∧x.fits 1 ∧
 ∀lo' af,cQ a5 aI af a lo' pl (x.c9 s) aQ→eL a lo pl lo' pl H af→Q .cP af
def zp (a5 aI:Addr):dj:=fun vs H Q _=>∃(a:ee) (lo:Addr) (pl:List (Int × Addr)) (x:aq) (aQ:List (Key × V)) (d:Int) (p:Nat) (n:Int),vs=[.ref a.h,.int d,.int (p:Nat),.int n]∧cQ a5 aI H a lo pl x aQ∧p<x.av.length∧x.fits 1 ∧
 ∀lo' af,cQ a5 aI af a lo' pl (x.putIn d p n) aQ→eL a lo pl lo' pl H af→Q .cP af
def CG (a5 aI:Addr):dj:=fun vs H Q _=>∃(a:ee) (lo:Addr) (pl:List (Int × Addr)) (x:aq) (aQ:List (Key × V)) (m:Int),vs=[.ref a.h,.int m]∧cQ a5 aI H a lo pl x aQ∧Q (.bV (x.hx m)) H
def vc (a5 aI cH:Addr):dj:=fun vs H Q E=>∃(a:ee) (lo:Addr) (pl:List (Int × Addr)) (x:aq) (aQ:List (Key × V)) (p:Int),vs=[.ref a.h,.int p]∧cQ a5 aI H a lo pl x aQ∧p.natAbs.log2<1920∧(if p<0∨(x.av.length:Int)≤p then E (.ref cH) none H else Q .cP H)
def vd (a5 aI cU:Addr):dj:=fun vs H Q E=>∃(a:ee) (lo:Addr) (pl:List (Int × Addr)) (x:aq) (aQ:List (Key × V)) (d:Int),vs=[.ref a.h,.int d]∧cQ a5 aI H a lo pl x aQ∧d.natAbs.log2<1920∧(if x.isOpen d=false then E (.ref cU) none H else Q .cP H)
def CI (a5 aI c4:Addr):dj:=fun vs H Q E=>∃(a:ee) (lo:Addr) (pl:List (Int × Addr)) (x:aq) (aQ:List (Key × V)) (d:Int) (p:Nat),vs=[.ref a.h,.int d,.int (p:Nat)]∧cQ a5 aI H a lo pl x aQ∧x.begun≤1000∧p≤1000∧(if x.dK p=none∨x.dK p=some d then Q .cP H else E (.ref c4) none H)
theorem Xo:dI vE vE (cR CX):=d2
theorem Ub {C:Addr}(F:bW K "__init__" "Cellar.__init__" CX f fd) (B:eY mg) (T:qo K mg C):br P w K mg base bX 1 f fd vE (Cg C):=by
 refine F.ok Xo (fun vs H Q E h=>?_) (fun cy A outer s H vs Q E aD h=>?_)
 ·obtain⟨c,dx,a,b,ps,ls,rfl,_⟩:=h
  rfl
 obtain⟨c,dx,a,b,ps,ls,rfl,ai,bk,aa,k⟩:=h
 refine⟨_,(bq (nk (ah 0) (i9 nd rfl B.lst iT (au (ah 1) aN)) rfl) (bg (nk (ah 0) (i9 nd rfl B.lst iT (au (ah 2) aN)) rfl))),?_⟩
 refine⟨_,rfl,a,ps,rfl,.inl (aO.of bk),fun ct oJ=>?_⟩
 have rX:c≠ct:=cB ai oJ
 have acC:c≠a:=dv ai bk (by intro z;cases z)
 have YR:c≠b:=dv ai aa (by intro z;cases z)
 have YS:b≠ct:=cB aa oJ
 refine⟨_,rfl,c,C,dx,[],rfl,(by rw[aA rX];exact ai),T.cl,T.AQ,(by show 0<1000;decide),?_⟩
 refine⟨_,rfl,b,ls,rfl,.inl (aO.of (by rw[aA YR.symm,aA YS];exact aa)),fun dX tY=>?_⟩
 have z8:dX≠c:=fun z=>by rw[z,aR]at tY;cases tY
 have El:dX≠ct:=fun z=>by rw[z,aA rX.symm,aR]at tY;cases tY
 have L8:H dX=none:=by rw[aA z8,aA El]at tY;exact tY
 refine⟨_,rfl,c,C,dx,_,rfl,(by rw[aA z8.symm];exact aR),T.cl,T.uq,(by show 1<1000;decide),?_⟩
 refine k ct dX _ oJ L8 ⟨⟨dx,aR⟩,by rw[aA rX.symm,aA El.symm,aA rX.symm,aR],by rw[aA z8,aR],El.symm⟩ fun d o e hd=>?_
 rw[aA hd,aA (cB e L8),aA hd,aA (cB e oJ)]
 exact e
theorem Xm:dI j7 j7 (cR Eb):=d2
theorem WI {C:Addr}(F:bW K "do_stroke" "Cellar.do_stroke" Eb f fd) (T:qo K mg C):br P w K mg base bX 1 f fd j7 (DD C):=by
 refine F.ok Xm (fun vs H Q E h=>?_) (fun cy A outer s H vs Q E aD h=>?_)
 ·obtain⟨c,ct,dX,x,ps,ls,fQ,rfl,_⟩:=h
  rfl
 obtain⟨c,ct,dX,x,ps,ls,fQ,rfl,⟨⟨dx,ak⟩,aF,aE,z7⟩,gF,bG,nU,k⟩:=h
 have rX:c≠ct:=dv ak aF (by intro z;cases z)
 have YP:c≠dX:=dv ak aE (by intro z;cases z)
 refine⟨_,(bg (cI (cM dJ (bE b6 (ah 1) aV (fun _ _=>rfl)) bB (cc _)) (bg (dH (iS plainAttrs_list PySem.F.slot_list_append PySem.F.type_list_append ie (fj (ah 0) rfl) (au (bE b6 (ah 1) aV (fun _ _=>rfl)) aN)))) (bg (cI (cM dJ (bE b6 (ah 1) aV (fun _ _=>rfl)) bB (cc _)) (bg (oq (bE b6 (ah 1) aV (fun _ _=>rfl)) (rB (fj (ah 0) rfl) (bE b6 (ah 1) aV (fun _ _=>rfl)) set_list))) (bg (cI (cM dJ (bE b6 (ah 1) aV (fun _ _=>rfl)) bB (cc _)) (bg (nk (ah 0) (nf pa (fj (ah 0) rfl) (ni (bE b6 (ah 1) aV (fun _ _=>rfl))) nj) rfl)) dk)))))),?_⟩
 cases fQ with
 | line v =>
  obtain⟨t,rfl,aZ⟩:=gF
  refine⟨_,rfl,t,_,_,_,rfl,rfl,aG.of aZ,rfl,rfl,_,rfl,dE rfl ?_⟩
  refine⟨_,rfl,c,C,dx,_,_,rfl,ak,T.cl,T.uq,yx _ _,.inl ⟨rfl,_,aO.of aE⟩,_,rfl,t,_,_,_,rfl,rfl,aG.of aZ,rfl,dX,_,v,rfl,rfl,aE,ih (by omega),?_⟩
  refine k dX _ ⟨⟨dx,by rw[aA YP];exact ak⟩,by rw[aA z7];exact aF,aR,z7⟩ (.inl rfl) fun b o e _ _ eO=>?_
  rw[aA (eO.elim id fun z=>absurd rfl z)]
  exact e
 | d9 j n =>
  obtain⟨t,rfl,aZ⟩:=gF
  refine⟨_,rfl,t,_,_,_,rfl,rfl,aG.of aZ,rfl,rfl,_,rfl,bu zd ?_⟩
  refine⟨_,rfl,t,_,_,_,rfl,rfl,aG.of aZ,rfl,rfl,_,rfl,dE rfl ?_⟩
  refine⟨_,rfl,t,_,_,_,rfl,rfl,aG.of aZ,rfl,_,rfl,c,C,dx,_,_,rfl,ak,T.cl,T.AQ,Bu _ _,_,rfl,t,_,_,_,rfl,rfl,aG.of aZ,rfl,ct,_,_,j,rfl,rfl,aF,ry bG,?_⟩
  refine k dX _ ⟨⟨dx,by rw[aA rX];exact ak⟩,aR,by rw[aA z7.symm];exact aE,z7⟩ (.inl rfl) fun b o e _ dP _=>?_
  rw[aA dP]
  exact e
 | cut m =>
  obtain⟨t,rfl,aZ⟩:=gF
  refine⟨_,rfl,t,_,_,_,rfl,rfl,aG.of aZ,rfl,rfl,_,rfl,bu zk ?_⟩
  refine⟨_,rfl,t,_,_,_,rfl,rfl,aG.of aZ,rfl,rfl,_,rfl,bu W3 ?_⟩
  refine⟨_,rfl,t,_,_,_,rfl,rfl,aG.of aZ,rfl,rfl,_,rfl,dE rfl ?_⟩
  refine⟨_,rfl,c,C,dx,_,_,rfl,ak,T.cl,T.uq,yx _ _,_,rfl,t,_,_,_,rfl,rfl,aG.of aZ,rfl,m,rfl,dX,_,rfl,aO.of aE,fun mQ zP=>?_⟩
  have L3:c≠mQ:=cB ak zP
  have LZ:ct≠mQ:=cB aF zP
  refine⟨_,rfl,c,C,dx,_,rfl,(by rw[aA L3];exact ak),T.cl,T.uq,(by rw[Ca];show 2<1000;decide),?_⟩
  refine k mQ _ ⟨⟨dx,Eq.trans aR (congrArg (fun l=>some (fp.ins C dx l)) (Tj _ _ _))⟩,by rw[aA rX.symm,aA LZ];exact aF,by rw[aA L3.symm,aR];rfl,LZ⟩ (.inr zP) fun b o e dT _ _=>?_
  rw[aA dT,aA (cB e zP)]
  exact e
theorem Xj:dI j7 j7 (cR CO):=d2
theorem WE {a5 aI:Addr}{g4:Addr}{hM:FuncData}(F:bW K "make_stroke" "House.make_stroke" CO f fd) (T:iN K mg aI) (lJ:qo K mg a5) (iM:br P w K mg base bX 1 g4 hM j7 (DD a5)) (iH:Binds K hM j7 []) (hH:Meth K a5 "do_stroke" g4):br P w K mg base bX 2 f fd j7 (tF a5 aI):=by
 refine F.ok Xj (fun vs H Q E h=>?_) (fun cy A outer s H vs Q E aD h=>?_)
 ·obtain⟨a,lo,pl,x,aQ,v,s,rfl,_⟩:=h
  rfl
 obtain⟨a,lo,pl,x,aQ,v,c6,rfl,A,aX,bG,iv,q⟩:=h
 obtain⟨dx,b8⟩:=A.bY
 obtain⟨dy,cg⟩:=A.co
 obtain⟨xs,aH,aM⟩:=A.aE
 obtain⟨zs,bT,b1⟩:=A.fQ
 obtain⟨y,gF,fO⟩:=Sz aX
 have Ep:a.ce≠lo:=A.dF.ne.2.2.2.2.2.2.2.2.2.2.2.1.symm
 have Nr:=aM.1
 have Y0:zs.length=x.c7.length:=by rw[bl.length b1,length_map]
 obtain⟨t2,qT,acW⟩:=iv
 have Zm:(pC y c6).ok (x.b_.map V.int).length:=by
  rw[length_map,A.dF.cd]
  cases c6 with
  | line ln=>trivial
  | d9 p n=>exact bG
  | cut k=>trivial
 refine⟨_,(bq (dH (g7 (fj (ah 0) rfl) lJ.cl hH iM (cE aD) iH .nil de (au (ah 1) aN))) (bg (dH (iS plainAttrs_list PySem.F.slot_list_append PySem.F.type_list_append ie (fj (ah 0) rfl) (au (ah 1) aN))))),?_⟩
 refine⟨_,rfl,a.h,aI,dx,_,_,rfl,b8,T.cl,T.tf,uS .., a.c,dy,_,rfl,cg,Uy _ _ (by decide +kernel) (by decide +kernel),_,rfl,a.c,a.ce,lo,v,_,xs,pC y c6,rfl,⟨⟨dy,cg⟩,A.ai,aH,Ep⟩,gF,Zm,by omega,fun lo' H1 x7 nJ bD=>?_⟩
 have cN:a.h≠a.c:=A.ej.1.symm
 have Ej:H1 a.h=_:=bD _ _ b8 cN A.aP.1.symm (.inl A.aP.2.2.2.2.1.symm)
 have r8:H1 a.st=_:=bD _ _ bT A.ej.2.2.2.2.1.symm A.dF.ne.2.2.2.2.2.2.1.symm (.inl A.dF.ne.2.2.2.2.2.2.2.2.2.2.2.2.2.2.1.symm)
 refine⟨_,rfl,a.h,aI,dx,_,_,rfl,Ej,T.cl,T.yI,BB .., .inl ⟨rfl,_,aO.of r8⟩,_,rfl,a.st,zs,v,rfl,rfl,r8,ih (by omega),?_⟩
 refine q lo' _ (A.UK bG aX fO aH aM bT b1 x7 nJ bD) (eL.upd ⟨fun b o aa e=>?_,fun b aa=>?_⟩ (y0 ..))
 ·exact bD b o e (fun z=>aa (by rw[z];exact zh ..)) (fun z=>aa (by rw[z];exact y3 ..)) (.inl fun z=>aa (by rw[z];exact vm ..))
 ·rcases mem_cons.mp aa with z | z
  ·rcases nJ with y | y
   ·rw[z,y];exact .inl (vm ..)
   ·rw[z];exact .inr y
  ·exact .inl (mem_cons_of_mem _ z)
theorem Xi:dI kG kG (cR Cn):=d2
theorem WC {a5 aI:Addr}{fx:Addr}{gC:FuncData}(F:bW K "write_put" "House.write_put" Cn f fd) (T:iN K mg aI) (i8:br P w K mg base bX 2 fx gC j7 (tF a5 aI)) (i5:Binds K gC j7 []) (iZ:Meth K aI "make_stroke" fx):br P w K mg base bX 3 f fd kG (zp a5 aI):=by
 refine F.ok Xi (fun vs H Q E h=>?_) (fun cy A outer s H vs Q E aD h=>?_)
 ·obtain⟨a,lo,pl,x,aQ,d,p,n,rfl,_⟩:=h
  rfl
 obtain⟨a,lo,pl,x,aQ,d,p,n,rfl,A,aF,iv,q⟩:=h
 obtain⟨dx,b8⟩:=A.bY
 obtain⟨z,dm,dW⟩:=A.dF.q2 aF
 have gA:x.av.getD p 0=z:=by rw[getD_eq_getElem?_getD,dm];rfl
 refine⟨_,(bq (dH (g7 (ah 0) T.cl iZ i8 (cE aD) i5 .nil de (au (gp (au bB (au (gp (au bB (au (ah 1) (au (ah 2) (au (bE fq (fj (ah 0) rfl) (ah 2) (fun _ _=>rfl)) (au (ah 3) aN)))))) aN))) aN))) (bg (oq (ah 3) (rB (fj (ah 0) rfl) (ah 2) set_list)))),?_⟩
 refine⟨_,rfl,a.h,dx,_,rfl,b8,(by kernel_rfl),_,rfl,_,rfl,_,rfl,a.h,aI,dx,_,_,rfl,b8,T.cl,T.ou,pg .., _,rfl,a.aj,_,_,_,rfl,rfl,aO.of A.hd,dW,_,rfl,cZ,fun t1 ak=>⟨cZ,fun eE az=>?_⟩⟩
 have s1:=bR ak (.tup [.str "put",.int d,.int ((p:Nat):Int),.int z,.int n])
 have s2:=bR az (.tup [.str "line",.ref t1])
 have bC:=A.same (s1.trans s2)
 have aX:Rep (upd (upd H t1 (.tup [.str "put",.int d,.int ((p:Nat):Int),.int z,.int n])) eE (.tup [.str "line",.ref t1])) (bp.line (.put d p z n)).D (.ref eE) :=
  Rep.g9 aR (.cons .ofStr (.cons (Rep.g9 (s2 _ _ aR) (.cons .ofStr (.cons .ofInt (.cons .ofInt (.cons .ofInt (.cons .ofInt .nil)))))) .nil))
 refine⟨a,lo,pl,x,aQ,_,.line (.put d p z n),rfl,bC,aX,aF,iv,fun lo' aT cj fb=>?_⟩
 obtain⟨lg,dO⟩:=cj.bY
 have Zs:p<(x.av.map V.int).length:=by rw[length_map];exact aF
 have OD:=cj.hd
 rw[ro]at OD
 refine⟨_,rfl,_,rfl,a.h,aI,lg,_,_,rfl,dO,T.cl,T.ou,pg .., _,rfl,a.aj,_,_,p,rfl,rfl,OD,ry Zs,?_⟩
 have d4:x.putIn d p n={ x.c9 (.line (.put d p z n)) with av:=x.av.set p n }:=by
  unfold aq.putIn
  rw[gA]
 have dV:=cj.tG (c:=x.av.set p n) (by rw[ro,length_set])
 rw[qj]
 rw[←d4]at dV
 exact q lo' _ dV (((s1.trans s2).moves.trans fb).upd (y2 ..))
theorem Xk:dI mM mM (cR Dh):=d2
theorem WH {a5 aI:Addr}(F:bW K "has_room" "House.has_room" Dh f fd) (B:eY mg) (T:iN K mg aI) (lJ:qo K mg a5):br P w K mg base bX 1 f fd mM (CG a5 aI):=by
 refine F.ok Xk (fun vs H Q E h=>?_) (fun cy A outer s H vs Q E aD h=>?_)
 ·obtain⟨a,lo,pl,x,aQ,m,rfl,_⟩:=h
  rfl
 obtain⟨a,lo,pl,x,aQ,m,rfl,A,q⟩:=h
 obtain⟨dx,b8⟩:=A.bY
 obtain⟨dy,cg⟩:=A.co
 obtain⟨xs,aH,aM⟩:=A.aE
 refine⟨_,(bg (c_ (iO K7 (dg ht (dg ht (d8 f6 rfl B.len PySem.boot_len (au (fj (fj (ah 0) rfl) rfl) aN)) (fj (ah 0) rfl)) (ah 1)) (fj (ah 0) rfl) (cc _)))),?_⟩
 refine⟨_,rfl,a.h,aI,dx,_,_,rfl,b8,T.cl,T.tf,uS .., a.c,a5,dy,_,_,rfl,cg,lJ.cl,lJ.uq,yx _ _,lo,_,rfl,.inl (aO.of aH),_,rfl,a.h,aI,dx,_,_,rfl,b8,T.cl,T.vh,yJ .., _,_,rfl,rfl,_,rfl,_,_,rfl,rfl,_,rfl,a.h,aI,dx,_,_,rfl,b8,T.cl,T.K8,Vj .., _,_,rfl,rfl,?_⟩
 have e:x.hx m=decide (((xs.length:Nat):Int)+x.bound+m≤x.room):=by
  unfold aq.hx
  rw[aM.1]
 rw[e]at q
 exact q
theorem Xr:dI hQ hQ (cR Dm):=d2
theorem WM {a5 aI cU cH c4 cT:Addr}(F:bW K "ask_page" "House.ask_page" Dm f fd) (B:eY mg) (T:iN K mg aI) (E:sf K mg cU cH c4 cT):br P w K mg base (d_ P w) 1 f fd hQ (vc a5 aI cH):=by
 refine F.nE Xr (fun vs H Q hO h=>?_) (fun cy A outer s H vs Q hO aD h=>?_)
 ·obtain⟨a,lo,pl,x,aQ,p,rfl,_⟩:=h
  rfl
 obtain⟨a,lo,pl,x,aQ,p,rfl,A,h1,q⟩:=h
 obtain⟨dx,b8⟩:=A.bY
 refine⟨_,(bg (cI (mC (cM qw (ah 1) aV (cc _)) (cM ze (ah 1) (d8 f6 rfl B.len PySem.boot_len (au (fj (ah 0) rfl) aN)) (cc _))) (bg (yE E.aa3 E.kj excBase_ValueError rfl (yt (mB 2000 bB (mB 2000 (vg (ah 1)) yU))))) dk)),?_⟩
 refine⟨_,rfl,_,_,rfl,rfl,_,rfl,gq (fun cN=>?_) (fun cN=>?_)⟩
 ·have dB:p<0:=of_decide_eq_true cN
  refine el ?_
  rw[if_pos (.inl dB)]at q
  exact⟨_,rfl,(le_of_ble_eq_true rfl),_,rfl,_,rfl,h1,_,rfl,(le_trans (s7 h1) (by decide)),fun _=>q⟩
 ·refine⟨_,rfl,_,rfl,a.h,aI,dx,_,_,rfl,b8,T.cl,T.ou,pg .., a.aj,_,rfl,.inl (aO.of A.hd),_,_,rfl,rfl,_,rfl,gq (fun e3=>?_) (fun e3=>?_)⟩
  ·have g5:((x.av.map V.int).length:Int)≤p:=of_decide_eq_true e3
   rw[length_map]at g5
   rw[if_pos (.inr g5)]at q
   exact⟨_,rfl,(le_of_ble_eq_true rfl),_,rfl,_,rfl,h1,_,rfl,(le_trans (s7 h1) (by decide)),fun _=>q⟩
  ·have dB:¬p<0:=fun z=>cN (decide_eq_true z)
   have g5:¬(x.av.length:Int)≤p:=fun z=>e3 (decide_eq_true (by rw[length_map];exact z))
   rw[if_neg (fun z=>z.elim dB g5)]at q
   exact q
theorem Xs:dI hY hY (cR Dp):=d2
theorem WO {a5 aI cU cH c4 cT:Addr}(F:bW K "ask_dealing" "House.ask_dealing" Dp f fd) (T:iN K mg aI) (E:sf K mg cU cH c4 cT):br P w K mg base (d_ P w) 1 f fd hY (vd a5 aI cU):=by
 refine F.nE Xs (fun vs H Q hO h=>?_) (fun cy A outer s H vs Q hO aD h=>?_)
 ·obtain⟨a,lo,pl,x,aQ,p,rfl,_⟩:=h
  rfl
 obtain⟨a,lo,pl,x,aQ,d,rfl,A,h1,q⟩:=h
 obtain⟨dx,b8⟩:=A.bY
 have bf:=g_ aD
 have Dt:(dw (d3 pl) (Sum.inl d)).isSome=x.isOpen d:=A.dF.isOpen d
 refine⟨_,(bg (cI (tp (BR bf (ah 1) (fj (ah 0) rfl))) (bg (yE E.aa4 E.hH excBase_ValueError rfl (yt (mB 2000 bB (mB 2000 (vg (ah 1)) (mB 2000 bB yU)))))) dk)),?_⟩
 refine⟨_,rfl,_,rfl,a.h,aI,dx,_,_,rfl,b8,T.cl,T.qx,rz .., a.pu,_,rfl,e9.k (k:=Sum.inl d) A.aF,_,rfl,?_⟩
 rw[Dt]
 cases aC:x.isOpen d with
 | false =>
  rw[aC,if_pos rfl]at q
  refine el ?_
  exact⟨_,rfl,(le_of_ble_eq_true rfl),_,rfl,_,rfl,h1,_,rfl,(le_trans (s7 h1) (by decide)),_,rfl,(le_of_ble_eq_true rfl),fun _=>q⟩
 | true =>
  rw[aC,if_neg (fun z=>nomatch z)]at q
  exact cV q
theorem I3 {x:aq}{aQ:List (Key × V)}{p:Nat}(t:vz x aQ):(∀v,dw aQ (Sum.inl ((p:Nat):Int))=some v→∃d:Int,v=.int d∧0≤d∧d<x.begun∧(x.isOpen d=true→x.dK p=some d)∧(x.isOpen d=false→x.dK p=none))∧(dw aQ (Sum.inl ((p:Nat):Int))=none→x.dK p=none):=by
 have key:∀d,x.dK p=some d→dw aQ (Sum.inl ((p:Nat):Int))=some (.int d)∧x.isOpen d=true:=fun d e=>by
  unfold aq.dK at e
  cases q:x.aK.find? (fun z=>z.2.any fun y=>y.1 == p) with
  | none=>rw[q]at e;cases e
  | some z =>
   rw[q]at e
   have cX:z.1=d:=Option.some.inj e
   have hz:=mem_of_find?_eq_some q
   have aF:=find?_some q
   obtain⟨y,ck,bo⟩:=any_eq_true.mp aF
   have aM:=t.a z hz y ck
   rw[beq_iff_eq.mp bo,cX]at aM
   exact⟨aM,any_eq_true.mpr ⟨z,hz,by rw[cX];exact beq_self_eq_true d⟩⟩
 refine⟨fun v e=>?_,fun e=>?_⟩
 ·obtain⟨eg,d,aH,aM,bT,b1,et⟩:=t.b _ v e
  have cp:eg=p:=by have:=Sum.inl.inj aH;omega
  subst cp
  refine⟨d,aM,bT,b1,fun aC=>?_,fun aC=>?_⟩
  ·obtain⟨z,hz,dm,y,ck,cS⟩:=et aC
   cases q:x.dK eg with
   | none =>
    unfold aq.dK at q
    have oY:x.aK.find? (fun z=>z.2.any fun y=>y.1 == eg)=none:=by
     cases w:x.aK.find? (fun z=>z.2.any fun y=>y.1 == eg) with
     | none=>rfl
     | some u=>rw[w]at q;cases q
    have:=find?_eq_none.mp oY z hz
    exact absurd (any_eq_true.mpr ⟨y,ck,by rw[cS];exact beq_self_eq_true eg⟩) this
   | some d' =>
    obtain⟨k1,_⟩:=key d' q
    rw[e,aM]at k1
    have:V.int d=V.int d':=Option.some.inj k1
    injection this with this
    rw[this]
  ·cases q:x.dK eg with
   | none=>rfl
   | some d' =>
    obtain⟨k1,k2⟩:=key d' q
    rw[e,aM]at k1
    have:V.int d=V.int d':=Option.some.inj k1
    injection this with this
    rw[this,k2]at aC
    cases aC
 ·cases q:x.dK p with
  | none=>rfl
  | some d =>
   rw[(key d q).1]at e
   cases e
theorem uR {n:Nat}(h:n≤1000):(n:Int).natAbs.log2<1920:=by
 refine Ih ?_
 rw[Int.natAbs_natCast]
 exact lt_of_le_of_lt h (lt_of_lt_of_le (by decide:1000<2 ^ 10) (Nat.pow_le_pow_right (by decide) (by decide)))
theorem LH:dI ["self","dealing","page","taker"] zC (cR Dn):=d2
theorem WN {a5 aI cU cH c4 cT:Addr}(F:bW K "ask_free" "House.ask_free" Dn f fd) (T:iN K mg aI) (E:sf K mg cU cH c4 cT):br P w K mg base (d_ P w) 1 f fd zC (CI a5 aI c4):=by
 refine F.nE LH (fun vs H Q hO h=>?_) (fun cy A outer s H vs Q hO aD h=>?_)
 ·obtain⟨a,lo,pl,x,aQ,d,p,rfl,_⟩:=h
  rfl
 obtain⟨a,lo,pl,x,aQ,d,p,rfl,A,aa,aF,q⟩:=h
 obtain⟨dx,b8⟩:=A.bY
 have bf:=g_ aD
 obtain⟨t1,eE⟩:=I3 (p:=p) A.jm
 refine⟨_,(bq (dc (i:=3) LH.a_ rfl (Or.inl rfl) (TR bf (fj (ah 0) rfl) (ah 2) (ah 1) ⟨rfl,rfl,rfl,rfl⟩)) (bg (cI (om (cM kY (ah 3) (ah 1) (cc _)) (tp (C5 bf (ah 3) (fj (ah 0) rfl)))) (bg (yE E.aa1 E.q8 excBase_ValueError rfl (yt (mB 2000 bB (mB 2000 (vg (ah 2)) (mB 2000 bB (mB 2000 (vg (ah 3)) yU))))))) dk))),?_⟩
 refine⟨_,rfl,a.h,aI,dx,_,_,rfl,b8,T.cl,T.Cx,IJ .., a.bF,rfl,.inl ⟨_,.inl A.kt⟩,_,rfl,_,rfl,_,e9.k (k:=Sum.inl ((p:Nat):Int)) A.kt,?_⟩
 cases e:dw aQ (Sum.inl ((p:Nat):Int)) with
 | none =>
  rw[eE e,if_pos (.inl rfl)]at q
  refine⟨_,rfl,_,rfl,rfl,_,rfl,nq rfl (cV ?_)⟩
  exact q
 | some v =>
  obtain⟨d',rfl,h0,ak,az,cz⟩:=t1 v e
  refine⟨_,rfl,_,rfl,rfl,_,rfl,?_⟩
  by_cases d4:d'=d
  ·subst d4
   refine nq rfl (cV ?_)
   cases aC:x.isOpen d' with
   | true=>rw[az aC,if_pos (.inr rfl)]at q;exact q
   | false=>rw[cz aC,if_pos (.inl rfl)]at q;exact q
  ·refine pF (fun z=>d4 (by injection z)) ?_
   have Dt:(dw (d3 pl) (Sum.inl d')).isSome=x.isOpen d':=A.dF.isOpen d'
   refine⟨_,rfl,_,rfl,a.h,aI,dx,_,_,rfl,b8,T.cl,T.qx,rz .., a.pu,_,rfl,e9.k (k:=Sum.inl d') A.aF,_,rfl,?_⟩
   rw[Dt]
   cases aC:x.isOpen d' with
   | false =>
    rw[cz aC,if_pos (.inl rfl)]at q
    exact cV q
   | true =>
    rw[az aC,if_neg (fun z=>z.elim (fun z=>nomatch z) fun z=>d4 (Option.some.inj z))]at q
    refine el ?_
    have c6:d'.natAbs.log2<1920:=by
     have aH:d'=((d'.toNat:Nat):Int):=by omega
     rw[aH]
     exact uR (by omega)
    exact⟨_,rfl,(le_of_ble_eq_true rfl),_,rfl,_,rfl,uR aF,_,rfl,(le_trans (s7 (uR aF)) (by decide)),_,rfl,(le_of_ble_eq_true rfl),_,rfl,_,rfl,c6,_,rfl,(le_trans (s7 c6) (by decide)),fun _=>q⟩
def k6 (log:List bN) (j p:Nat):Prop:=∃d o n,log[j]?=some (.put d p o n)
def pH (ps ds:List Int) (log:List bN) (st:List Int) (k:Nat):Prop :=
 ∃d p o n,log[k]?=some (.put d p o n)∧(d∈st∨((∀j,k<j→¬k6 log j p)∧ps[p]?≠ds[p]?))
def ug (ps ds:List Int) (log:List bN) (st:List Int) (k:Nat):Prop:=k≤log.length∧(∀j,j<k→¬pH ps ds log st j)∧(k<log.length→pH ps ds log st k)
theorem ug.uniq {ps ds:List Int}{log:List bN}{st:List Int}{k hh:Nat}(h:ug ps ds log st k) (h':ug ps ds log st hh):k=hh:=by
 obtain⟨a1,a2,kS⟩:=h
 obtain⟨e4,fK,iI⟩:=h'
 rcases Nat.lt_trichotomy k hh with z | z | z
 ·exact absurd (kS (by omega)) (fK k z)
 ·exact z
 ·exact absurd (iI (by omega)) (a2 hh z)
theorem KN {log:List bN}{i p:Nat}{d:Int}(h:log[i]?=some (.fin d)):¬k6 log i p:=fun ⟨_,_,_,e⟩=>by rw[h]at e;cases e
theorem JX {ps ds:List Int}{log:List bN}{st:List Int}{i:Nat}{d:Int}(h:log[i]?=some (.fin d)):¬pH ps ds log st i:=fun ⟨_,_,_,_,e,_⟩=>by rw[h]at e;cases e
theorem JT {log:List bN}{j p:Nat}(h:k6 log j p):j<log.length:=by
 obtain⟨_,_,_,e⟩:=h
 exact (List.getElem?_eq_some_iff.mp e).1
def Ku:dj:=fun vs H Q _=>∃(p d l s:Addr) (ps ds st:List Int) (xs:List V) (log:List bN),vs=[.ref p,.ref d,.ref l,.ref s]∧H p=some (.lst (ps.map V.int))∧H d=some (.lst (ds.map V.int))∧H l=some (.lst xs)∧H s=some (.lst (st.map V.int)) ∧
 gT H log xs∧(∀ln∈log,ln.ok ps.length)∧ps.length=ds.length∧log.length≤100000∧st.length≤1000∧∀(k:Nat) (af:ao),bO H af→ug ps ds log st k→Q (.int k) af
def LastOk (log:List bN) (kvs:List (Key × V)):Prop:=∀p k,k6 log k p→∃j:Nat,dw kvs (Sum.inl (p:Int))=some (.int j)∧k6 log j p∧∀hI,j<hI→¬k6 log hI p
def Kv:dj:=fun vs H Q _=>∃(l:Addr) (xs:List V) (log:List bN),vs=[.ref l]∧H l=some (.lst xs)∧gT H log xs∧log.length≤100000∧∀(r:Addr) (kvs:List (Key × V)) (af:ao),bO H af→af r=some (.bS kvs)→LastOk log kvs→Q (.ref r) af
theorem yS:dI ["log","places","place","line"] ["log"] (cR CQ):=d2
def pv (log:List bN) (i:Nat) (kvs:List (Key × V)):Prop:=∀p k,k<i→k6 log k p→∃j:Nat,j<i∧dw kvs (Sum.inl (p:Int))=some (.int j)∧k6 log j p∧∀hI,j<hI→hI<i→¬k6 log hI p
theorem pv.fin {log:List bN}{i:Nat}{kvs:List (Key × V)}{d:Int}(h:pv log i kvs) (e:log[i]?=some (.fin d)):pv log (i+1) kvs:=fun p k aS aF=>by
 have ZL:k≠i:=fun z=>by subst z;exact KN e aF
 obtain⟨j,ak,az,cz,dA⟩:=h p k (by omega) aF
 refine⟨j,by omega,az,cz,fun hI a b=>?_⟩
 by_cases z:hI=i
 ·rw[z];exact KN e
 ·exact dA hI a (by omega)
theorem pv.put {log:List bN}{i p:Nat}{kvs:List (Key × V)}{d o n:Int}(h:pv log i kvs) (e:log[i]?=some (.put d p o n)):pv log (i+1) (putK kvs (Sum.inl (p:Int)) (.int (i:Nat))):=fun eg k aS aF=>by
 by_cases cp:eg=p
 ·subst cp
  refine⟨i,by omega,by rw[uW,if_pos rfl],⟨d,o,n,e⟩,fun hI a b=>by omega⟩
 ·have ZL:k≠i:=fun z=>by
   subst z
   obtain⟨_,_,_,aM⟩:=aF
   rw[e]at aM
   cases aM
   exact cp rfl
  obtain⟨j,ak,az,cz,dA⟩:=h eg k (by omega) aF
  have q6:¬((Sum.inl (eg:Int):Key)=Sum.inl (p:Int)):=fun z=>cp (by have:=Sum.inl.inj z;omega)
  refine⟨j,by omega,by rw[uW,if_neg q6];exact az,cz,fun hI a b=>?_⟩
  by_cases z:hI=i
  ·rw[z]
   rintro⟨_,_,_,aM⟩
   rw[e]at aM
   cases aM
   exact cp rfl
  ·exact dA hI a (by omega)
theorem pv.done {log:List bN}{kvs:List (Key × V)}(h:pv log log.length kvs):LastOk log kvs:=fun p k aF=>by
 obtain⟨j,_,az,cz,dA⟩:=h p k (JT aF) aF
 exact⟨j,az,cz,fun hI a b=>dA hI a (JT b) b⟩
theorem U5 (F:bW K "last_put_places" "last_put_places" CQ f fd) (B:eY mg):br P w K mg base bX 1 f fd ["log"] Kv:=by
 refine F.ok yS (fun vs H Q E h=>?_) (fun cy A outer s H vs Q E aD h=>?_)
 ·obtain⟨l,xs,log,rfl,_⟩:=h
  rfl
 obtain⟨l,xs,log,rfl,aE,eS,nU,q⟩:=h
 have bf:=g_ aD
 have iD:=eS.1
 refine⟨_,(bq (dc (i:=1) yS.a_ rfl (Or.inl rfl) u0) (bq (hP PassesOwn.never rfl (Cu rfl B.ua (au (ah 0) aN)) (pq rfl (ja (ff (i:=2) yS.a_ rfl (Or.inl rfl)) (ja (ff (i:=3) yS.a_ rfl (Or.inl rfl)) pd))) (bg (cI (cM dJ (bE b6 (ah 3) aV (fun _ _=>rfl)) bB (cc _)) (bg (mA bf (ah 1) (bE b6 (ah 3) aV (fun _ _=>rfl)) (ah 2) rfl)) dk))) (bg (c_ (ah 1))))),?_⟩
 intro r iW
 refine⟨_,rfl,l,rfl,⟨xs,aO.of (bR iW _ _ _ aE)⟩,Jr (K:=K) (a:=l) (xs:=xs) (fun i σ ay=>∃(cg dO:Option V) (kvs:List (Key × V)),σ=[some (.ref l),some (.ref r),cg,dO]∧bO H ay∧ay r=some (.bS kvs)∧kvs.length≤i∧pv log i kvs)
  ⟨none,none,[],rfl,bR iW _,aR,le_refl _,fun p k aS _=>absurd aS (not_lt_zero _)⟩ (fun i σ ay _ ⟨_,_,_,_,s2,_⟩=>aO.of (s2 _ _ aE)) ?_ ?_⟩
 ·rintro i x σ ay pr aL ⟨cg,dO,kvs,rfl,s2,eG,Qm,p7⟩ Am
  have jg:i<xs.length:=(List.getElem?_eq_some_iff.mp aL).1
  obtain⟨ln,fO,gF⟩:=eS.get aL
  have s3:=s2.trans (bR Am (.tup [.int (i:Nat),x]))
  have j4:=gF.mono s3.e5
  have E8:(upd ay pr (.tup [.int (i:Nat),x])) r=some (.bS kvs):=by rw[aA (cB eG Am)];exact eG
  have PD:(upd ay pr (.tup [.int (i:Nat),x])) pr=some (.tup [.int (i:Nat),x]):=aR
  generalize upd ay pr (.tup [.int (i:Nat),x])=aT at s3 j4 E8 PD ⊢
  refine⟨pr,_,rfl,aG.of PD,rfl,_,_,rfl,_,_,rfl,rfl,?_⟩
  cases ln with
  | fin d =>
   obtain⟨c,rfl,ai⟩:=j4
   refine⟨_,rfl,c,_,_,_,rfl,rfl,aG.of ai,rfl,rfl,_,rfl,bu tw ?_⟩
   exact⟨_,_,kvs,rfl,s3,E8,by omega,p7.fin fO⟩
  | put d p o n =>
   obtain⟨c,rfl,ai⟩:=j4
   refine⟨_,rfl,c,_,_,_,rfl,rfl,aG.of ai,rfl,rfl,_,rfl,dE rfl ?_⟩
   refine⟨_,rfl,_,rfl,_,rfl,c,_,_,_,rfl,rfl,aG.of ai,rfl,r,_,rfl,oB.k (k:=Sum.inl (p:Int)) E8 (ih (by omega)),?_⟩
   have:=qk kvs (Sum.inl (p:Int):Key) (V.int (i:Nat))
   exact⟨_,_,_,rfl,s3.ig iW,aR,by omega,p7.put fO⟩
 ·rintro σ ay ⟨cg,dO,kvs,rfl,s2,eG,Qm,p7⟩
  rw[←iD]at p7
  exact⟨_,rfl,q r kvs ay s2 eG p7.done⟩
theorem rA:dI ["pages","desk","log","dealings","unended","last_places","place","line","page","uncarried"] zB (cR CN):=d2
theorem U8 {g:Addr}{jr:FuncData}(F:bW K "needed_from" "needed_from" CN f fd) (B:eY mg) (x3:br P w K mg base bX 1 g jr ["log"] Kv) (xR:Binds K jr ["log"] []) (Gu:keepIn K (.ref g)=true) (xo:mg "last_put_places"=some (.ref g)) :
  br P w K mg base bX 2 f fd zB Ku:=by
 refine F.ok rA (fun vs H Q E h=>?_) (fun cy A outer s H vs Q E aD h=>?_)
 ·obtain⟨p,d,l,s,ps,ds,st,xs,log,rfl,_⟩:=h
  rfl
 obtain⟨p,d,l,s0,ps,ds,st,xs,log,rfl,aF,hd,aE,aY,eS,bG,acT,nU,zs,q⟩:=h
 have iD:=eS.1
 have bf:=g_ aD
 refine⟨_,(bq (dc (i:=4) rA.a_ rfl (Or.inl rfl) (i9 (H9 aD.hd) rfl B.PR Ls (au (Cv [] ["dealing"] (k4.plain (by decide +kernel) rfl rfl) rfl (ku (ah 3)) (fun C s1 H1 bJ=>(gp (au (ah 0) (au ir aN))))) aN))) (bq (dc (i:=5) rA.a_ rfl (Or.inl rfl) (dR x3 (cE aD) rfl xo Gu xR .nil de (au (ah 2) aN))) (bq (hP PassesOwn.never rfl (Cu rfl B.ua (au (ah 2) aN)) (pq rfl (ja (ff (i:=6) rA.a_ rfl (Or.inl rfl)) (ja (ff (i:=7) rA.a_ rfl (Or.inl rfl)) pd))) (bg (cI (cM dJ (bE b6 (ah 7) aV (fun _ _=>rfl)) bB (cc _)) (bq (dc (i:=8) rA.a_ rfl (Or.inl rfl) (bE b6 (ah 7) aV (fun _ _=>rfl))) (bq (dc (i:=9) rA.a_ rfl (Or.inl rfl) (mD (iO dJ (eT bf (ah 5) (ah 8) (fun _ _=>rfl)) (ah 6) (cc _)) (qu (iO kY (bE fq (ah 0) (ah 8) (fun _ _=>rfl)) (bE fq (ah 1) (ah 8) (fun _ _=>rfl)) (cc _))))) (bg (cI (mC (tp (C5 bf (bE b6 (ah 7) aV (fun _ _=>rfl)) (ah 4))) (g8 (ah 9))) (bg (c_ (ah 6))) dk)))) dk))) (bg (c_ (d8 f6 rfl B.len PySem.boot_len (au (ah 2) aN))))))),?_⟩
 refine⟨_,rfl,s0,rfl,⟨_,aO.of aY⟩,fun acc ec=>Sl (K:=K) (w:=.bV true) aY ec (by omega) (fun z aT k aS=>⟨_,rfl,cZ,aS⟩) fun ys H1 s1 mJ lW=>?_⟩
 refine⟨acc,ys,st.map fun n=>((Sum.inl n:Key),V.bV true),rfl,mJ,fun j x bh=>?_,by rw[length_map];exact lW.1,by rw[←lW.1];omega,fun u gW=>?_⟩
 ·obtain⟨z,ak,az⟩:=lW.get bh
  exact⟨_,by rw[getElem?_map,ak];rfl,az⟩
 have nK:∀z:Int,(dw (putAll [] (st.map fun n=>((Sum.inl n:Key),V.bV true))) (Sum.inl z:Key)).isSome=decide (z∈st):=fun z=>by
  rw[putAll_has,BW]
  simp
 have s2:=s1.trans (bR gW (.bS (putAll [] (st.map fun n=>((Sum.inl n:Key),V.bV true)))))
 have jT:(upd H1 u (.bS (putAll [] (st.map fun n=>((Sum.inl n:Key),V.bV true))))) u=some (.bS (putAll [] (st.map fun n=>((Sum.inl n:Key),V.bV true)))):=aR
 generalize (putAll [] (st.map fun n=>((Sum.inl n:Key),V.bV true)))=us at nK s2 jT ⊢
 generalize upd H1 u (.bS us)=ay at s2 jT ⊢
 clear s1 mJ lW ec gW
 refine⟨_,rfl,l,xs,log,rfl,s2 _ _ aE,eS.mono fun a x h=>h.mono s2.e5,nU,fun r kvs aT s3 eG WV=>?_⟩
 have fm:=s2.trans s3
 have PB:=s3 _ _ jT
 refine⟨_,rfl,l,rfl,⟨xs,aO.of (fm _ _ aE)⟩,Jr (K:=K) (a:=l) (xs:=xs) (fun i σ cO=>∃iC fa fS gZ:Option V,σ=[some (.ref p),some (.ref d),some (.ref l),some (.ref s0),some (.ref u),some (.ref r),iC,fa,fS,gZ]∧bO aT cO∧∀j,j<i→¬pH ps ds log st j)
  ⟨none,none,none,none,rfl,bO.refl _,fun j di=>absurd di (not_lt_zero _)⟩ (fun i σ cO _ ⟨_,_,_,_,_,s4,_⟩=>aO.of (s4 _ _ (fm _ _ aE))) ?_ ?_⟩
 ·rintro i x σ cO pr aL ⟨iC,fa,fS,gZ,rfl,s4,aP⟩ Am
  have jg:i<xs.length:=(List.getElem?_eq_some_iff.mp aL).1
  obtain⟨ln,fO,gF⟩:=eS.get aL
  have aS:=bG ln (mem_of_getElem? fO)
  have s5:=s4.trans (bR Am (.tup [.int (i:Nat),x]))
  have PC:(upd cO pr (.tup [.int (i:Nat),x])) pr=some (.tup [.int (i:Nat),x]):=aR
  generalize upd cO pr (.tup [.int (i:Nat),x])=dC at s5 PC ⊢
  have ko:=fm.trans s5
  have j4:=gF.mono ko.e5
  have next:¬pH ps ds log st i→∀j,j<i+1→¬pH ps ds log st j:=fun h j di=>by
   by_cases e:j=i
   ·rw[e];exact h
   ·exact aP j (by omega)
  refine⟨pr,_,rfl,aG.of PC,rfl,_,_,rfl,_,_,rfl,rfl,?_⟩
  cases ln with
  | fin dd =>
   obtain⟨c,rfl,ai⟩:=j4
   refine⟨_,rfl,c,_,_,_,rfl,rfl,aG.of ai,rfl,rfl,_,rfl,bu tw ?_⟩
   exact⟨_,_,_,_,rfl,s5,next (JX fO)⟩
  | put dd pp AP nn =>
   obtain⟨c,rfl,ai⟩:=j4
   have Zq:pp<ps.length:=aS
   obtain⟨dm,a1,e4⟩:=kX (ns:=ps) (k:=((pp:Nat):Int)) (by omega) (by omega)
   obtain⟨dW,a2,fK⟩:=kX (ns:=ds) (k:=((pp:Nat):Int)) (by omega) (by omega)
   rw[Int.toNat_natCast]at a1 a2
   obtain⟨j,h5,Gw,QL⟩:=WV pp i ⟨dd,AP,nn,fO⟩
   have vN:e9 dC r (.int (pp:Nat)) (some (.int (j:Nat))):=by
    have h0:=e9.k (k:=Sum.inl ((pp:Nat):Int)) (s5 _ _ eG)
    rw[h5]at h0
    exact h0
   have J0:j=i↔∀hI,i<hI→¬k6 log hI pp:=by
    constructor
    ·intro e;rw[←e];exact QL
    ·intro h
     rcases Nat.lt_trichotomy j i with z | z | z
     ·exact absurd ⟨dd,AP,nn,fO⟩ (QL i z)
     ·exact z
     ·exact absurd Gw (h j z)
   refine⟨_,rfl,c,_,_,_,rfl,rfl,aG.of ai,rfl,rfl,_,rfl,dE rfl ?_⟩
   refine⟨_,rfl,c,_,_,_,rfl,rfl,aG.of ai,rfl,?_⟩
   have join:∀b:Bool,(b=true↔((∀hI,i<hI→¬k6 log hI pp)∧ps[pp]?≠ds[pp]?)) →
     (b=true∨dd∈st↔pH ps ds log st i):=fun b aa=>by
    constructor
    ·rintro (z | z)
     ·exact⟨dd,pp,AP,nn,fO,.inr (aa.mp z)⟩
     ·exact⟨dd,pp,AP,nn,fO,.inl z⟩
    ·rintro⟨e2,es,cg,dP,aM,Zv⟩
     rw[fO]at aM
     cases aM
     rcases Zv with z | z
     ·exact .inr z
     ·exact .inl (aa.mpr z)
   have YC:ps[pp]?≠ds[pp]?↔dm≠dW:=by
    rw[a1,a2]
    exact⟨fun h e=>h (by rw[e]),fun h e=>h (Option.some.inj e)⟩
   refine⟨_,rfl,_,rfl,r,_,rfl,vN,_,rfl,rfl,_,rfl,?_⟩
   refine gq (fun cN=>?_) (fun cN=>?_)
   ·have aaf:j=i:=by
     have e:V.int (j:Nat)=V.int (i:Nat):=of_decide_eq_true cN
     injection e with e
     omega
    refine⟨_,rfl,_,rfl,p,_,_,_,rfl,rfl,aO.of (ko _ _ aF),e4,_,rfl,_,rfl,d,_,_,_,rfl,rfl,aO.of (ko _ _ hd),fK,rfl,?_⟩
    have aa:=join (!decide (V.int dm=V.int dW)) (by
     rw[YC]
     constructor
     ·intro h
      refine⟨J0.mp aaf,fun e=>?_⟩
      rw[e]at h
      simp at h
     ·rintro⟨_,h⟩
      have:¬V.int dm=V.int dW:=fun e=>h (by injection e)
      simp[this])
    generalize (!decide (V.int dm=V.int dW))=b at aa ⊢
    refine⟨_,rfl,c,_,_,_,rfl,rfl,aG.of ai,rfl,_,rfl,u,_,rfl,e9.k (k:=Sum.inl dd) (s5 _ _ PB),_,rfl,?_⟩
    rw[nK dd]
    refine gq (fun dB=>?_) (fun dB=>?_)
    ·refine el ?_
     exact⟨_,rfl,q i dC ko ⟨by omega,aP,fun _=>aa.mp (.inr (of_decide_eq_true dB))⟩⟩
    ·have v9:¬dd∈st:=fun h=>dB (decide_eq_true h)
     refine⟨_,rfl,_,rfl,gq (fun e3=>?_) (fun e3=>?_)⟩
     ·exact⟨_,rfl,q i dC ko ⟨by omega,aP,fun _=>aa.mp (.inl e3)⟩⟩
     ·refine⟨_,_,_,_,rfl,s5,next fun h=>?_⟩
      rcases aa.mpr h with z | z
      ·exact e3 z
      ·exact v9 z
   ·have YL:¬j=i:=fun e=>cN (by rw[e];exact decide_eq_true rfl)
    have aa:=join false ⟨(fun z=>nomatch z),fun z=>absurd (J0.mpr z.1) YL⟩
    generalize false=b at aa ⊢
    refine⟨_,rfl,c,_,_,_,rfl,rfl,aG.of ai,rfl,_,rfl,u,_,rfl,e9.k (k:=Sum.inl dd) (s5 _ _ PB),_,rfl,?_⟩
    rw[nK dd]
    refine gq (fun dB=>?_) (fun dB=>?_)
    ·refine el ?_
     exact⟨_,rfl,q i dC ko ⟨by omega,aP,fun _=>aa.mp (.inr (of_decide_eq_true dB))⟩⟩
    ·have v9:¬dd∈st:=fun h=>dB (decide_eq_true h)
     refine⟨_,rfl,_,rfl,gq (fun e3=>?_) (fun e3=>?_)⟩
     ·exact⟨_,rfl,q i dC ko ⟨by omega,aP,fun _=>aa.mp (.inl e3)⟩⟩
     ·refine⟨_,_,_,_,rfl,s5,next fun h=>?_⟩
      rcases aa.mpr h with z | z
      ·exact e3 z
      ·exact v9 z
 ·rintro σ cO ⟨iC,fa,fS,gZ,rfl,s4,aP⟩
  refine⟨_,rfl,l,xs,rfl,.inl (aO.of (s4 _ _ (fm _ _ aE))),?_⟩
  rw[←iD]at aP ⊢
  exact q log.length cO (fm.trans s4) ⟨le_refl _,aP,fun h=>absurd h (lt_irrefl _)⟩
theorem yu {ps ds:List Int}{log:List bN}{st:List Int}{ln:bN}{k:Nat}:pH ps ds (ln::log) st (k+1)↔pH ps ds log st k:=by
 have pc:∀j p,k6 (ln::log) (j+1) p↔k6 log j p:=fun j p=>Iff.rfl
 constructor
 ·rintro⟨d,p,o,n,e,h⟩
  refine⟨d,p,o,n,e,h.imp id fun h=>⟨fun j di=>?_,h.2⟩⟩
  exact fun z=>h.1 (j+1) (by omega) ((pc j p).mpr z)
 ·rintro⟨d,p,o,n,e,h⟩
  refine⟨d,p,o,n,e,h.imp id fun h=>⟨fun j di=>?_,h.2⟩⟩
  cases j with
  | zero=>omega
  | succ j=>exact fun z=>h.1 j (by omega) ((pc j p).mp z)
theorem Cw (ps ds st:List Int) (op:Int→Bool) (aC:∀d,op d=true↔d∈st):∀log:List bN,ug ps ds log st (ep ps ds op log)
 | []=>⟨le_refl _,fun j di=>absurd di (not_lt_zero _),fun h=>absurd h (lt_irrefl _)⟩
 | .fin d::r=>by
  obtain⟨ak,az,cz⟩:=Cw ps ds st op aC r
  refine⟨Nat.succ_le_succ ak,fun j di=>?_,fun h=>?_⟩
  ·cases j with
   | zero=>exact JX (d:=d) rfl
   | succ j=>exact fun z=>az j (Nat.lt_of_succ_lt_succ di) (yu.mp z)
  ·exact yu.mpr (cz (Nat.lt_of_succ_lt_succ h))
 | .put d p o n::r=>by
  have later:r.any (iR p)=false↔∀j,0<j→¬k6 (.put d p o n::r) j p:=by
   constructor
   ·intro h j di z
    cases j with
    | zero=>omega
    | succ j =>
     obtain⟨e2,cg,dP,e⟩:=z
     have cX:r[j]?=some (.put e2 p cg dP):=e
     have:r.any (iR p)=true:=any_eq_true.mpr ⟨_,mem_of_getElem? cX,decide_eq_true rfl⟩
     rw[h]at this
     cases this
   ·intro h
    cases q:r.any (iR p) with
    | false=>rfl
    | true =>
     obtain⟨ln,hm,aF⟩:=any_eq_true.mp q
     obtain⟨j,di⟩:=List.mem_iff_getElem?.mp hm
     cases ln with
     | fin e2=>cases aF
     | put e2 es cg dP =>
      have e:es=p:=of_decide_eq_true aF
      subst e
      exact absurd ⟨e2,cg,dP,di⟩ (h (j+1) (Nat.succ_pos j))
  show ug ps ds _ st (if op d=true∨(r.any (iR p)=false∧ps[p]?≠ds[p]?) then 0 else ep ps ds op r+1)
  by_cases c:op d=true∨(r.any (iR p)=false∧ps[p]?≠ds[p]?)
  ·rw[if_pos c]
   refine⟨zero_le _,fun j di=>absurd di (not_lt_zero _),fun _=>⟨d,p,o,n,rfl,c.imp (aC d).mp fun z=>⟨later.mp z.1,z.2⟩⟩⟩
  ·rw[if_neg c]
   obtain⟨ak,az,cz⟩:=Cw ps ds st op aC r
   refine⟨Nat.succ_le_succ ak,fun j di=>?_,fun h=>yu.mpr (cz (Nat.lt_of_succ_lt_succ h))⟩
   cases j with
   | zero =>
    rintro⟨e2,es,cg,dP,e,h⟩
    cases e
    exact c (h.imp (aC d).mpr fun z=>⟨later.mpr z.1,z.2⟩)
   | succ j=>exact fun z=>az j (Nat.lt_of_succ_lt_succ di) (yu.mp z)
def za (a5 aI:Addr):dj:=fun vs H Q _=>∃(a:ee) (lo:Addr) (pl:List (Int × Addr)) (x:aq) (aQ:List (Key × V)),vs=[.ref a.h]∧cQ a5 aI H a lo pl x aQ∧x.fits 1∧pl.length≤1000 ∧
 ∀lo' af,cQ a5 aI af a lo' pl x.dS aQ→eL a lo pl lo' pl H af→Q .cP af
def yM (a5 aI cH:Addr):dj:=fun vs H Q E=>∃(a:ee) (lo:Addr) (pl:List (Int × Addr)) (x:aq) (aQ:List (Key × V)) (p:Int),vs=[.ref a.h,.int p]∧cQ a5 aI H a lo pl x aQ∧p.natAbs.log2<1920∧x.fits 1 ∧
 (if p<0∨(x.av.length:Int)≤p then E (.ref cH) none H else ∀lo' af,cQ a5 aI af a lo' pl (x.dZ p.toNat) aQ→eL a lo pl lo' pl H af→Q .cP af)
def Cd (a5 aI:Addr):dj:=fun vs H Q _=>∃(a:ee) (lo:Addr) (pl:List (Int × Addr)) (x:aq) (aQ:List (Key × V)),vs=[.ref a.h]∧cQ a5 aI H a lo pl x aQ∧x.av.length≤1000∧x.fits (x.av.length+1)∧pl.length≤1000 ∧
 ∀lo' af,cQ a5 aI af a lo' pl x.gd aQ→eL a lo pl lo' pl H af→Q .cP af
def yR (a5 aI cT:Addr):dj:=fun vs H Q E=>∃(a:ee) (lo:Addr) (pl:List (Int × Addr)) (x:aq) (aQ:List (Key × V)) (m:Nat),vs=[.ref a.h,.int (m:Nat)]∧cQ a5 aI H a lo pl x aQ∧m≤10∧x.av.length≤1000∧x.fits (x.av.length+1)∧pl.length≤1000 ∧
 ∀lo' af,cQ a5 aI af a lo' pl (x.full (m:Nat)).1 aQ→eL a lo pl lo' pl H af→if (x.full (m:Nat)).2=true then E (.ref cT) none af else Q .cP af
theorem K2:dI ["self","many"] k9 (cR DK):=d2
theorem VU {a5 aI:Addr}{fx:Addr}{gC:FuncData}{l_:Addr}{n6:FuncData}(F:bW K "cut" "House.cut" DK f fd) (B:eY mg) (T:iN K mg aI) (lJ:qo K mg a5) (i8:br P w K mg base bX 2 fx gC j7 (tF a5 aI)) (i5:Binds K gC j7 []) (iZ:Meth K aI "make_stroke" fx)
  (sS:br P w K mg base bX 2 l_ n6 zB Ku) (sH:Binds K n6 zB []) (Gs:keepIn K (.ref l_)=true) (mN:mg "needed_from"=some (.ref l_)):br P w K mg base bX 3 f fd k9 (za a5 aI):=by
 refine F.ok K2 (fun vs H Q E h=>?_) (fun cy A outer s H vs Q E aD h=>?_)
 ·obtain⟨a,lo,pl,x,aQ,rfl,_⟩:=h
  rfl
 obtain⟨a,lo,pl,x,aQ,rfl,A,iv,hR,q⟩:=h
 obtain⟨dx,b8⟩:=A.bY
 obtain⟨dy,cg⟩:=A.co
 obtain⟨xs,aH,aM⟩:=A.aE
 refine⟨_,(bq (dc (i:=1) K2.a_ rfl (Or.inl rfl) (dR sS (cE aD) rfl mN Gs sH .nil de (au (fj (fj (ah 0) rfl) rfl) (au (fj (ah 0) rfl) (au (fj (fj (ah 0) rfl) rfl) (au (i9 (BH aD.hd) rfl B.lst iT (au (fj (ah 0) rfl) aN)) aN)))))) (bg (cI (cM rE (ah 1) aV (cc _)) (bg (dH (g7 (ah 0) T.cl iZ i8 (cE aD) i5 .nil de (au (gp (au bB (au (ah 1) aN))) aN)))) dk))),?_⟩
 refine⟨_,rfl,a.h,aI,dx,_,_,rfl,b8,T.cl,T.tf,uS .., a.c,a5,dy,_,_,rfl,cg,lJ.cl,lJ.AQ,Bu _ _,_,rfl,a.h,aI,dx,_,_,rfl,b8,T.cl,T.ou,pg .., _,rfl,a.h,aI,dx,_,_,rfl,b8,T.cl,T.tf,uS .., a.c,a5,dy,_,_,rfl,cg,lJ.cl,lJ.uq,yx _ _,_,rfl,a.h,aI,dx,_,_,rfl,b8,T.cl,T.qx,rz .., a.pu,_,rfl,A.aF,fun l aE=>?_⟩
 have gI:(d3 pl).map (fun z=>eo z.1)=(pl.map (·.1)).map V.int:=Ct pl
 have s1:=bR aE (.lst ((d3 pl).map fun z=>eo z.1))
 have du:(upd H l (.lst ((d3 pl).map fun z=>eo z.1))) l=some (.lst ((pl.map (·.1)).map V.int)):=by rw[aR,gI]
 generalize upd H l (.lst ((d3 pl).map fun z=>eo z.1))=H1 at s1 du ⊢
 have b5:=A.same s1
 have nH:∀d,x.isOpen d=true↔d∈pl.map (·.1):=fun d=>by
  rw[A.dF.e1]
  unfold aq.isOpen
  rw[any_eq_true,mem_map]
  constructor
  ·rintro⟨z,hz,e⟩;exact⟨z,hz,beq_iff_eq.mp e⟩
  ·rintro⟨z,hz,e⟩;exact⟨z,hz,by rw[e];exact beq_self_eq_true d⟩
 refine⟨a.ce,a.aj,lo,l,x.b_,x.av,pl.map (·.1),xs,x.log,rfl,b5.ai,b5.hd,s1 _ _ aH,du,aM.mono fun b y h=>h.mono s1.e5,fun ln h=>by rw[A.dF.cd];exact iv.2.2 ln h,A.dF.cd,by have:=iv.2.1;omega,by rw[length_map];exact hR,fun k ay s2 aS=>?_⟩
 have aae:k=ep x.b_ x.av x.isOpen x.log:=aS.uniq (Cw _ _ _ _ nH _)
 subst aae
 have bC:=b5.same s2
 obtain⟨jh,gM⟩:=bC.bY
 refine⟨_,rfl,_,_,rfl,rfl,_,rfl,gq (fun cN=>?_) (fun cN=>?_)⟩
 ·have dB:(0:Int)<((ep x.b_ x.av x.isOpen x.log:Nat):Int):=of_decide_eq_true cN
  refine⟨_,rfl,a.h,jh,_,rfl,gM,(by kernel_rfl),_,rfl,cZ,fun t aZ=>?_⟩
  have s3:=bR aZ (.tup [.str "cut",.int ((ep x.b_ x.av x.isOpen x.log:Nat):Int)])
  refine⟨a,lo,pl,x,aQ,_,.cut (ep x.b_ x.av x.isOpen x.log),rfl,bC.same s3,JS aR,trivial,iv,fun lo' cO dV gj=>?_⟩
  have hi:x.dS=x.c9 (.cut (ep x.b_ x.av x.isOpen x.log)):=by
   unfold aq.dS
   rw[if_pos (by omega)]
  rw[←hi]at dV
  exact q lo' cO dV ((s1.trans (s2.trans s3)).moves.trans gj)
 ·have dB:¬(0:Int)<((ep x.b_ x.av x.isOpen x.log:Nat):Int):=fun z=>cN (decide_eq_true z)
  have hi:x.dS=x:=by
   unfold aq.dS
   rw[if_neg (by omega)]
  rw[hi]at q
  exact q lo ay bC (s1.trans s2).moves
theorem UP:dI hQ hQ (cR CW):=d2
theorem Uc {a5 aI cH:Addr}{fx:Addr}{gC:FuncData}{hL:Addr}{iG:FuncData}(F:bW K "carry" "House.carry" CW f fd) (T:iN K mg aI) (lJ:qo K mg a5) (i8:br P w K mg base bX 2 fx gC j7 (tF a5 aI)) (i5:Binds K gC j7 []) (iZ:Meth K aI "make_stroke" fx)
  (mj:br P w K mg base (d_ P w) 1 hL iG hQ (vc a5 aI cH)) (md:Binds K iG hQ []) (kj:Meth K aI "ask_page" hL):br P w K mg base (d_ P w) 3 f fd hQ (yM a5 aI cH):=by
 refine F.nE UP (fun vs H Q E h=>?_) (fun cy A outer s H vs Q E aD h=>?_)
 ·obtain⟨a,lo,pl,x,aQ,p,rfl,_⟩:=h
  rfl
 obtain⟨a,lo,pl,x,aQ,p,rfl,A,h1,iv,q⟩:=h
 obtain⟨dx,b8⟩:=A.bY
 obtain⟨dy,cg⟩:=A.co
 refine⟨_,(bq (dH (g7 (ah 0) T.cl kj mj (cE aD) md .nil (j0 fun _ _ z=>z) (au (ah 1) aN))) (bg (cI (cM kY (bE fq (fj (fj (ah 0) rfl) rfl) (ah 1) (fun _ _=>rfl)) (bE fq (fj (ah 0) rfl) (ah 1) (fun _ _=>rfl)) (cc _)) (bg (dH (g7 (ah 0) T.cl iZ i8 (cE aD) i5 .nil de (au (gp (au bB (au (ah 1) (au (bE fq (fj (ah 0) rfl) (ah 1) (fun _ _=>rfl)) aN)))) aN)))) dk))),?_⟩
 refine⟨_,rfl,a.h,dx,_,rfl,b8,(by kernel_rfl),_,rfl,a,lo,pl,x,aQ,p,rfl,A,h1,?_⟩
 by_cases c:p<0∨(x.av.length:Int)≤p
 ·rw[if_pos c]at q ⊢
  exact q
 rw[if_neg c]at q ⊢
 have aF:p.toNat<x.av.length:=by omega
 have cp:p=((p.toNat:Nat):Int):=by omega
 obtain⟨dm,cS,e6⟩:=A.dF.atC aF
 obtain⟨dW,c2,eB⟩:=A.dF.q2 aF
 rw[←cp]at e6 eB
 have gA:x.av.getD p.toNat 0=dW:=by rw[getD_eq_getElem?_getD,c2];rfl
 refine⟨_,rfl,a.h,aI,dx,_,_,rfl,b8,T.cl,T.tf,uS .., a.c,a5,dy,_,_,rfl,cg,lJ.cl,lJ.AQ,Bu _ _,_,rfl,a.ce,_,_,_,rfl,rfl,aO.of A.ai,e6,_,rfl,a.h,aI,dx,_,_,rfl,b8,T.cl,T.ou,pg .., _,rfl,a.aj,_,_,_,rfl,rfl,aO.of A.hd,eB,rfl,_,rfl,?_⟩
 by_cases e:dm=dW
 ·subst e
  refine nq rfl ?_
  have hi:x.dZ p.toNat=x:=by
   unfold aq.dZ
   rw[if_pos (cS.trans c2.symm)]
  rw[hi]at q
  exact q lo H A (eL.refl ..)
 ·refine pF (fun z=>e (by injection z)) ?_
  refine⟨_,rfl,a.h,dx,_,rfl,b8,(by kernel_rfl),_,rfl,_,rfl,a.h,aI,dx,_,_,rfl,b8,T.cl,T.ou,pg .., _,rfl,a.aj,_,_,_,rfl,rfl,aO.of A.hd,eB,cZ,fun t aZ=>?_⟩
  have s1:=bR aZ (.tup [.str "page",.int p,.int dW])
  have aX:Rep (upd H t (.tup [.str "page",.int p,.int dW])) (bp.d9 p.toNat dW).D (.ref t):=Jb (by rw[aR,←cp])
  refine⟨a,lo,pl,x,aQ,_,.d9 p.toNat dW,rfl,A.same s1,aX,aF,iv,fun lo' ay bC cu=>?_⟩
  have hi:x.dZ p.toNat=x.c9 (.d9 p.toNat dW):=by
   unfold aq.dZ
   rw[if_neg (by rw[cS,c2];exact fun z=>e (Option.some.inj z)),gA]
  rw[←hi]at bC
  exact q lo' ay bC (s1.moves.trans cu)
theorem LG:dI hQ k9 (cR CP):=d2
theorem WG {a5 aI cH:Addr}{jS:Addr}{lG:FuncData}{jR:Addr}{lF:FuncData}(F:bW K "make_room" "House.make_room" CP f fd) (B:eY mg) (T:iN K mg aI) (qf:br P w K mg base (d_ P w) 3 jS lG hQ (yM a5 aI cH)) (qa:Binds K lG hQ []) (p2:Meth K aI "carry" jS)
  (qe:br P w K mg base bX 3 jR lF k9 (za a5 aI)) (p_:Binds K lF k9 []) (p1:Meth K aI "cut" jR):br P w K mg base bX 4 f fd k9 (Cd a5 aI):=by
 refine F.ok LG (fun vs H Q E h=>?_) (fun cy A outer s H vs Q E aD h=>?_)
 ·obtain⟨a,lo,pl,x,aQ,rfl,_⟩:=h
  rfl
 obtain⟨a,lo,pl,x,aQ,rfl,A,hd,iv,hR,q⟩:=h
 obtain⟨dx,b8⟩:=A.bY
 have ld:(x.av.map V.int).length=x.av.length:=length_map _
 refine⟨_,(bq (hP PassesOwn.never rfl (s_ rfl B.j6 (au (d8 f6 rfl B.len PySem.boot_len (au (fj (ah 0) rfl) aN)) aN)) (ff (i:=1) LG.a_ rfl (Or.inl rfl)) (bg (dH (g7 (ah 0) T.cl p2 qf (cE aD) qa .nil VM (au (ah 1) aN))))) (bg (dH (yG (ah 0) T.cl p1 qe (cE aD) p_ .nil de)))),?_⟩
 refine⟨_,rfl,a.h,aI,dx,_,_,rfl,b8,T.cl,T.ou,pg .., a.aj,_,rfl,.inl (aO.of A.hd),_,rfl,by omega,by omega,uU (fun i σ ay=>∃(lo1:Addr) (o:Option V),σ=[some (.ref a.h),o]∧cQ a5 aI ay a lo1 pl (x.eU i) aQ∧eL a lo pl lo1 pl H ay)
  ⟨lo,none,rfl,A,eL.refl ..⟩ ?_ ?_⟩
 ·rintro i σ ay aL ⟨lo1,o,rfl,bC,cu⟩
  have jg:i<x.av.length:=by omega
  have e0:(0:Int)+(i:Int)=((i:Nat):Int):=by omega
  rw[e0]
  obtain⟨jh,gM⟩:=bC.bY
  have qT:(x.eU i).fits 1:=(iv.mono (by omega:i+1≤x.av.length+1)).eU (by omega)
  have d4:(x.eU i).av.length=x.av.length:=by rw[rm]
  refine⟨_,rfl,a.h,jh,_,rfl,gM,(by kernel_rfl),_,rfl,a,lo1,pl,x.eU i,aQ,_,rfl,bC,uR (by omega),qT,?_⟩
  rw[if_neg (by rw[d4];omega)]
  intro eN aT cj fb
  rw[Int.toNat_natCast,←kq]at cj
  exact⟨eN,_,rfl,cj,cu.trans fb⟩
 ·rintro σ ay ⟨lo1,o,rfl,bC,cu⟩
  have uz:((x.av.map V.int).length:Int).toNat=x.av.length:=by omega
  have Qj:cQ a5 aI ay a lo1 pl (x.eU x.av.length) aQ:=by
   simpa[ld] using bC
  obtain⟨jh,gM⟩:=Qj.bY
  refine⟨_,rfl,a.h,jh,_,rfl,gM,(by kernel_rfl),a,lo1,pl,x.eU x.av.length,aQ,rfl,Qj,iv.eU (le_refl _),hR,fun eN aT cj fb=>?_⟩
  rw[←kr]at cj
  exact q eN aT cj (cu.trans fb)
theorem Xq:dI mM mM (cR Dl):=d2
theorem WL {a5 aI cU cH c4 cT:Addr}{uv:Addr}{xJ:FuncData}{QT:Addr}{Q4:FuncData}(F:bW K "ask_room" "House.ask_room" Dl f fd) (T:iN K mg aI) (E:sf K mg cU cH c4 cT) (Ba:br P w K mg base bX 1 uv xJ mM (CG a5 aI)) (A3:Binds K xJ mM []) (AS:Meth K aI "has_room" uv)
  (GM:br P w K mg base bX 4 QT Q4 k9 (Cd a5 aI)) (abB:Binds K Q4 k9 []) (abd:Meth K aI "make_room" QT):br P w K mg base (d_ P w) 5 f fd mM (yR a5 aI cT):=by
 refine F.nE Xq (fun vs H Q hO h=>?_) (fun cy A outer s H vs Q hO aD h=>?_)
 ·obtain⟨a,lo,pl,x,aQ,m,rfl,_⟩:=h
  rfl
 obtain⟨a,lo,pl,x,aQ,m,rfl,A,hm,hd,iv,hR,q⟩:=h
 obtain⟨dx,b8⟩:=A.bY
 refine⟨_,(bg (cI (jb (g8 (g7 (ah 0) T.cl AS Ba (cE aD) A3 .nil de (au (ah 1) aN)))) (bq (dH (yG (ah 0) T.cl abd GM (cE aD) abB .nil de)) (bg (cI (jb (g8 (g7 (ah 0) T.cl AS Ba (cE aD) A3 .nil de (au (ah 1) aN)))) (bg (yE E.aa2 E.o3 excBase_ValueError rfl (yt (mB 2000 bB (mB 2000 (vg (ah 1)) (mB 2000 bB yU)))))) dk))) dk)),?_⟩
 refine⟨_,rfl,a.h,dx,_,rfl,b8,(by kernel_rfl),_,rfl,a,lo,pl,x,aQ,_,rfl,A,_,rfl,?_⟩
 cases aH:x.hx ((m:Nat):Int) with
 | true =>
  refine cV ?_
  have lD:x.full ((m:Nat):Int)=(x,false):=by
   unfold aq.full
   rw[if_pos aH]
  have aW:=q lo H (by rw[lD];exact A) (eL.refl ..)
  rw[lD,if_neg (fun z=>nomatch z)]at aW
  exact aW
 | false =>
  refine el ?_
  refine⟨_,rfl,a.h,dx,_,rfl,b8,(by kernel_rfl),a,lo,pl,x,aQ,rfl,A,hd,iv,hR,fun lo1 H1 b5 cn=>?_⟩
  have lD:x.full ((m:Nat):Int)=(x.gd, !x.gd.hx ((m:Nat):Int)):=by
   unfold aq.full
   rw[if_neg (by rw[aH];exact fun z=>nomatch z)]
  have aW:=q lo1 H1 (by rw[lD];exact b5) cn
  rw[lD]at aW
  obtain⟨Fc,hB⟩:=b5.bY
  refine⟨_,rfl,a.h,Fc,_,rfl,hB,(by kernel_rfl),_,rfl,a,lo1,pl,_,aQ,_,rfl,b5,_,rfl,?_⟩
  cases aM:x.gd.hx ((m:Nat):Int) with
  | true =>
   rw[aM]at aW
   exact cV aW
  | false =>
   rw[aM]at aW
   refine el ?_
   have c6:=uR (n:=m) (by omega)
   exact⟨_,rfl,(le_of_ble_eq_true rfl),_,rfl,_,rfl,c6,_,rfl,(le_trans (s7 c6) (by decide)),_,rfl,(le_of_ble_eq_true rfl),fun _=>aW⟩
theorem sZ {x:aq}{e:b7}{w:Str}(h:x.refusal e=some w):x.a4 e=(x,.word w):=by
 unfold aq.a4
 rw[h]
theorem rr {x:aq}{e:b7}(h:x.refusal e=none):x.a4 e=x.gg e:=by
 unfold aq.a4
 rw[h]
def mG (cU cH c4 cT:Addr) (o6:V) (Q:cD) (E:hj) (H:ao):cW→Prop
 | .num i=>Q (.int i) H
 | .word w=>if w="done" then Q o6 H else if w="no dealing" then E (.ref cU) none H else if w="no page" then E (.ref cH) none H else if w="taken" then E (.ref c4) none H else E (.ref cT) none H
section
variable {cU cH c4 cT:Addr}{o6:V}{Q:cD}{E:hj}{H:ao}
theorem te:mG cU cH c4 cT o6 Q E H (.word "done")↔Q o6 H:=by unfold mG;dsimp only;rw[if_pos rfl]
theorem yf:mG cU cH c4 cT o6 Q E H (.word "no dealing")↔E (.ref cU) none H:=by unfold mG;dsimp only;rw[if_neg (by decide +kernel),if_pos rfl]
theorem td:mG cU cH c4 cT o6 Q E H (.word "no page")↔E (.ref cH) none H:=by unfold mG;dsimp only;rw[if_neg (by decide +kernel),if_neg (by decide +kernel),if_pos rfl]
theorem IB:mG cU cH c4 cT o6 Q E H (.word "taken")↔E (.ref c4) none H:=by unfold mG;dsimp only;rw[if_neg (by decide +kernel),if_neg (by decide +kernel),if_neg (by decide +kernel),if_pos rfl]
theorem u1:mG cU cH c4 cT o6 Q E H (.word "no room")↔E (.ref cT) none H:=by unfold mG;dsimp only;rw[if_neg (by decide +kernel),if_neg (by decide +kernel),if_neg (by decide +kernel),if_neg (by decide +kernel)]
end
def After (a5 aI cU cH c4 cT:Addr) (o6:V) (a:ee) (lo:Addr) (pl:List (Int × Addr)) (x:aq) (aQ:List (Key × V)) (H:ao) (Q:cD) (E:hj) (e:b7):Prop :=
 ∀lo' hb hA af,cQ a5 aI af a lo' hb (x.a4 e).1 hA→hA.length≤aQ.length+1→eL a lo pl lo' hb H af→mG cU cH c4 cT o6 Q E af (x.a4 e).2
structure Ready (a5 aI:Addr) (H:ao) (a:ee) (lo:Addr) (pl:List (Int × Addr)) (x:aq) (aQ:List (Key × V)) (n:Nat):Prop where
 uo:cQ a5 aI H a lo pl x aQ
 jr:x.good n
 dT:n≤110
 h3:aQ.length≤100000
 GN:x.begun≤900
def c6 (i:Int):Prop:=i.natAbs.log2<1920
def Ci (a5 aI cU cH c4 cT:Addr):dj:=fun vs H Q E=>∃(a:ee) (lo:Addr) (pl:List (Int × Addr)) (x:aq) (aQ:List (Key × V)) (n:Nat),vs=[.ref a.h]∧Ready a5 aI H a lo pl x aQ n∧After a5 aI cU cH c4 cT .cP a lo pl x aQ H Q E .begin
def Dc (a5 aI cU cH c4 cT:Addr):dj:=fun vs H Q E=>∃(a:ee) (lo:Addr) (pl:List (Int × Addr)) (x:aq) (aQ:List (Key × V)) (n:Nat) (d p k:Int),vs=[.ref a.h,.int d,.int p,.int k]∧Ready a5 aI H a lo pl x aQ n∧c6 d∧c6 p∧After a5 aI cU cH c4 cT .cP a lo pl x aQ H Q E (.put d p k)
def y_ (a5 aI cU cH c4 cT:Addr):dj:=fun vs H Q E=>∃(a:ee) (lo:Addr) (pl:List (Int × Addr)) (x:aq) (aQ:List (Key × V)) (n:Nat) (d:Int),vs=[.ref a.h,.int d]∧cQ a5 aI H a lo pl x aQ∧x.fits 1∧c6 d∧(if x.isOpen d=false then E (.ref cU) none H else ∀lo' af,cQ a5 aI af a lo' (pl.filter fun z=>z.1 != d) (x.fC d) aQ→eL a lo pl lo' (pl.filter fun z=>z.1 != d) H af→Q .cP af)
def CH (a5 aI cU cH c4 cT:Addr):dj:=fun vs H Q E=>∃(a:ee) (lo:Addr) (pl:List (Int × Addr)) (x:aq) (aQ:List (Key × V)) (n:Nat) (d:Int),vs=[.ref a.h,.int d]∧Ready a5 aI H a lo pl x aQ n∧c6 d∧After a5 aI cU cH c4 cT .cP a lo pl x aQ H Q E (.drop d)
def CF (a5 aI cU cH c4 cT:Addr):dj:=fun vs H Q E=>∃(a:ee) (lo:Addr) (pl:List (Int × Addr)) (x:aq) (aQ:List (Key × V)) (n:Nat) (p:Int),vs=[.ref a.h,.int p]∧Ready a5 aI H a lo pl x aQ n∧c6 p∧After a5 aI cU cH c4 cT .cP a lo pl x aQ H Q E (.look p)
section
variable {a5 aI:Addr}{H:ao}{a:ee}{lo:Addr}{pl:List (Int × Addr)}{x:aq}{aQ:List (Key × V)}{n:Nat}
theorem Ready.fits (R:Ready a5 aI H a lo pl x aQ n) {k:Nat}(aS:k≤50000):x.fits k:=R.jr.fits (by have:=R.dT;omega) aS
theorem Ready.z3 (R:Ready a5 aI H a lo pl x aQ n):pl.length≤1000:=by
 have ak:=R.uo.dF.mH
 have az:=R.jr.pl
 have cz:=R.dT
 omega
theorem Ready.jU (R:Ready a5 aI H a lo pl x aQ n):x.av.length≤1000:=by
 have:=R.jr.e2
 omega
end
theorem JO:dI hY k9 (cR CZ):=d2
theorem Ue {a5 aI cU cH c4 cT:Addr}{l9:Addr}{n5:FuncData}(F:bW K "begin" "House.begin" CZ f fd) (T:iN K mg aI) (sR:br P w K mg base (d_ P w) 5 l9 n5 mM (yR a5 aI cT)) (sG:Binds K n5 mM []) (o3:Meth K aI "ask_room" l9):br P w K mg base (d_ P w) 6 f fd k9 (Ci a5 aI cU cH c4 cT):=by
 refine F.nE JO (fun vs H Q hO h=>?_) (fun cy A outer s H vs Q hO aD h=>?_)
 ·obtain⟨a,lo,pl,x,aQ,n,rfl,_⟩:=h
  rfl
 obtain⟨a,lo,pl,x,aQ,n,rfl,R,q⟩:=h
 have A:=R.uo
 obtain⟨dx,b8⟩:=A.bY
 have bf:=g_ aD
 refine⟨_,(bq (dc (i:=1) JO.a_ rfl (Or.inl rfl) (fj (ah 0) rfl)) (bq (yr (ah 0) aV C6) (bq (dH (g7 (ah 0) T.cl o3 sR (cE aD) sG .nil (j0 fun _ _ z=>z) (au aV aN))) (bq (mA bf (fj (ah 0) rfl) (ah 1) (fi aN) rfl) (bq (yr (ah 0) aV C6) (bg (c_ (ah 1)))))))),?_⟩
 refine⟨_,rfl,a.h,aI,dx,_,_,rfl,b8,T.cl,T.Cy,IK .., ?_⟩
 refine⟨_,rfl,a.h,aI,dx,_,_,rfl,b8,T.cl,T.Cy,IK .., _,_,rfl,rfl,dx,_,b8,(by show 8<1000;decide),?_⟩
 rw[RQ]
 have b5:=A.began (dx:=dx) (b:=(x.begun:Int)+1) rfl
 have cn:eL a lo pl lo pl H (upd H a.h (.ins aI dx (hf a.c a.aj a.st a.pu a.bF x.room ((x.begun:Int)+1) x.bound))):=(eL.refl ..).upd (rG ..)
 generalize upd H a.h (.ins aI dx (hf a.c a.aj a.st a.pu a.bF x.room ((x.begun:Int)+1) x.bound))=H1 at b5 cn ⊢
 obtain⟨Fc,hB⟩:=b5.bY
 have iv:x.began.fits (x.began.av.length+1):=R.fits (k:=x.av.length+1) (by have:=R.jU;omega)
 refine⟨_,rfl,a.h,Fc,_,rfl,hB,(by kernel_rfl),a,lo,pl,x.began,aQ,1,rfl,b5,by decide,R.jU,iv,R.z3,fun eN ay bC cu=>?_⟩
 have aU:x.a4 .begin=(if (x.began.full 1).2=true then ((x.began.full 1).1,cW.word "no room") else ((x.began.full 1).1.opened,.num x.begun)):=rfl
 by_cases nL:(x.began.full ((1:Nat):Int)).2=true
 ·rw[if_pos nL]
  have rQ:(x.began.full 1).2=true:=nL
  rw[if_pos rQ]at aU
  have aW:=q eN pl aQ ay (by rw[aU];exact bC) (le_succ _) (cn.trans cu)
  rw[aU]at aW
  exact u1.mp aW
 rw[if_neg nL]
 have rQ:¬(x.began.full 1).2=true:=nL
 rw[if_neg rQ]at aU
 have Aw:(x.began.full ((1:Nat):Int)).1.begun=x.begun+1:=mu
 have t_:(x.began.full ((1:Nat):Int)).1.aK=x.aK:=i_
 refine⟨cZ,fun nl aP=>?_⟩
 have s3:=bR aP (.lst [])
 have cj:=bC.same s3
 obtain⟨lg,gL⟩:=cj.bY
 have nU:=R.z3
 refine⟨_,rfl,a.h,aI,lg,_,_,rfl,gL,T.cl,T.qx,rz .., _,rfl,a.pu,_,rfl,oB.k (k:=Sum.inl ((x.begun:Nat):Int)) cj.aF (ih (by unfold d3;rw[length_map];omega)),?_⟩
 have jC:(upd (upd ay nl (.lst [])) a.pu (.bS (putK (d3 pl) (Sum.inl ((x.begun:Nat):Int)) (.ref nl)))) a.h=(upd ay nl (.lst [])) a.h:=aA bC.aP.2.2.1.symm
 rw[gL]at jC
 refine⟨_,rfl,a.h,aI,lg,_,_,rfl,jC,T.cl,T.vh,yJ .., _,_,rfl,rfl,lg,_,jC,(by show 8<1000;decide),_,rfl,?_⟩
 rw[Br]
 have nH:(x.began.full ((1:Nat):Int)).1.isOpen ((x.begun:Nat):Int)=false:=by
  unfold aq.isOpen
  rw[t_]
  cases e:x.aK.any (fun z=>z.1 == ((x.begun:Nat):Int)) with
  | false=>rfl
  | true =>
   obtain⟨z,hz,he⟩:=any_eq_true.mp e
   have ak:=(R.jr.d1 z hz).2.1
   have az:=beq_iff_eq.mp he
   omega
 have dV:=bC.opened (n:=nl) (dx:=lg) (d:=((x.begun:Nat):Int)) (b:=(x.began.full ((1:Nat):Int)).1.bound+1) aP nH rfl (by rw[Aw];omega) fun k e he z=>by
  obtain⟨p,d',aH,aM,bT,b1,et⟩:=A.jm.b k _ he
  injection aM with aM
  omega
 have gj:eL a eN pl eN (pl++[(((x.begun:Nat):Int),nl)]) ay (upd (upd (upd ay nl (.lst [])) a.pu (.bS (putK (d3 pl) (Sum.inl ((x.begun:Nat):Int)) (.ref nl)))) a.h (.ins aI lg (hf a.c a.aj a.st a.pu a.bF (x.began.full ((1:Nat):Int)).1.room (x.began.full ((1:Nat):Int)).1.begun ((x.began.full ((1:Nat):Int)).1.bound+1)))):=by
  refine eL.upd (eL.upd ⟨fun b o aa e=>s3 b o e,fun b aa=>?_⟩ (vl ..)) (rG ..)
  rcases mem_cons.mp aa with z | aa
  ·rw[z];exact .inl (vm ..)
  ·rcases mem_cons.mp aa with z | aa
   ·rw[z];exact .inl (zh ..)
   ·rcases mem_cons.mp aa with z | aa
    ·rw[z];exact .inl (yZ ..)
    ·rcases pe.mp aa with z | z | z | z | z | ⟨z,hz,e⟩
     ·rw[z];exact .inl (rG ..)
     ·rw[z];exact .inl (y3 ..)
     ·rw[z];exact .inl (y2 ..)
     ·rw[z];exact .inl (vl ..)
     ·rw[z];exact .inl (y0 ..)
     ·rcases mem_append.mp hz with y | y
      ·rw[←e];exact .inl (y1 y ..)
      ·rw[mem_singleton.mp y]at e
       rw[←e];exact .inr aP
 have aW:=q eN _ aQ _ (by rw[aU];exact dV) (le_succ _) ((cn.trans cu).trans gj)
 rw[aU]at aW
 exact aW
theorem Vz:dI hQ hQ (cR Df):=d2
theorem U4 {a5 aI cU cH c4 cT:Addr}{hL:Addr}{iG:FuncData}(F:bW K "look" "House.look" Df f fd) (T:iN K mg aI) (mj:br P w K mg base (d_ P w) 1 hL iG hQ (vc a5 aI cH)) (md:Binds K iG hQ []) (kj:Meth K aI "ask_page" hL):br P w K mg base (d_ P w) 2 f fd hQ (CF a5 aI cU cH c4 cT):=by
 refine F.nE Vz (fun vs H Q hO h=>?_) (fun cy A outer s H vs Q hO aD h=>?_)
 ·obtain⟨a,lo,pl,x,aQ,n,p,rfl,_⟩:=h
  rfl
 obtain⟨a,lo,pl,x,aQ,n,p,rfl,R,h1,q⟩:=h
 have A:=R.uo
 obtain⟨dx,b8⟩:=A.bY
 refine⟨_,(bq (dH (g7 (ah 0) T.cl kj mj (cE aD) md .nil (j0 fun _ _ z=>z) (au (ah 1) aN))) (bg (c_ (bE fq (fj (ah 0) rfl) (ah 1) (fun _ _=>rfl))))),?_⟩
 refine⟨_,rfl,a.h,dx,_,rfl,b8,(by kernel_rfl),_,rfl,a,lo,pl,x,aQ,p,rfl,A,h1,?_⟩
 by_cases c:p<0∨(x.av.length:Int)≤p
 ·rw[if_pos c]
  have aU:x.a4 (.look p)=(x,.word "no page"):=by
   exact sZ (if_pos c)
  have aW:=q lo pl aQ H (by rw[aU];exact A) (le_succ _) (eL.refl ..)
  rw[aU]at aW
  exact td.mp aW
 ·rw[if_neg c]
  have aF:p.toNat<x.av.length:=by omega
  have cp:p=((p.toNat:Nat):Int):=by omega
  obtain⟨dW,c2,eB⟩:=A.dF.q2 aF
  rw[←cp]at eB
  have aU:x.a4 (.look p)=(x,.num (x.av.getD p.toNat 0)):=by
   exact rr (e:=.look p) (if_neg c)
  have gA:x.av.getD p.toNat 0=dW:=by rw[getD_eq_getElem?_getD,c2];rfl
  have aW:=q lo pl aQ H (by rw[aU];exact A) (le_succ _) (eL.refl ..)
  rw[aU,gA]at aW
  exact⟨_,rfl,a.h,aI,dx,_,_,rfl,b8,T.cl,T.ou,pg .., _,rfl,a.aj,_,_,_,rfl,rfl,aO.of A.hd,eB,aW⟩
theorem Wx:dI hY hY (cR DJ):=d2
theorem VT {a5 aI cU cH c4 cT:Addr}{g4:Addr}{hM:FuncData}{fx:Addr}{gC:FuncData}(F:bW K "end" "House.end" DJ f fd) (B:eY mg) (T:iN K mg aI) (iM:br P w K mg base (d_ P w) 1 g4 hM hY (vd a5 aI cU)) (iH:Binds K hM hY []) (hH:Meth K aI "ask_dealing" g4)
  (i8:br P w K mg base bX 2 fx gC j7 (tF a5 aI)) (i5:Binds K gC j7 []) (iZ:Meth K aI "make_stroke" fx):br P w K mg base (d_ P w) 3 f fd hY (y_ a5 aI cU cH c4 cT):=by
 refine F.nE Wx (fun vs H Q hO h=>?_) (fun cy A outer s H vs Q hO aD h=>?_)
 ·obtain⟨a,lo,pl,x,aQ,n,d,rfl,_⟩:=h
  rfl
 obtain⟨a,lo,pl,x,aQ,n,d,rfl,A,iv,h1,q⟩:=h
 obtain⟨dx,b8⟩:=A.bY
 refine⟨_,(bq (dH (g7 (ah 0) T.cl hH iM (cE aD) iH .nil (j0 fun _ _ z=>z) (au (ah 1) aN))) (bq (dH (g7 (ah 0) T.cl iZ i8 (cE aD) i5 .nil de (au (gp (au bB (au (gp (au bB (au (ah 1) aN))) aN))) aN))) (bg (yr (ah 0) (dg ht (d8 f6 rfl B.len PySem.boot_len (au (B4 (fj (ah 0) rfl) (ah 1) ⟨rfl,rfl,rfl,rfl⟩) aN)) aV) V7)))),?_⟩
 refine⟨_,rfl,a.h,dx,_,rfl,b8,(by kernel_rfl),_,rfl,a,lo,pl,x,aQ,d,rfl,A,h1,?_⟩
 cases aC:x.isOpen d with
 | false =>
  rw[aC,if_pos rfl]at q
  rw[if_pos rfl]
  exact q
 | true =>
  rw[aC,if_neg (fun z=>nomatch z)]at q
  rw[if_neg (fun z=>nomatch z)]
  refine⟨_,rfl,a.h,dx,_,rfl,b8,(by kernel_rfl),_,rfl,cZ,fun t1 ak=>⟨cZ,fun eE az=>?_⟩⟩
  have s1:=bR ak (.tup [.str "end",.int d])
  have s2:=bR az (.tup [.str "line",.ref t1])
  have bC:=A.same (s1.trans s2)
  have aX:Rep (upd (upd H t1 (.tup [.str "end",.int d])) eE (.tup [.str "line",.ref t1])) (bp.line (.fin d)).D (.ref eE) :=
   Rep.g9 aR (.cons .ofStr (.cons (Rep.g9 (s2 _ _ aR) (.cons .ofStr (.cons .ofInt .nil))) .nil))
  refine⟨a,lo,pl,x,aQ,_,.line (.fin d),rfl,bC,aX,trivial,iv,fun pN aT cj fb=>?_⟩
  obtain⟨lg,dO⟩:=cj.bY
  have qQ:(x.c9 (.line (.fin d))).isOpen d=true:=aC
  obtain⟨i,al,ys,i2,m7,ra,xA,QM⟩:=cj.dF.qs qQ
  have hm:=mem_of_getElem? i2
  have rY:aT al=some (.lst ys):=by rw[fZ (cj.aP.2.2.2.2.2 _ hm) (cj.ej.2.2.2.2.2 _ hm)]at ra;exact ra
  have gx:ys.length=((x.c9 (.line (.fin d))).c5 d).length:=by rw[bl.length xA,length_map]
  have Ak:dw (d3 pl) (Sum.inl d)=some (.ref al):=by
   have:=lM (l:=pl) (by rw[cj.dF.e1];exact cj.dF.bK) i2
   rw[qq]
   rw[this]
   rfl
  have YV:al≠a.pu:=dv rY cj.aF (fun z=>nomatch z)
  have hF:(upd aT a.pu (.bS (j1 (d3 pl) (Sum.inl d)))) a.h=aT a.h:=aA cj.aP.2.2.1.symm
  rw[dO]at hF
  refine⟨_,rfl,a.h,aI,lg,_,_,rfl,dO,T.cl,T.vh,yJ .., _,rfl,a.h,aI,lg,_,_,rfl,dO,T.cl,T.qx,rz .., a.pu,rfl,.inl ⟨_,.inl cj.aF⟩,_,rfl,_,Sum.inl d,_,cj.aF,rfl,Ak,al,ys,rfl,.inl (aO.of (by rw[aA YV];exact rY)),_,_,rfl,rfl,_,_,rfl,rfl,lg,_,hF,(by show 8<1000;decide),?_⟩
  rw[Br]
  have dV:=cj.ended (dx:=lg) (d:=d) (b:=(x.c9 (.line (.fin d))).bound - (((ys.length:Nat):Int)+1)) (by rw[tb cj.dF.bK qQ,gx])
  refine q pN _ dV (((s1.trans s2).moves.trans fb).trans (eL.upd (eL.upd ⟨fun b o _ e=>e,fun b aa=>?_⟩ (vl ..)) (rG ..)))
  rcases mem_cons.mp aa with z | aa
  ·rw[z];exact .inl (vm ..)
  ·rcases mem_cons.mp aa with z | aa
   ·rw[z];exact .inl (zh ..)
   ·rcases mem_cons.mp aa with z | aa
    ·rw[z];exact .inl (yZ ..)
    ·rcases pe.mp aa with z | z | z | z | z | ⟨z,hz,e⟩
     ·rw[z];exact .inl (rG ..)
     ·rw[z];exact .inl (y3 ..)
     ·rw[z];exact .inl (y2 ..)
     ·rw[z];exact .inl (vl ..)
     ·rw[z];exact .inl (y0 ..)
     ·rw[←e];exact .inl (y1 (mem_filter.mp hz).1 ..)
theorem Wv:dI kG kG (cR DH):=d2
theorem VQ {a5 aI cU cH c4 cT:Addr}{g4:Addr}{hM:FuncData}{hL:Addr}{iG:FuncData}{uw:Addr}{xK:FuncData}{l9:Addr}{n5:FuncData}{jQ:Addr}{lE:FuncData}(F:bW K "put" "House.put" DH f fd) (T:iN K mg aI) (iM:br P w K mg base (d_ P w) 1 g4 hM hY (vd a5 aI cU)) (iH:Binds K hM hY []) (hH:Meth K aI "ask_dealing" g4)
  (mj:br P w K mg base (d_ P w) 1 hL iG hQ (vc a5 aI cH)) (md:Binds K iG hQ []) (kj:Meth K aI "ask_page" hL)
  (Bb:br P w K mg base (d_ P w) 1 uw xK zC (CI a5 aI c4)) (A4:Binds K xK zC []) (AU:Meth K aI "ask_free" uw)
  (sR:br P w K mg base (d_ P w) 5 l9 n5 mM (yR a5 aI cT)) (sG:Binds K n5 mM []) (o3:Meth K aI "ask_room" l9)
  (oc:br P w K mg base bX 3 jQ lE kG (zp a5 aI)) (n8:Binds K lE kG []) (nY:Meth K aI "write_put" jQ):br P w K mg base (d_ P w) 6 f fd kG (Dc a5 aI cU cH c4 cT):=by
 refine F.nE Wv (fun vs H Q hO h=>?_) (fun cy A outer s H vs Q hO aD h=>?_)
 ·obtain⟨a,lo,pl,x,aQ,n,d,p,k,rfl,_⟩:=h
  rfl
 obtain⟨a,lo,pl,x,aQ,n,d,p,k,rfl,R,AO,sp,q⟩:=h
 have A:=R.uo
 obtain⟨dx,b8⟩:=A.bY
 have bf:=g_ aD
 have eG:x.refusal (.put d p k)=(if x.isOpen d=false then some ("no dealing":Str) else if p<0∨(x.av.length:Int)≤p then some ("no page":Str) else if x.dK p.toNat=none∨x.dK p.toNat=some d then none else some ("taken":Str)):=rfl
 have j2:∀w:Str,x.refusal (.put d p k)=some w→mG cU cH c4 cT .cP Q hO H (.word w):=fun w h=>by
  have aU:=sZ h
  have aW:=q lo pl aQ H (by rw[aU];exact A) (le_succ _) (eL.refl ..)
  rw[aU]at aW
  exact aW
 refine⟨_,(bq (dH (g7 (ah 0) T.cl hH iM (cE aD) iH .nil (j0 fun _ _ z=>z) (au (ah 1) aN))) (bq (dH (g7 (ah 0) T.cl kj mj (cE aD) md .nil (j0 fun _ _ z=>z) (au (ah 2) aN))) (bq (dH (g7 (ah 0) T.cl AU Bb (cE aD) A4 .nil (j0 fun _ _ z=>z) (au (ah 1) (au (ah 2) aN)))) (bq (dH (g7 (ah 0) T.cl o3 sR (cE aD) sG .nil (j0 fun _ _ z=>z) (au aV aN))) (bq (dH (iS plainAttrs_list PySem.F.slot_list_append PySem.F.type_list_append ie (eT bf (fj (ah 0) rfl) (ah 1) (fun _ _=>rfl)) (au (gp (au (ah 2) (au (bE fq (fj (ah 0) rfl) (ah 2) (fun _ _=>rfl)) aN))) aN))) (bq (mA bf (fj (ah 0) rfl) (ah 2) (ah 1) rfl) (bq (yr (ah 0) aV C6) (bg (dH (g7 (ah 0) T.cl nY oc (cE aD) n8 .nil de (au (ah 1) (au (ah 2) (au (ah 3) aN))))))))))))),?_⟩
 refine⟨_,rfl,a.h,dx,_,rfl,b8,(by kernel_rfl),_,rfl,a,lo,pl,x,aQ,d,rfl,A,AO,?_⟩
 cases aC:x.isOpen d with
 | false =>
  rw[if_pos rfl]
  rw[aC,if_pos rfl]at eG
  exact yf.mp (j2 _ eG)
 | true =>
 rw[if_neg (fun z=>nomatch z)]
 rw[aC,if_neg (fun z=>nomatch z)]at eG
 refine⟨_,rfl,a.h,dx,_,rfl,b8,(by kernel_rfl),_,rfl,a,lo,pl,x,aQ,p,rfl,A,sp,?_⟩
 by_cases c:p<0∨(x.av.length:Int)≤p
 ·rw[if_pos c]
  rw[if_pos c]at eG
  exact td.mp (j2 _ eG)
 rw[if_neg c]
 rw[if_neg c]at eG
 obtain⟨bK,rfl⟩:∃bK:Nat,p=(bK:Int):=⟨p.toNat,by omega⟩
 rw[Int.toNat_natCast]at eG
 have aF:bK<x.av.length:=by omega
 refine⟨_,rfl,a.h,dx,_,rfl,b8,(by kernel_rfl),_,rfl,_,rfl,a,lo,pl,x,aQ,d,bK,rfl,A,by have:=R.GN;omega,by have:=R.jU;omega,?_⟩
 by_cases fc:x.dK bK=none∨x.dK bK=some d
 case neg =>
  rw[if_neg fc]
  rw[if_neg fc]at eG
  exact IB.mp (j2 _ eG)
 rw[if_pos fc]
 rw[if_pos fc]at eG
 have aU:x.a4 (.put d bK k)=(if (x.full 2).2=true then ((x.full 2).1,cW.word "no room") else (((x.full 2).1.c1 d bK).putIn d bK k,.word "done")):=by
  rw[rr eG]
  show (if (x.full 2).2=true then ((x.full 2).1,cW.word "no room") else (((x.full 2).1.c1 d (bK:Int).toNat).putIn d (bK:Int).toNat k,.word "done"))=_
  rw[Int.toNat_natCast]
 have iv:x.fits (x.av.length+1):=R.fits (by have:=R.jU;omega)
 refine⟨_,rfl,a.h,dx,_,rfl,b8,(by kernel_rfl),a,lo,pl,x,aQ,2,rfl,A,by decide,R.jU,iv,R.z3,fun eN ay bC cu=>?_⟩
 by_cases nL:(x.full ((2:Nat):Int)).2=true
 ·rw[if_pos nL]
  have rQ:(x.full 2).2=true:=nL
  rw[if_pos rQ]at aU
  have aW:=q eN pl aQ ay (by rw[aU];exact bC) (le_succ _) cu
  rw[aU]at aW
  exact u1.mp aW
 rw[if_neg nL]
 have rQ:¬(x.full 2).2=true:=nL
 rw[if_neg rQ]at aU
 have Aw:(x.full ((2:Nat):Int)).1.begun=x.begun:=mu
 have t_:(x.full ((2:Nat):Int)).1.aK=x.aK:=i_
 have wN:(x.full ((2:Nat):Int)).1.av=x.av:=oh
 have OA:(x.full ((2:Nat):Int)).1.fits 1:=aq.fits.full (R.fits (by have:=R.jU;omega))
 have wO:x.a4 (.put d bK k)=(((x.full ((2:Nat):Int)).1.c1 d bK).putIn d bK k,.word "done"):=aU
 generalize (x.full ((2:Nat):Int)).1=y at bC wO Aw t_ wN OA
 have r2:y.isOpen d=true:=by unfold aq.isOpen;rw[t_];exact aC
 obtain⟨i,al,ys,i2,m7,ra,xA,QM⟩:=bC.dF.qs r2
 have hm:=mem_of_getElem? i2
 have rY:ay al=some (.lst ys):=by rw[fZ (bC.aP.2.2.2.2.2 _ hm) (bC.ej.2.2.2.2.2 _ hm)]at ra;exact ra
 have gx:ys.length=(y.c5 d).length:=by rw[bl.length xA,length_map]
 have EI:dw (d3 pl) (Sum.inl d)=some (.ref al):=by
  have:=lM (l:=pl) (by rw[bC.dF.e1];exact bC.dF.bK) i2
  rw[qq]
  rw[this]
  rfl
 have mR:=R.jr.d1 (d,x.c5 d) (ks aC)
 have aab:y.c5 d=x.c5 d:=by unfold aq.c5;rw[t_]
 obtain⟨jh,gM⟩:=bC.bY
 have wt:bK<y.av.length:=by rw[wN];exact aF
 obtain⟨z,dm,dW⟩:=bC.dF.q2 wt
 have gA:y.av.getD bK 0=z:=by rw[getD_eq_getElem?_getD,dm];rfl
 have Ov:=R.dT
 have vN:e9 ay a.pu (.int d) (some (.ref al)):=by
  have h0:=e9.k (k:=Sum.inl d) bC.aF
  rw[EI]at h0
  exact h0
 refine⟨_,rfl,a.h,aI,jh,_,_,rfl,gM,T.cl,T.qx,rz .., _,rfl,a.pu,_,rfl,vN,.inl ⟨rfl,_,aO.of rY⟩,_,rfl,_,rfl,a.h,aI,jh,_,_,rfl,gM,T.cl,T.ou,pg .., _,rfl,a.aj,_,_,_,rfl,rfl,aO.of bC.hd,dW,cZ,fun t aZ=>?_⟩
 have s3:=bR aZ (.tup [.int ((bK:Nat):Int),.int z])
 have cj:=bC.same s3
 have Ak:Rep (upd ay t (.tup [.int ((bK:Nat):Int),.int z])) (pairD (bK,y.av.getD bK 0)) (.ref t):=by
  rw[gA]
  exact Rep.g9 aR (.cons .ofInt (.cons .ofInt .nil))
 have EF:=s3 _ _ rY
 have gL:=s3 _ _ gM
 have Oj:=s3 _ _ bC.kt
 have fb:eL a lo pl eN pl H (upd ay t (.tup [.int ((bK:Nat):Int),.int z])):=cu.trans s3.moves
 generalize upd ay t (.tup [.int ((bK:Nat):Int),.int z])=aT at s3 cj Ak EF gL Oj fb ⊢
 refine⟨al,ys,.ref t,rfl,rfl,EF,ih (by have:=mR.2.2.1;rw[←aab,←gx]at this;omega),?_⟩
 have YX:a.h≠al:=(cj.aP.2.2.2.2.2 _ hm).symm
 have YW:a.bF≠al:=cj.oE.2.2.2.2.2.2 _ hm
 have jC:(upd aT al (.lst (ys++[.ref t]))) a.h=aT a.h:=aA YX
 rw[gL]at jC
 have Oi:(upd aT al (.lst (ys++[.ref t]))) a.bF=aT a.bF:=aA YW
 rw[Oj]at Oi
 have acR:=R.h3
 refine⟨_,rfl,_,rfl,a.h,aI,jh,_,_,rfl,jC,T.cl,T.Cx,IJ .., _,rfl,a.bF,_,rfl,oB.k (k:=Sum.inl ((bK:Nat):Int)) Oi (ih (by omega)),?_⟩
 have iV:(upd (upd aT al (.lst (ys++[.ref t]))) a.bF (.bS (putK aQ (Sum.inl ((bK:Nat):Int)) (.int d)))) a.h=(upd aT al (.lst (ys++[.ref t]))) a.h:=aA cj.oE.1.symm
 rw[jC]at iV
 refine⟨_,rfl,a.h,aI,jh,_,_,rfl,iV,T.cl,T.vh,yJ .., _,_,rfl,rfl,jh,_,iV,(by show 8<1000;decide),?_⟩
 rw[Br]
 have kA:∀z∈y.aK,(∃w∈z.2,w.1=bK)→z.1=d:=fun z hz ⟨w,hw,Zf⟩=>by
  have bh:=bC.jm.a z hz w hw
  rw[Zf]at bh
  obtain⟨d',aH,_,_,b1,_⟩:=(I3 (p:=bK) bC.jm).1 _ bh
  injection aH with aH
  have Zu:y.isOpen d'=true:=any_eq_true.mpr ⟨z,hz,by rw[aH];exact beq_self_eq_true d'⟩
  have i4:=b1 Zu
  have Z9:x.dK bK=some d':=by unfold aq.dK at i4 ⊢;rw[t_]at i4;exact i4
  rw[Z9]at fc
  rcases fc with w | w
  ·cases w
  ·rw[aH];exact Option.some.inj w
 have gc:=cj.c1 (dx:=jh) (p:=bK) (b:=y.bound+1) i2 EF Ak (BI cj.dF.bK r2).symm mR.1 (by rw[Aw];exact mR.2.1) kA
 have i0:eL a lo pl eN pl H (upd (upd (upd aT al (.lst (ys++[.ref t]))) a.bF (.bS (putK aQ (Sum.inl ((bK:Nat):Int)) (.int d)))) a.h (.ins aI jh (hf a.c a.aj a.st a.pu a.bF y.room y.begun (y.bound+1)))) :=
  ((fb.upd (y1 hm ..)).upd (yZ ..)).upd (rG ..)
 generalize upd (upd (upd aT al (.lst (ys++[.ref t]))) a.bF (.bS (putK aQ (Sum.inl ((bK:Nat):Int)) (.int d)))) a.h (.ins aI jh (hf a.c a.aj a.st a.pu a.bF y.room y.begun (y.bound+1)))=dC at gc i0 ⊢
 obtain⟨aag,hg⟩:=gc.bY
 refine⟨_,rfl,a.h,aag,_,rfl,hg,(by kernel_rfl),_,rfl,_,rfl,_,rfl,a,eN,pl,y.c1 d bK,_,d,bK,k,rfl,gc,wt,OA,fun Y4 ed sW xq=>?_⟩
 have aW:=q Y4 pl _ ed (by rw[wO];exact sW) (qk ..) (i0.trans xq)
 rw[wO]at aW
 exact te.mp aW
theorem CJ:dI ["self","dealing","page","old"] hY (cR Dj):=d2
theorem U9 {a5 aI cU cH c4 cT:Addr}{g4:Addr}{hM:FuncData}{jQ:Addr}{lE:FuncData}{l_:Addr}{n6:FuncData}(F:bW K "drop" "House.drop" Dj f fd) (B:eY mg) (XW:mg "reversed"=none) (T:iN K mg aI) (iM:br P w K mg base (d_ P w) 1 g4 hM hY (vd a5 aI cU)) (iH:Binds K hM hY []) (hH:Meth K aI "ask_dealing" g4)
  (oc:br P w K mg base bX 3 jQ lE kG (zp a5 aI)) (n8:Binds K lE kG []) (nY:Meth K aI "write_put" jQ)
  (sS:br P w K mg base (d_ P w) 3 l_ n6 hY (y_ a5 aI cU cH c4 cT)) (sH:Binds K n6 hY []) (mN:Meth K aI "end" l_):br P w K mg base (d_ P w) 4 f fd hY (CH a5 aI cU cH c4 cT):=by
 refine F.nE CJ (fun vs H Q hO h=>?_) (fun cy A outer s H vs Q hO aD h=>?_)
 ·obtain⟨a,lo,pl,x,aQ,n,d,rfl,_⟩:=h
  rfl
 obtain⟨a,lo,pl,x,aQ,n,d,rfl,R,AO,q⟩:=h
 have A:=R.uo
 obtain⟨dx,b8⟩:=A.bY
 have bf:=g_ aD
 have eG:x.refusal (.drop d)=(if x.isOpen d=false then some ("no dealing":Str) else none):=rfl
 refine⟨_,(bq (dH (g7 (ah 0) T.cl hH iM (cE aD) iH .nil (j0 fun _ _ z=>z) (au (ah 1) aN))) (bq (hP PassesOwn.leaving rfl (KH rfl XW (eT bf (fj (ah 0) rfl) (ah 1) (fun _ _=>rfl))) (pq rfl (ja (ff (i:=2) CJ.a_ rfl (Or.inl rfl)) (ja (ff (i:=3) CJ.a_ rfl (Or.inl rfl)) pd))) (bg (dH (g7 (ah 0) T.cl nY oc (cE aD) n8 .nil de (au (ah 1) (au (ah 2) (au (ah 3) aN))))))) (bg (dH (g7 (ah 0) T.cl mN sS (cE aD) sH .nil (j0 fun _ _ z=>z) (au (ah 1) aN)))))),?_⟩
 refine⟨_,rfl,a.h,dx,_,rfl,b8,(by kernel_rfl),_,rfl,a,lo,pl,x,aQ,d,rfl,A,AO,?_⟩
 cases aC:x.isOpen d with
 | false =>
  rw[if_pos rfl]
  rw[aC,if_pos rfl]at eG
  have aU:=sZ eG
  have aW:=q lo pl aQ H (by rw[aU];exact A) (le_succ _) (eL.refl ..)
  rw[aU]at aW
  exact yf.mp aW
 | true =>
 rw[if_neg (fun z=>nomatch z)]
 rw[aC,if_neg (fun z=>nomatch z)]at eG
 have aU:=rr eG
 obtain⟨i,al,ys,i2,m7,ra,xA,QM⟩:=A.dF.qs aC
 have hm:=mem_of_getElem? i2
 have rY:H al=some (.lst ys):=by rw[fZ (A.aP.2.2.2.2.2 _ hm) (A.ej.2.2.2.2.2 _ hm)]at ra;exact ra
 have gx:ys.length=(x.c5 d).length:=by rw[bl.length xA,length_map]
 have EI:dw (d3 pl) (Sum.inl d)=some (.ref al):=by
  have:=lM (l:=pl) (by rw[A.dF.e1];exact A.dF.bK) i2
  rw[qq]
  rw[this]
  rfl
 have mR:=R.jr.d1 (d,x.c5 d) (ks aC)
 have Ov:=R.dT
 have lpo:(x.c5 d).length≤110:=le_trans mR.2.2.1 Ov
 have listAt:∀{ay:ao} {eN:Addr} {y:aq},cQ a5 aI ay a eN pl y aQ→y.aK=x.aK→∃us,ay al=some (.lst us)∧bl ay ((x.c5 d).map pairD) us:=fun {ay eN y} bC cp=>by
  obtain⟨w,us,e6,eB,jk,so,_⟩:=bC.dF.at_ i2
  rw[cp,m7]at e6
  cases e6
  rw[fZ (bC.aP.2.2.2.2.2 _ hm) (bC.ej.2.2.2.2.2 _ hm)]at jk
  exact⟨us,jk,bl.keep bC.Ds _ _ (eK hn _) so⟩
 have vN:e9 H a.pu (.int d) (some (.ref al)):=by
  have h0:=e9.k (k:=Sum.inl d) A.aF
  rw[EI]at h0
  exact h0
 refine⟨_,rfl,a.h,aI,dx,_,_,rfl,b8,T.cl,T.qx,rz .., _,rfl,a.pu,_,rfl,vN,al,ys,rfl,aO.of rY,Us (K:=K) (a:=al) (N:=ys.length) (fun i σ ay=>∃(lo1:Addr) (cg dO:Option V),σ=[some (.ref a.h),some (.int d),cg,dO]∧cQ a5 aI ay a lo1 pl (x.eb d ((x.c5 d).reverse.take i)) aQ∧eL a lo pl lo1 pl H ay)
  ⟨lo,none,none,rfl,A,eL.refl ..⟩ (fun i σ ay _ ⟨lo1,_,_,_,bC,_⟩=>?_) ?_ ?_⟩
 ·obtain⟨us,gG,gu⟩:=listAt bC mq
  exact⟨us,by rw[bl.length gu,length_map,gx],aO.of gG⟩
 ·rintro i v σ ay aL EJ ⟨lo1,cg,dO,rfl,bC,cu⟩
  obtain⟨us,gG,gu⟩:=listAt bC mq
  obtain⟨z,hz,l2⟩:=o_ gu (EJ us (aO.of gG))
  obtain⟨c,cS,c2,rfl,ai,bz,b3⟩:=f7 l2
  cases bz.int_inv
  cases b3.int_inv
  have Zc:=mem_of_getElem? hz
  have Zb:z.1<(x.eb d ((x.c5 d).reverse.take i)).av.length:=by rw[uO];exact mR.2.2.2 z Zc
  have ZQ:(x.eb d ((x.c5 d).reverse.take i)).fits 1:=aq.fits.eb (R.fits (by rw[length_take,length_reverse];omega)) fun w hw=>mR.2.2.2 w (mem_reverse.mp (mem_of_mem_take hw))
  refine⟨c,_,rfl,aG.of ai,rfl,_,_,rfl,_,_,rfl,rfl,?_⟩
  obtain⟨jh,gM⟩:=bC.bY
  refine⟨_,rfl,a.h,jh,_,rfl,gM,(by kernel_rfl),_,rfl,_,rfl,_,rfl,a,lo1,pl,_,aQ,d,z.1,z.2,rfl,bC,Zb,ZQ,fun pN aT cj fb=>?_⟩
  have i4:(x.c5 d).reverse.take (i+1)=(x.c5 d).reverse.take i++[z]:=by
   rw[take_add_one,getElem?_reverse (by omega),←gx,hz]
   rfl
  refine⟨pN,_,_,rfl,?_,cu.trans fb⟩
  rw[i4,Hu]
  exact cj
 ·rintro σ ay ⟨lo1,cg,dO,rfl,bC,cu⟩
  rw[gx,←length_reverse,take_length]at bC
  have jT:x.eb d (x.c5 d).reverse=x.dM d:=gS.symm
  rw[jT]at bC
  obtain⟨jh,gM⟩:=bC.bY
  have r2:(x.dM d).isOpen d=true:=by
   unfold aq.isOpen
   rw[gS,mq]
   exact aC
  have nL:(x.dM d).fits 1:=by
   rw[gS]
   exact aq.fits.eb (R.fits (by rw[length_reverse];omega)) fun w hw=>mR.2.2.2 w (mem_reverse.mp hw)
  refine⟨_,rfl,a.h,jh,_,rfl,gM,(by kernel_rfl),_,rfl,a,lo1,pl,x.dM d,aQ,n,d,rfl,bC,nL,AO,?_⟩
  rw[r2,if_neg (fun z=>nomatch z)]
  intro pN aT cj fb
  have aW:=q pN _ aQ aT (by rw[aU];exact cj) (le_succ _) (cu.trans fb)
  rw[aU]at aW
  exact te.mp aW
def Ce (a5 aI:Addr):dj:=fun vs H Q _=>∃(h dx ct:Addr) (ps:List Int) (room:Int),vs=[.ref h,.ref ct,.int room]∧H h=some (.ins aI dx [])∧H ct=some (.lst (ps.map V.int)) ∧
 ∀(a:ee) (lo:Addr) (af:ao),a.h=h→cQ a5 aI af a lo [] (bZ ps room) []→(∀b,b∈a.gr lo []→b=h∨H b=none)→(∀b o,H b=some o→b≠h→af b=some o)→Q .cP af
def qJ:b7→Prop
 | .put d p _=>c6 d∧c6 p
 | .fin d=>c6 d
 | .drop d=>c6 d
 | .look p=>c6 p
 | .carry p=>c6 p
 | _=>True
def BY (a5 aI cU cH c4 cT:Addr):dj:=fun vs H Q E=>∃(a:ee) (lo:Addr) (pl:List (Int × Addr)) (x:aq) (aQ:List (Key × V)) (n:Nat) (v:V) (e:b7),vs=[.ref a.h,v]∧Ready a5 aI H a lo pl x aQ n∧Rep H e.D v∧qJ e∧After a5 aI cU cH c4 cT (.str "done") a lo pl x aQ H Q E e
def BZ (a5 aI:Addr):dj:=fun vs H Q _=>∃(a:ee) (lo:Addr) (pl:List (Int × Addr)) (x:aq) (aQ:List (Key × V)) (n:Nat) (v:V) (e:b7),vs=[.ref a.h,v]∧Ready a5 aI H a lo pl x aQ n∧Rep H e.D v∧qJ e ∧
 ∀lo' hb hA af,cQ a5 aI af a lo' hb (x.a4 e).1 hA→hA.length≤aQ.length+1→eL a lo pl lo' hb H af→Q (x.a4 e).2.v af
theorem Vk (c aj st pu bF:Addr) (room:Int):d5 "bound" (.int 0) (d5 "takers" (.ref bF) (d5 "puts" (.ref pu) (d5 "begins" (.int 0) (d5 "strokes" (.ref st) (d5 "room" (.int room) (d5 "desk" (.ref aj) (d5 "cellar" (.ref c) [])))))))=hf c aj st pu bF room 0 0:=by kernel_rfl
theorem Xl:dI vD vD (cR CS):=d2
theorem T7 {a5 aI xF:Addr}{xH:FuncData}(F:bW K "__init__" "House.__init__" CS f fd) (B:eY mg) (T:iN K mg aI) (lJ:qo K mg a5) (abP:uF K a5 xF) (x4:br P w K mg base bX 1 xF xH vE (Cg a5)) (GO:Binds K xH vE []) :
  br P w K mg base bX 3 f fd vD (Ce a5 aI):=by
 refine F.ok Xl (fun vs H Q E h=>?_) (fun cy A outer s H vs Q E aD h=>?_)
 ·obtain⟨h,dx,ct,ps,room,rfl,_⟩:=h
  rfl
 obtain⟨h,dx,ct,ps,room,rfl,dt,aF,q⟩:=h
 refine⟨_,(bq (nk (ah 0) (JW abP x4 aD rfl lJ.Es GO .nil de (au (ah 1) (au (fi aN) aN))) rfl) (bq (nk (ah 0) (i9 nd rfl B.lst iT (au (ah 1) aN)) rfl) (bq (nk (ah 0) (ah 2) rfl) (bq (nk (ah 0) (fi aN) rfl) (bq (nk (ah 0) aV rfl) (bq (nk (ah 0) u0 rfl) (bq (nk (ah 0) u0 rfl) (bg (nk (ah 0) aV rfl))))))))),?_⟩
 refine⟨_,rfl,cZ,fun du ZV=>?_⟩
 intro c GK ho YO acB
 have s1:=bR ZV (.lst [])
 have s2:bO (upd H du (.lst [])) (upd (upd (upd H du (.lst [])) GK (.own c)) c (.ins a5 GK [])):=fun b o e=>by
  rw[aA (cB e ho),aA (cB e YO)]
  exact e
 refine⟨c,GK,ct,du,ps.map V.int,[],rfl,aR,s2 _ _ (s1 _ _ aF),s2 _ _ aR,fun ce lo ay YQ Em x7 bD=>⟨rfl,?_⟩⟩
 have ia:bO H ay:=fun b o e=>bD b o (s2 b o (s1 b o e)) (cB (s1 b o e) ho)
 have xP:H c=none:=s1.free ho
 have Fe:H ce=none:=(s1.trans s2).free YQ
 have ED:H lo=none:=(s1.trans s2).free Em
 obtain⟨⟨dy,cg⟩,aH,aM,Ep⟩:=x7
 have kI:c≠h:=fun z=>by rw[z,dt]at xP;cases xP
 have D0:ce≠h:=fun z=>by rw[z,dt]at Fe;cases Fe
 have DZ:lo≠h:=fun z=>by rw[z,dt]at ED;cases ED
 refine⟨_,rfl,h,aI,dx,[],rfl,ia _ _ dt,T.cl,T.tf,(by show 0<1000;decide),?_⟩
 have kE:∀b o,H b=some o→b≠h→(upd ay h (.ins aI dx (d5 "cellar" (.ref c) []))) b=some o:=fun b o e n=>by rw[aA n];exact ia b o e
 have oM:∀b,(upd ay h (.ins aI dx (d5 "cellar" (.ref c) []))) b=none→H b=none∧b≠h:=fun b e=>by
  have n:b≠h:=fun z=>by rw[z,aR]at e;cases e
  rw[aA n]at e
  exact⟨ia.free e,n⟩
 have cz:(upd ay h (.ins aI dx (d5 "cellar" (.ref c) []))) h=some (.ins aI dx (d5 "cellar" (.ref c) [])):=aR
 have MJ:(upd ay h (.ins aI dx (d5 "cellar" (.ref c) []))) c=some (.ins a5 dy (lO ce lo)):=by rw[aA kI];exact cg
 have nO:(upd ay h (.ins aI dx (d5 "cellar" (.ref c) []))) ce=some (.lst (ps.map V.int)):=by rw[aA D0];exact aH
 have r9:(upd ay h (.ins aI dx (d5 "cellar" (.ref c) []))) lo=some (.lst []):=by rw[aA DZ];exact aM
 generalize upd ay h (.ins aI dx (d5 "cellar" (.ref c) []))=aT at kE oM cz MJ nO r9 ⊢
 have Zr:ct≠h:=dv aF dt (fun z=>nomatch z)
 refine⟨_,rfl,ct,_,rfl,.inl (aO.of (kE _ _ aF Zr)),fun aj r4=>?_⟩
 obtain⟨aaj,DT⟩:=oM aj r4
 have DU:∀b o,aT b=some o→b≠aj:=fun b o e=>cB e r4
 refine⟨_,rfl,h,aI,dx,_,rfl,(by rw[aA DT.symm];exact cz),T.cl,T.ou,(le_of_ble_eq_true (by kernel_rfl)),?_⟩
 have wd:∀b o,aT b=some o→b≠h→(upd (upd aT aj (.lst (ps.map V.int))) h (.ins aI dx (d5 "desk" (.ref aj) (d5 "cellar" (.ref c) [])))) b=some o:=fun b o e n=>by rw[aA n,aA (DU b o e)];exact e
 have Au:∀b,(upd (upd aT aj (.lst (ps.map V.int))) h (.ins aI dx (d5 "desk" (.ref aj) (d5 "cellar" (.ref c) [])))) b=none→aT b=none∧b≠h:=fun b e=>by
  have n:b≠h:=fun z=>by rw[z,aR]at e;cases e
  rw[aA n]at e
  have dP:b≠aj:=fun z=>by rw[z,aR]at e;cases e
  rw[aA dP]at e
  exact⟨e,n⟩
 have dA:(upd (upd aT aj (.lst (ps.map V.int))) h (.ins aI dx (d5 "desk" (.ref aj) (d5 "cellar" (.ref c) [])))) h=some (.ins aI dx (d5 "desk" (.ref aj) (d5 "cellar" (.ref c) []))):=aR
 have oN:(upd (upd aT aj (.lst (ps.map V.int))) h (.ins aI dx (d5 "desk" (.ref aj) (d5 "cellar" (.ref c) [])))) aj=some (.lst (ps.map V.int)):=by rw[aA DT,aR]
 have v8:=wd _ _ MJ kI
 have lY:=wd _ _ nO D0
 have oO:=wd _ _ r9 DZ
 have dT:ce≠aj:=DU _ _ nO
 have gi:lo≠aj:=DU _ _ r9
 have pK:∀b o,H b=some o→b≠h→_:=fun b o e n=>wd b o (kE b o e n) n
 generalize upd (upd aT aj (.lst (ps.map V.int))) h (.ins aI dx (d5 "desk" (.ref aj) (d5 "cellar" (.ref c) [])))=cO at wd Au dA oN v8 lY oO pK ⊢
 refine⟨_,rfl,_,rfl,h,aI,dx,_,rfl,dA,T.cl,T.K8,(le_of_ble_eq_true (by kernel_rfl)),?_⟩
 refine⟨cZ,fun st iz=>?_⟩
 have rN:st≠h:=fun z=>by rw[z,aR]at iz;cases iz
 rw[aA rN]at iz
 obtain⟨Xf,_⟩:=Au st iz
 have Yt:=(oM st Xf).1
 refine⟨_,rfl,h,aI,dx,_,rfl,(by rw[aA rN.symm];exact aR),T.cl,T.yI,(le_of_ble_eq_true (by kernel_rfl)),?_⟩
 refine⟨_,rfl,h,aI,dx,_,rfl,aR,T.cl,T.Cy,(le_of_ble_eq_true (by kernel_rfl)),?_⟩
 intro pu kH
 have rO:pu≠h:=fun z=>by rw[z,aR]at kH;cases kH
 rw[aA rO,aA rO]at kH
 have LY:pu≠st:=fun z=>by rw[z,aR]at kH;cases kH
 rw[aA LY,aA rO]at kH
 have YB:=(oM pu (Au pu kH).1).1
 refine⟨_,rfl,h,aI,dx,_,rfl,(by rw[aA rO.symm];exact aR),T.cl,T.qx,(le_of_ble_eq_true (by kernel_rfl)),?_⟩
 intro bF j8
 have rM:bF≠h:=fun z=>by rw[z,aR]at j8;cases j8
 rw[aA rM]at j8
 have DR:bF≠pu:=fun z=>by rw[z,aR]at j8;cases j8
 rw[aA DR,aA rM,aA rM]at j8
 have LX:bF≠st:=fun z=>by rw[z,aR]at j8;cases j8
 rw[aA LX,aA rM]at j8
 have Yn:=(oM bF (Au bF j8).1).1
 refine⟨_,rfl,h,aI,dx,_,rfl,(by rw[aA rM.symm];exact aR),T.cl,T.Cx,(le_of_ble_eq_true (by kernel_rfl)),?_⟩
 refine⟨_,rfl,h,aI,dx,_,rfl,aR,T.cl,T.vh,(le_of_ble_eq_true (by kernel_rfl)),?_⟩
 rw[Vk]
 have fin:∀b o,cO b=some o→b≠h→b≠st→b≠pu→b≠bF→∀b8 cg dO hF hg iC fa fS gZ:fp,(upd (upd (upd (upd (upd (upd (upd (upd (upd cO h b8) st cg) h dO) h hF) pu hg) h iC) bF fa) h fS) h gZ) b=some o:=fun b o e k1 k2 k3 m6 b8 cg dO hF hg iC fa fS gZ=>by
  rw[aA k1,aA k1,aA m6,aA k1,aA k3,aA k1,aA k1,aA k2,aA k1]
  exact e
 have nn:∀b o,cO b=some o→b≠st∧b≠pu∧b≠bF:=fun b o e=>⟨cB e iz,cB e kH,cB e j8⟩
 refine q ⟨h,c,ce,aj,pu,st,bF⟩ lo _ rfl (cQ.init (dx:=dx) (dy:=dy) aR ?_ ?_ ?_ ?_ ?_ ?_ ?_ dT ?_ ?_ Ep.symm gi ?_ DR kI) ?_ ?_
 ·exact fin _ _ v8 kI (nn _ _ v8).1 (nn _ _ v8).2.1 (nn _ _ v8).2.2 _ _ _ _ _ _ _ _ _
 ·exact fin _ _ lY D0 (nn _ _ lY).1 (nn _ _ lY).2.1 (nn _ _ lY).2.2 _ _ _ _ _ _ _ _ _
 ·exact fin _ _ oO DZ (nn _ _ oO).1 (nn _ _ oO).2.1 (nn _ _ oO).2.2 _ _ _ _ _ _ _ _ _
 ·exact fin _ _ oN DT (nn _ _ oN).1 (nn _ _ oN).2.1 (nn _ _ oN).2.2 _ _ _ _ _ _ _ _ _
 ·rw[aA rN,aA rN,aA LX.symm,aA rN,aA LY.symm,aA rN,aA rN,aR]
 ·rw[aA rO,aA rO,aA DR.symm,aA rO,aR]
 ·rw[aA rM,aA rM,aR]
 ·exact (nn _ _ lY).1
 ·exact (nn _ _ oN).1
 ·exact (nn _ _ oO).1
 ·intro b aa
  have t5:b∈[lo,c,bF,h,ce,aj,pu,st]:=aa
  simp only[mem_cons,not_mem_nil,or_false]at t5
  rcases t5 with z | z | z | z | z | z | z | z
  ·rw[z];exact .inr ED
  ·rw[z];exact .inr xP
  ·rw[z];exact .inr Yn
  ·rw[z];exact .inl rfl
  ·rw[z];exact .inr Fe
  ·rw[z];exact .inr aaj
  ·rw[z];exact .inr YB
  ·rw[z];exact .inr Yt
 ·intro b o e n
  have b1:=pK b o e n
  exact fin b o b1 n (nn _ _ b1).1 (nn _ _ b1).2.1 (nn _ _ b1).2.2 _ _ _ _ _ _ _ _ _
theorem TM (x:aq) (d p k:Int):∃w,(x.a4 (.put d p k)).2=.word w:=by
 rcases G8 x (.put d p k) with ⟨i,h⟩ | h | h | h | h | h
 ·exfalso
  unfold aq.a4 at h
  cases e:x.refusal (.put d p k) with
  | some w=>rw[e]at h;cases h
  | none =>
   rw[e]at h
   have h':(if (x.full 2).2=true then ((x.full 2).1,cW.word "no room") else ((((x.full 2).1.c1 d p.toNat).putIn d p.toNat k),.word "done")).2=.num i:=h
   split at h' <;> cases h'
 all_goals exact⟨_,h⟩
theorem Te (x:aq) (d:Int):∃w,(x.a4 (.drop d)).2=.word w:=by
 unfold aq.a4
 cases x.refusal (.drop d) with
 | some w=>exact⟨w,rfl⟩
 | none=>exact⟨_,rfl⟩
theorem Xn:dI nF nF (cR Cs):=d2
theorem WJ {a5 aI cU cH c4 cT:Addr}{ux:Addr}{xN:FuncData}{uu:Addr}{dL:FuncData}{hL:Addr}{iG:FuncData}{l_:Addr}{n6:FuncData}{g4:Addr}{hM:FuncData}{jS:Addr}{lG:FuncData}{jR:Addr}{lF:FuncData}(F:bW K "do_deed" "do_deed" Cs f fd) (T:iN K mg aI) (Bc:br P w K mg base (d_ P w) 6 ux xN k9 (Ci a5 aI cU cH c4 cT)) (A5:Binds K xN k9 []) (AV:Meth K aI "begin" ux)
  (x3:br P w K mg base (d_ P w) 2 uu dL hQ (CF a5 aI cU cH c4 cT)) (xR:Binds K dL hQ []) (xo:Meth K aI "look" uu)
  (mj:br P w K mg base (d_ P w) 6 hL iG kG (Dc a5 aI cU cH c4 cT)) (md:Binds K iG kG []) (kj:Meth K aI "put" hL)
  (sS:br P w K mg base (d_ P w) 3 l_ n6 hY (y_ a5 aI cU cH c4 cT)) (sH:Binds K n6 hY []) (mN:Meth K aI "end" l_)
  (iM:br P w K mg base (d_ P w) 4 g4 hM hY (CH a5 aI cU cH c4 cT)) (iH:Binds K hM hY []) (hH:Meth K aI "drop" g4)
  (qf:br P w K mg base (d_ P w) 3 jS lG hQ (yM a5 aI cH)) (qa:Binds K lG hQ []) (p2:Meth K aI "carry" jS)
  (qe:br P w K mg base bX 3 jR lF k9 (za a5 aI)) (p_:Binds K lF k9 []) (p1:Meth K aI "cut" jR):br P w K mg base (d_ P w) 7 f fd nF (BY a5 aI cU cH c4 cT):=by
 refine F.nE Xn (fun vs H Q hO h=>?_) (fun cy A outer s H vs Q hO aD h=>?_)
 ·obtain⟨a,lo,pl,x,aQ,n,v,e,rfl,_⟩:=h
  rfl
 obtain⟨a,lo,pl,x,aQ,n,v,e,rfl,R,bL,aY,q⟩:=h
 have A:=R.uo
 obtain⟨dx,b8⟩:=A.bY
 refine⟨_,(bq (cI (cM dJ (bE b6 (ah 1) aV (fun _ _=>rfl)) bB (cc _)) (bg (c_ (yG (ah 0) T.cl AV Bc (cE aD) A5 .nil (j0 fun _ _ z=>z)))) dk) (bq (cI (cM dJ (bE b6 (ah 1) aV (fun _ _=>rfl)) bB (cc _)) (bg (c_ (g7 (ah 0) T.cl xo x3 (cE aD) xR .nil (j0 fun _ _ z=>z) (au (bE b6 (ah 1) aV (fun _ _=>rfl)) aN)))) dk) (bq (cI (cM dJ (bE b6 (ah 1) aV (fun _ _=>rfl)) bB (cc _)) (bg (dH (g7 (ah 0) T.cl kj mj (cE aD) md .nil (j0 fun _ _ z=>z) (au (bE b6 (ah 1) aV (fun _ _=>rfl)) (au (bE b6 (ah 1) aV (fun _ _=>rfl)) (au (bE b6 (ah 1) aV (fun _ _=>rfl)) aN)))))) (bg (cI (cM dJ (bE b6 (ah 1) aV (fun _ _=>rfl)) bB (cc _)) (bg (dH (g7 (ah 0) T.cl mN sS (cE aD) sH .nil (j0 fun _ _ z=>z) (au (bE b6 (ah 1) aV (fun _ _=>rfl)) aN)))) (bg (cI (cM dJ (bE b6 (ah 1) aV (fun _ _=>rfl)) bB (cc _)) (bg (dH (g7 (ah 0) T.cl hH iM (cE aD) iH .nil (j0 fun _ _ z=>z) (au (bE b6 (ah 1) aV (fun _ _=>rfl)) aN)))) (bg (cI (cM dJ (bE b6 (ah 1) aV (fun _ _=>rfl)) bB (cc _)) (bg (dH (g7 (ah 0) T.cl p2 qf (cE aD) qa .nil (j0 fun _ _ z=>z) (au (bE b6 (ah 1) aV (fun _ _=>rfl)) aN)))) (bg (cI (cM dJ (bE b6 (ah 1) aV (fun _ _=>rfl)) bB (cc _)) (bg (dH (yG (ah 0) T.cl p1 qe (cE aD) p_ .nil de))) dk))))))))) (bg (c_ bB))))),?_⟩
 cases e with
 | begin =>
  obtain⟨c,cS,rfl,ai,bz⟩:=qp bL
  cases bz.str_inv
  refine⟨_,rfl,c,_,_,_,rfl,rfl,aG.of ai,rfl,rfl,_,rfl,dE rfl ?_⟩
  refine⟨_,rfl,a.h,dx,_,rfl,b8,(by kernel_rfl),a,lo,pl,x,aQ,n,rfl,R,fun lo' hb hA af kV l m=>?_⟩
  have h:=q lo' hb hA af kV l m
  have aU:(x.a4 .begin).2=if (x.began.full 1).2=true then cW.word "no room" else .num x.begun:=by
   show (if (x.began.full 1).2=true then ((x.began.full 1).1,cW.word "no room") else ((x.began.full 1).1.opened,.num x.begun)).2=_
   split <;> rfl
  rw[aU]at h ⊢
  split at h
  ·rename_i z
   rw[if_pos z]
   exact u1.mpr (u1.mp h)
  ·rename_i z
   rw[if_neg z]
   exact h
 | look p =>
  obtain⟨c,cS,c2,rfl,ai,bz,b3⟩:=f7 bL
  cases bz.str_inv
  cases b3.int_inv
  refine⟨_,rfl,c,_,_,_,rfl,rfl,aG.of ai,rfl,rfl,_,rfl,bu (by decide +kernel) ?_⟩
  refine⟨_,rfl,c,_,_,_,rfl,rfl,aG.of ai,rfl,rfl,_,rfl,dE rfl ?_⟩
  refine⟨_,rfl,a.h,dx,_,rfl,b8,(by kernel_rfl),_,rfl,c,_,_,_,rfl,rfl,aG.of ai,rfl,a,lo,pl,x,aQ,n,p,rfl,R,aY,fun lo' hb hA af kV l m=>?_⟩
  have h:=q lo' hb hA af kV l m
  by_cases sF:p<0∨(x.av.length:Int)≤p
  ·have aU:=sZ (e:=.look p) (w:="no page") (if_pos sF)
   rw[aU]at h ⊢
   exact td.mpr (td.mp h)
  ·have aU:=rr (x:=x) (e:=.look p) (if_neg sF)
   rw[aU]at h ⊢
   exact h
 | put d p k =>
  obtain⟨c,cS,c2,mW,w6,rfl,ai,bz,b3,h4,nW⟩:=yC bL
  cases bz.str_inv
  cases b3.int_inv
  cases h4.int_inv
  cases nW.int_inv
  refine⟨_,rfl,c,_,_,_,rfl,rfl,aG.of ai,rfl,rfl,_,rfl,bu (by decide +kernel) ?_⟩
  refine⟨_,rfl,c,_,_,_,rfl,rfl,aG.of ai,rfl,rfl,_,rfl,bu (by decide +kernel) ?_⟩
  refine⟨_,rfl,c,_,_,_,rfl,rfl,aG.of ai,rfl,rfl,_,rfl,dE rfl ?_⟩
  refine⟨_,rfl,a.h,dx,_,rfl,b8,(by kernel_rfl),_,rfl,c,_,_,_,rfl,rfl,aG.of ai,rfl,_,rfl,c,_,_,_,rfl,rfl,aG.of ai,rfl,_,rfl,c,_,_,_,rfl,rfl,aG.of ai,rfl,a,lo,pl,x,aQ,n,d,p,k,rfl,R,aY.1,aY.2,fun lo' hb hA af kV l m=>?_⟩
  have h:=q lo' hb hA af kV l m
  obtain⟨w,hw⟩:=TM x d p k
  rw[hw]at h ⊢
  exact h
 | fin d =>
  obtain⟨c,cS,c2,rfl,ai,bz,b3⟩:=f7 bL
  cases bz.str_inv
  cases b3.int_inv
  refine⟨_,rfl,c,_,_,_,rfl,rfl,aG.of ai,rfl,rfl,_,rfl,bu (by decide +kernel) ?_⟩
  refine⟨_,rfl,c,_,_,_,rfl,rfl,aG.of ai,rfl,rfl,_,rfl,bu (by decide +kernel) ?_⟩
  refine⟨_,rfl,c,_,_,_,rfl,rfl,aG.of ai,rfl,rfl,_,rfl,bu (by decide +kernel) ?_⟩
  refine⟨_,rfl,c,_,_,_,rfl,rfl,aG.of ai,rfl,rfl,_,rfl,dE rfl ?_⟩
  refine⟨_,rfl,a.h,dx,_,rfl,b8,(by kernel_rfl),_,rfl,c,_,_,_,rfl,rfl,aG.of ai,rfl,a,lo,pl,x,aQ,n,d,rfl,A,R.fits (by decide),aY,?_⟩
  have eG:x.refusal (.fin d)=(if x.isOpen d=false then some ("no dealing":Str) else none):=rfl
  cases aC:x.isOpen d with
  | false =>
   rw[if_pos rfl]
   rw[aC,if_pos rfl]at eG
   have aU:=sZ eG
   have h:=q lo pl aQ H (by rw[aU];exact A) (le_succ _) (eL.refl ..)
   rw[aU]at h
   exact yf.mp h
  | true =>
   rw[if_neg (fun z=>nomatch z)]
   rw[aC,if_neg (fun z=>nomatch z)]at eG
   have aU:=rr eG
   intro lo' af kV m
   have h:=q lo' _ aQ af (by rw[aU];exact kV) (le_succ _) m
   rw[aU]at h
   exact te.mp h
 | drop d =>
  obtain⟨c,cS,c2,rfl,ai,bz,b3⟩:=f7 bL
  cases bz.str_inv
  cases b3.int_inv
  refine⟨_,rfl,c,_,_,_,rfl,rfl,aG.of ai,rfl,rfl,_,rfl,bu (by decide +kernel) ?_⟩
  refine⟨_,rfl,c,_,_,_,rfl,rfl,aG.of ai,rfl,rfl,_,rfl,bu (by decide +kernel) ?_⟩
  refine⟨_,rfl,c,_,_,_,rfl,rfl,aG.of ai,rfl,rfl,_,rfl,bu (by decide +kernel) ?_⟩
  refine⟨_,rfl,c,_,_,_,rfl,rfl,aG.of ai,rfl,rfl,_,rfl,bu (by decide +kernel) ?_⟩
  refine⟨_,rfl,c,_,_,_,rfl,rfl,aG.of ai,rfl,rfl,_,rfl,dE rfl ?_⟩
  refine⟨_,rfl,a.h,dx,_,rfl,b8,(by kernel_rfl),_,rfl,c,_,_,_,rfl,rfl,aG.of ai,rfl,a,lo,pl,x,aQ,n,d,rfl,R,aY,fun lo' hb hA af kV l m=>?_⟩
  have h:=q lo' hb hA af kV l m
  obtain⟨w,hw⟩:=Te x d
  rw[hw]at h ⊢
  exact h
 | carry p =>
  obtain⟨c,cS,c2,rfl,ai,bz,b3⟩:=f7 bL
  cases bz.str_inv
  cases b3.int_inv
  refine⟨_,rfl,c,_,_,_,rfl,rfl,aG.of ai,rfl,rfl,_,rfl,bu (by decide +kernel) ?_⟩
  refine⟨_,rfl,c,_,_,_,rfl,rfl,aG.of ai,rfl,rfl,_,rfl,bu (by decide +kernel) ?_⟩
  refine⟨_,rfl,c,_,_,_,rfl,rfl,aG.of ai,rfl,rfl,_,rfl,bu (by decide +kernel) ?_⟩
  refine⟨_,rfl,c,_,_,_,rfl,rfl,aG.of ai,rfl,rfl,_,rfl,bu (by decide +kernel) ?_⟩
  refine⟨_,rfl,c,_,_,_,rfl,rfl,aG.of ai,rfl,rfl,_,rfl,bu (by decide +kernel) ?_⟩
  refine⟨_,rfl,c,_,_,_,rfl,rfl,aG.of ai,rfl,rfl,_,rfl,dE rfl ?_⟩
  refine⟨_,rfl,a.h,dx,_,rfl,b8,(by kernel_rfl),_,rfl,c,_,_,_,rfl,rfl,aG.of ai,rfl,a,lo,pl,x,aQ,p,rfl,A,aY,R.fits (by decide),?_⟩
  by_cases sF:p<0∨(x.av.length:Int)≤p
  ·rw[if_pos sF]
   have aU:=sZ (x:=x) (e:=.carry p) (w:="no page") (if_pos sF)
   have h:=q lo pl aQ H (by rw[aU];exact A) (le_succ _) (eL.refl ..)
   rw[aU]at h
   exact td.mp h
  ·rw[if_neg sF]
   have aU:=rr (x:=x) (e:=.carry p) (if_neg sF)
   intro lo' af kV m
   have h:=q lo' pl aQ af (by rw[aU];exact kV) (le_succ _) m
   rw[aU]at h
   exact te.mp h
 | cut =>
  obtain⟨c,cS,rfl,ai,bz⟩:=qp bL
  cases bz.str_inv
  refine⟨_,rfl,c,_,_,_,rfl,rfl,aG.of ai,rfl,rfl,_,rfl,bu (by decide +kernel) ?_⟩
  refine⟨_,rfl,c,_,_,_,rfl,rfl,aG.of ai,rfl,rfl,_,rfl,bu (by decide +kernel) ?_⟩
  refine⟨_,rfl,c,_,_,_,rfl,rfl,aG.of ai,rfl,rfl,_,rfl,bu (by decide +kernel) ?_⟩
  refine⟨_,rfl,c,_,_,_,rfl,rfl,aG.of ai,rfl,rfl,_,rfl,bu (by decide +kernel) ?_⟩
  refine⟨_,rfl,c,_,_,_,rfl,rfl,aG.of ai,rfl,rfl,_,rfl,bu (by decide +kernel) ?_⟩
  refine⟨_,rfl,c,_,_,_,rfl,rfl,aG.of ai,rfl,rfl,_,rfl,bu (by decide +kernel) ?_⟩
  refine⟨_,rfl,c,_,_,_,rfl,rfl,aG.of ai,rfl,rfl,_,rfl,dE rfl ?_⟩
  refine⟨_,rfl,a.h,dx,_,rfl,b8,(by kernel_rfl),a,lo,pl,x,aQ,rfl,A,R.fits (by decide),R.z3,fun lo' af kV m=>?_⟩
  have aU:=rr (x:=x) (e:=.cut) rfl
  have h:=q lo' pl aQ af (by rw[aU];exact kV) (le_succ _) m
  rw[aU]at h
  exact te.mp h
structure vS (K:PySem.W.Frag) (mg:Str→Option Value) (cU cH c4 cT:Addr):Prop extends sf K mg cU cH c4 cT where
 mt:∀p∈[cU,cH,c4,cT],∀q∈[cU,cH,c4,cT],exmOne K (.ref p) (.ref q)=some (p == q)
 a_:[cU,cH,c4,cT].Nodup
theorem Td {K:PySem.W.Frag}{mg:Str→Option Value}{cU cH c4 cT:Addr}(X:vS K mg cU cH c4 cT):∀p∈([(cU,"no dealing"),(cH,"no page"),(c4,"taken"),(cT,"no room")]:List (Addr × Str)),∀q∈([(cU,"no dealing"),(cH,"no page"),(c4,"taken"),(cT,"no room")]:List (Addr × Str)),exmOne K (.ref p.1) (.ref q.1)=some (p.1 == q.1):=fun p aF q bo=>by
 refine X.mt p.1 ?_ q.1 ?_
 ·have:=List.mem_map_of_mem (f:=(·.1)) aF
  exact this
 ·have:=List.mem_map_of_mem (f:=(·.1)) bo
  exact this
theorem Ut {K:PySem.W.Frag}{mg:Str→Option Value}{cU cH c4 cT:Addr}(X:vS K mg cU cH c4 cT) {Q:cD}:∀(c:Value) (H:ao),((c=.ref cU∧Q (.str "no dealing") H)∨(c=.ref cH∧Q (.str "no page") H)∨(c=.ref c4∧Q (.str "taken") H)∨(c=.ref cT∧Q (.str "no room") H)) →
  ∃C r,c=.ref C∧([(cU,"no dealing"),(cH,"no page"),(c4,"taken"),(cT,"no room")]:List (Addr × Str)).lookup C=some r∧Q (.str r) H:=fun c H h=>by
 have a_:=X.a_
 simp only[nodup_cons,mem_cons,not_mem_nil,or_false,not_or,not_false_eq_true,nodup_nil,and_true]at a_
 obtain⟨⟨a1,a2,kS⟩,⟨e4,fK⟩,cN⟩:=a_
 have uC:∀{x y:Addr},¬x=y→(y == x)=false:=fun h=>by simpa using fun z=>h z.symm
 rcases h with ⟨rfl,h⟩ | ⟨rfl,h⟩ | ⟨rfl,h⟩ | ⟨rfl,h⟩
 ·exact⟨cU,_,rfl,by rw[lookup_cons,beq_self_eq_true],h⟩
 ·exact⟨cH,_,rfl,by rw[lookup_cons,uC a1,lookup_cons,beq_self_eq_true],h⟩
 ·exact⟨c4,_,rfl,by rw[lookup_cons,uC a2,lookup_cons,uC e4,lookup_cons,beq_self_eq_true],h⟩
 ·exact⟨cT,_,rfl,by rw[lookup_cons,uC kS,lookup_cons,uC fK,lookup_cons,uC cN,lookup_cons,beq_self_eq_true],h⟩
theorem VB:dI nF nF (cR yN):=d2
theorem SS {a5 aI cU cH c4 cT:Addr}{g4:Addr}{hM:FuncData}(F:bW K "answer" "answer" yN f fd) (X:vS K mg cU cH c4 cT) (iM:br P w K mg base (d_ P w) 7 g4 hM nF (BY a5 aI cU cH c4 cT)) (iH:Binds K hM nF []) (o4:keepIn K (.ref g4)=true) (hH:mg "do_deed"=some (.ref g4)):br P w K mg base bX 8 f fd nF (BZ a5 aI):=by
 refine F.ok VB (fun vs H Q E h=>?_) (fun cy A outer s H vs Q E aD h=>?_)
 ·obtain⟨a,lo,pl,x,aQ,n,v,e,rfl,_⟩:=h
  rfl
 obtain⟨a,lo,pl,x,aQ,n,v,e,rfl,R,bL,aY,q⟩:=h
 refine⟨_,(bg (VK (Q:=Q) (cs:=[(cU,"no dealing"),(cH,"no page"),(c4,"taken"),(cT,"no room")]) (e0:=(f9 bX P w K mg base nF "answer" (cR yN) f cy A outer s H E).env) (outer:=outer) rfl rfl rfl (.cons X.hH rfl (by decide) (.cons X.kj rfl (by decide) (.cons X.q8 rfl (by decide) (.cons X.o3 rfl (by decide) .nil)))) (Td X)
   (fun pp=>bg (c_ (dR iM (cE aD) rfl hH o4 iH .nil (WB (E:=fun c _ H=>(c=.ref cU∧Q (.str "no dealing") H)∨(c=.ref cH∧Q (.str "no page") H)∨(c=.ref c4∧Q (.str "taken") H)∨(c=.ref cT∧Q (.str "no room") H)) rfl rfl rfl (Ut X)) (au (ah 0) (au (ah 1) aN))))))),?_⟩
 refine⟨fun v H h=>h,?_⟩
 refine⟨_,rfl,_,rfl,a,lo,pl,x,aQ,n,v,e,rfl,R,bL,aY,fun lo' hb hA af kV l m=>?_⟩
 have h:=q lo' hb hA af kV l m
 rcases G8 x e with ⟨i,hw⟩ | hw | hw | hw | hw | hw
 ·rw[hw]at h ⊢;exact h
 ·rw[hw]at h ⊢;exact te.mpr h
 ·rw[hw]at h ⊢;exact yf.mpr (.inl ⟨rfl,h⟩)
 ·rw[hw]at h ⊢;exact td.mpr (.inr (.inl ⟨rfl,h⟩))
 ·rw[hw]at h ⊢;exact IB.mpr (.inr (.inr (.inl ⟨rfl,h⟩)))
 ·rw[hw]at h ⊢;exact u1.mpr (.inr (.inr (.inr ⟨rfl,h⟩)))
def JF:dj:=fun vs H Q _=>∃(cl:Addr) (cs:List Int) (c:Int),vs=[.ref cl,.int c]∧H cl=some (.lst (cs.map V.int))∧cs.length≤63∧1≤c∧c≤40 ∧
 ∀(r:Addr) (us:List V) (aB:List b7) (af:ao),bO H af→af r=some (.lst us)→bl af (aB.map b7.D) us→aB.length≤63→(∀e∈aB,qJ e)→Q (.ref r) af
def bd (i:Int):Prop := -(10000000000000000000000000000000000000000:Int)≤i∧i≤10000000000000000000000000000000000000000
theorem bd.c6 {i:Int}(h:bd i):c6 i:=by
 obtain⟨ak,az⟩:=h
 refine Ih (lt_of_le_of_lt (m:=10 ^ 40) (by have e:(10:Nat) ^ 40=10000000000000000000000000000000000000000:=(by decide);rw[e];omega) ?_)
 exact lt_of_lt_of_le (by decide:10 ^ 40<2 ^ 200) (Nat.pow_le_pow_right (by decide) (by decide))
theorem PM:(10:Int) ^ (30:Int).toNat=1000000000000000000000000000000:=by decide +kernel
def vq:List Str:=["begin","put","end","drop","look","carry","cut"]
def zm:List Str:=["begin","put","put","put","end","put","carry","put","drop","look","put","cut","end","put","begin","carry"]
theorem I0:∀w∈zm,w∈vq:=by decide +kernel
def u9 (s:Stmt):List Stmt:=match s with
 | .For _ _ b _ _=>b
 | _=>[]
structure g6 (d6 H:ao) (c3 cG c0 b0:Addr) (us:List V) (aB:List b7) (os vs:List Int) (b:Int) (k:Nat):Prop where
 c6:bO d6 H
 hw:H c3=some (.lst (zm.map V.str))
 bk:H cG=some (.lst us)
 jM:bl H (aB.map b7.D) us
 lB:aB.length=k
 pZ:∀e∈aB,qJ e
 aC:H c0=some (.lst (os.map V.int))
 lo:os.length≤k
 sr:∀o∈os,bd o
 aX:H b0=some (.lst (vs.map V.int))
 lv:vs.length≤k
 nV:∀o∈vs,bd o
 lI:0≤b
 e4:b≤k
 fU:d6 cG=none
 lC:d6 c0=none
 fv:d6 b0=none
 dT:c3≠cG
 dP:c3≠c0
 eO:c3≠b0
 fF:cG≠c0
 gi:cG≠b0
 gw:c0≠b0
section
variable {d6 H af:ao}{c3 cG c0 b0:Addr}{us:List V}{aB:List b7}{os vs:List Int}{b:Int}{k:Nat}
theorem g6.same (D:g6 d6 H c3 cG c0 b0 us aB os vs b k) (s:bO H af):g6 d6 af c3 cG c0 b0 us aB os vs b k :=
 ⟨D.c6.trans s,s _ _ D.hw,s _ _ D.bk,bl.mono s _ _ D.jM,D.lB,D.pZ,s _ _ D.aC,D.lo,D.sr,s _ _ D.aX,D.lv,D.nV,D.lI,D.e4,D.fU,D.lC,D.fv,D.dT,D.dP,D.eO,D.fF,D.gi,D.gw⟩
theorem g6.ask (D:g6 d6 H c3 cG c0 b0 us aB os vs b k) {e:b7}{v:V}(aX:Rep H e.D v) (aY:qJ e):g6 d6 (upd H cG (.lst (us++[v]))) c3 cG c0 b0 (us++[v]) (aB++[e]) os vs b (k+1):=by
 have kt:eh H (upd H cG (.lst (us++[v]))):=fun c ys q=>by
  rw[aA (dv q D.bk (fun z=>nomatch z))]
  exact q
 have gy:=D.lo
 have iE:=D.lv
 have p3:=D.e4
 refine⟨D.c6.ig D.fU,by rw[aA D.dT];exact D.hw,aR,?_,by rw[length_append,D.lB];rfl,fun cX he=>?_,by rw[aA D.fF.symm];exact D.aC,by omega,D.sr,by rw[aA D.gi.symm];exact D.aX,by omega,D.nV,D.lI,by omega,D.fU,D.lC,D.fv,D.dT,D.dP,D.eO,D.fF,D.gi,D.gw⟩
 ·rw[map_append]
  exact (bl.keep kt _ _ (eK b7.gD _) D.jM).append (.cons (Rep.keep kt _ _ (b7.gD _) aX) .nil)
 ·rcases mem_append.mp he with z | z
  ·exact D.pZ cX z
  ·rw[mem_singleton.mp z];exact aY
theorem g6.Xg (D:g6 d6 H c3 cG c0 b0 us aB os vs b k) {os':List Int}(aE:os'.length≤k) (aY:∀o∈os',bd o):g6 d6 (upd H c0 (.lst (os'.map V.int))) c3 cG c0 b0 us aB os' vs b k:=by
 have kt:eh H (upd H c0 (.lst (os'.map V.int))):=fun c ys q=>by
  rw[aA (dv q D.aC (fun z=>nomatch z))]
  exact q
 exact⟨D.c6.ig D.lC,by rw[aA D.dP];exact D.hw,by rw[aA D.fF];exact D.bk,bl.keep kt _ _ (eK b7.gD _) D.jM,D.lB,D.pZ,aR,aE,aY,by rw[aA D.gw.symm];exact D.aX,D.lv,D.nV,D.lI,D.e4,D.fU,D.lC,D.fv,D.dT,D.dP,D.eO,D.fF,D.gi,D.gw⟩
theorem g6.LC (D:g6 d6 H c3 cG c0 b0 us aB os vs b k) {vs':List Int}(aE:vs'.length≤k) (aY:∀o∈vs',bd o):g6 d6 (upd H b0 (.lst (vs'.map V.int))) c3 cG c0 b0 us aB os vs' b k:=by
 have kt:eh H (upd H b0 (.lst (vs'.map V.int))):=fun c ys q=>by
  rw[aA (dv q D.aX (fun z=>nomatch z))]
  exact q
 exact⟨D.c6.ig D.fv,by rw[aA D.eO];exact D.hw,by rw[aA D.gi];exact D.bk,bl.keep kt _ _ (eK b7.gD _) D.jM,D.lB,D.pZ,by rw[aA D.gw];exact D.aC,D.lo,D.sr,aR,aE,aY,D.lI,D.e4,D.fU,D.lC,D.fv,D.dT,D.dP,D.eO,D.fF,D.gi,D.gw⟩
theorem g6.XM (D:g6 d6 H c3 cG c0 b0 us aB os vs b k) {n:Addr}{os':List Int}(aP:H n=none) (aE:os'.length≤k) (aY:∀o∈os',bd o):g6 d6 (upd H n (.lst (os'.map V.int))) c3 cG n b0 us aB os' vs b k:=by
 have s:=bR aP (.lst (os'.map V.int))
 have nw:c3≠n:=cB D.hw aP
 have na:cG≠n:=cB D.bk aP
 have gH:b0≠n:=cB D.aX aP
 exact⟨D.c6.trans s,s _ _ D.hw,s _ _ D.bk,bl.mono s _ _ D.jM,D.lB,D.pZ,aR,aE,aY,s _ _ D.aX,D.lv,D.nV,D.lI,D.e4,D.fU,D.c6.free aP,D.fv,D.dT,nw,D.eO,na,D.gi,gH.symm⟩
theorem g6.begun (D:g6 d6 H c3 cG c0 b0 us aB os vs b (k+1)) (h:b+1≤((k+1:Nat):Int)):g6 d6 H c3 cG c0 b0 us aB os vs (b+1) (k+1) :=
 ⟨D.c6,D.hw,D.bk,D.jM,D.lB,D.pZ,D.aC,D.lo,D.sr,D.aX,D.lv,D.nV,by have:=D.lI;omega,h,D.fU,D.lC,D.fv,D.dT,D.dP,D.eO,D.fF,D.gi,D.gw⟩
end
def sU (d6:ao) (cl:Addr) (c:Int) (c3 cG b0:Addr) (k:Nat) (σ:St) (H:ao):Prop :=
 ∃(c0:Addr) (us:List V) (aB:List b7) (os vs:List Int) (b:Int) (fa fS gZ hc hB gM gL jC iV:Option V),σ=[some (.ref cl),some (.int c),some (.ref c3),some (.ref cG),some (.ref c0),some (.ref b0),some (.int b),fa,fS,gZ,hc,hB,gM,gL,jC,iV]∧g6 d6 H c3 cG c0 b0 us aB os vs b k
def KQ (s:Stmt):List Stmt:=match s with
 | .If _ b _ _=>b
 | _=>[]
def C7 (s:Stmt):List Stmt:=match s with
 | .If _ _ b _=>b
 | _=>[]
theorem hs:dI rP zA (cR kx):=d2
theorem T9 {g4:Addr}{hM:FuncData}(F:bW K "_law_deeds" "_law_deeds" kx f fd) (B:eY mg) (iM:br P w K mg base bX 1 g4 hM vI Ky) (iH:Binds K hM vI []) (o4:keepIn K (.ref g4)=true) (hH:mg "_law_draw"=some (.ref g4)) :
  br P w K mg base bX 2 f fd zA JF:=by
 refine F.ok hs (fun vs H Q E h=>?_) (fun cy A outer s H vs Q E aD h=>?_)
 ·obtain⟨cl,cs,c,rfl,_⟩:=h
  rfl
 obtain⟨cl,cs,c,rfl,EX,Ge,cN,dB,q⟩:=h
 have bf:=g_ aD
 obtain⟨acj,XX,LM⟩:∃t,hC (f9 bX P w K mg base rP "_law_deeds" (cR kx) f cy A outer s H E).mK ((KQ ((C7 ((u9 ((iQ kx).getD 6 (.Pass ⟨0,0,0,0⟩))).getD 10 (.Pass ⟨0,0,0,0⟩))).getD 0 (.Pass ⟨0,0,0,0⟩))).drop 2) t∧∀(D:Ends) (c3 cG c0 b0:Addr) (us:List V) (aB:List b7) (os vs:List Int) (b:Int) (k:Nat) (fa gZ hc gL:Option V) (r dr p d m:Int) (H1:ao),
   g6 H H1 c3 cG c0 b0 us aB os vs b k→k<63→bd p→bd d→(∀bA af,sU H cl c c3 cG b0 (k+1) bA af→D.da bA af)→t D [some (.ref cl),some (.int c),some (.ref c3),some (.ref cG),some (.ref c0),some (.ref b0),some (.int b),fa,some (.int r),gZ,hc,some (.int dr),some (.int p),gL,some (.int d),some (.int m)] H1:=by
  refine⟨_,(bq (dc (i:=15) hs.a_ rfl (Or.inl rfl) (bE fq (fi (au (ah 15) (au (ah 15) (au (ah 11) (au (dg rC aV (ah 11)) aN))))) (dR iM (cE aD) rfl hH o4 iH .nil de (au (ah 8) (au aV (au aV aN)))) (fun _ _=>rfl))) (bg (dH (iS plainAttrs_list PySem.F.slot_list_append PySem.F.type_list_append ie (ah 3) (au (gp (au bB (au (ah 14) (au (ah 12) (au (ah 15) aN))))) aN))))),?_⟩
  intro D c3 cG c0 b0 us aB os vs b k fa gZ hc gL r dr p d m H1 dU aS h7 nP gb
  have tT:us.length=aB.length:=by rw[bl.length dU.jM,length_map]
  have lB:=dU.lB
  refine⟨_,rfl,_,rfl,_,rfl,_,rfl,_,_,rfl,rfl,cZ,fun t aZ=>?_⟩
  refine⟨_,rfl,_,_,_,rfl,by decide,by decide,fun z mV aa0=>?_⟩
  obtain⟨y,cS,c2⟩:=kX (ns:=[m,m,dr,0 - dr]) (k:=z) mV aa0
  have s1:=bR aZ (.lst [.int m,.int m,.int dr,.int (0 - dr)])
  have gR:=dU.same s1
  refine⟨t,_,_,_,rfl,rfl,aO.of aR,c2,?_⟩
  refine⟨_,rfl,.inl ⟨rfl,_,aO.of gR.bk⟩,_,rfl,_,rfl,_,rfl,cZ,fun eE r0=>?_⟩
  have ic:=gR.same (bR r0 (.tup [.str "put",.int d,.int p,.int y]))
  refine⟨cG,us,.ref eE,rfl,rfl,ic.bk,oo (by omega),gb _ _ ?_⟩
  exact⟨c0,_,_,_,_,b,_,_,_,_,_,_,_,_,_,rfl,ic.ask (e:=.put d p y) (v:=.ref eE) (Rep.g9 aR (.cons .ofStr (.cons .ofInt (.cons .ofInt (.cons .ofInt .nil))))) ⟨nP.c6,h7.c6⟩⟩
 obtain⟨aci,WY,zc⟩:∃t,hC (f9 bX P w K mg base rP "_law_deeds" (cR kx) f cy A outer s H E).mK ((KQ ((C7 ((C7 ((u9 ((iQ kx).getD 6 (.Pass ⟨0,0,0,0⟩))).getD 10 (.Pass ⟨0,0,0,0⟩))).getD 0 (.Pass ⟨0,0,0,0⟩))).getD 0 (.Pass ⟨0,0,0,0⟩))).drop 2) t∧∀(D:Ends) (c3 cG c0 b0:Addr) (us:List V) (aB:List b7) (os vs:List Int) (b:Int) (k:Nat) (fa fS gZ hc hB gM gL iV:Option V) (d:Int) (H1:ao),
   g6 H H1 c3 cG c0 b0 us aB os vs b k→k<100→(∀bA af,sU H cl c c3 cG b0 k bA af→D.da bA af)→t D [some (.ref cl),some (.int c),some (.ref c3),some (.ref cG),some (.ref c0),some (.ref b0),some (.int b),fa,fS,gZ,hc,hB,gM,gL,some (.int d),iV] H1:=by
  refine⟨_,(bg (TO (i:=4) [14] ["_law_one","_law_dealing"] hs.a_ rfl rfl (k4.one (fv:="_law_dealing") (j:=14) rfl (by decide +kernel) (by decide +kernel) rfl (by decide +kernel) rfl rfl (by decide +kernel) rfl rfl rfl) rfl (ku (ah 4)) (fun C s1 H1 bJ=>(cM kY (ah 0) (ah 1) (cc _))) (fun C s1 H1 bJ=>(ah 0)))),?_⟩
  intro D c3 cG c0 b0 us aB os vs b k fa fS gZ hc hB gM gL iV d H1 dU aS gb
  have lo:=dU.lo
  refine⟨_,rfl,c0,rfl,⟨_,aO.of dU.aC⟩,fun n aP=>Sn (K:=K) (fun z => !decide (V.int z=V.int d)) dU.aC aP (by omega) (fun z aT p4 wD=>⟨_,rfl,_,rfl,rfl,_,rfl,wD⟩) (fun z aT p4 wD=>⟨_,rfl,wD⟩) ?_⟩
  refine gb _ _ ⟨n,_,_,_,_,b,_,_,_,_,_,_,_,_,_,rfl,dU.XM aP (le_trans (length_filter_le ..) lo) fun o aC=>dU.sr o (mem_filter.mp aC).1⟩
 obtain⟨acu,Z5,Eg⟩:∃t,hC (f9 bX P w K mg base rP "_law_deeds" (cR kx) f cy A outer s H E).mK ((u9 ((iQ kx).getD 6 (.Pass ⟨0,0,0,0⟩))).drop 10) t∧∀(D:Ends) (c3 cG c0 b0:Addr) (us:List V) (aB:List b7) (os vs:List Int) (b:Int) (k:Nat) (fa hc gL iV:Option V) (r:Int) (ww:Str) (dr p d:Int) (H1:ao),
   g6 H H1 c3 cG c0 b0 us aB os vs b k→k<63→ww∈vq→bd p→bd d→(∀bA af,sU H cl c c3 cG b0 (k+1) bA af→D.da bA af)→t D [some (.ref cl),some (.int c),some (.ref c3),some (.ref cG),some (.ref c0),some (.ref b0),some (.int b),fa,some (.int r),some (.str ww),hc,some (.int dr),some (.int p),gL,some (.int d),iV] H1:=by
  refine⟨_,(bg (cI (cM dJ (ah 9) bB (cc _)) (bq (dH (iS plainAttrs_list PySem.F.slot_list_append PySem.F.type_list_append ie (ah 3) (au (gp (au bB aN)) aN))) (bq (dH (iS plainAttrs_list PySem.F.slot_list_append PySem.F.type_list_append ie (ah 4) (au (ah 6) aN))) (bg (dc (i:=6) hs.a_ rfl (Or.inl rfl) (dg ht (ah 6) aV))))) (bg (cI (cM dJ (ah 9) bB (cc _)) (bq (dc (i:=15) hs.a_ rfl (Or.inl rfl) (dg rC (dR iM (cE aD) rfl hH o4 iH .nil de (au (ah 8) (au aV (au aV aN)))) aV)) (bq (dc (i:=15) hs.a_ rfl (Or.inl rfl) (bE fq (fi (au (ah 15) (au aV aN))) (i9 IU rfl B.int zR (au (iO rE (ah 15) aV (cc _)) aN)) (fun _ _=>rfl))) XX)) (bg (cI (mC (cM dJ (ah 9) bB (cc _)) (cM dJ (ah 9) bB (cc _))) (bq (dH (iS plainAttrs_list PySem.F.slot_list_append PySem.F.type_list_append ie (ah 3) (au (gp (au (ah 9) (au (ah 14) aN))) aN))) (bq (cI (cM IC (ah 14) (ah 4) (by with_unfolding_all rfl)) (bg (dH (iS plainAttrs_list PySem.F.slot_list_append PySem.F.type_list_append ie (ah 5) (au (ah 14) aN)))) dk) WY)) (bg (cI (cM dJ (ah 9) bB (cc _)) (bg (dH (iS plainAttrs_list PySem.F.slot_list_append PySem.F.type_list_append ie (ah 3) (au (gp (au bB aN)) aN)))) (bg (dH (iS plainAttrs_list PySem.F.slot_list_append PySem.F.type_list_append ie (ah 3) (au (gp (au (ah 9) (au (ah 12) aN))) aN)))))))))))),?_⟩
  intro D c3 cG c0 b0 us aB os vs b k fa hc gL iV r ww dr p d H1 dU aS hw h7 nP gb
  have tT:us.length=aB.length:=by rw[bl.length dU.jM,length_map]
  have lB:=dU.lB
  have lo:=dU.lo
  have lv:=dU.lv
  have c8:us.length<sizeLine:=oo (by omega)
  have over:∀(D:Ends) (ww:Str) (e:b7) (t:Addr),H1 t=none→Rep (upd H1 t (.tup [.str ww,.int d])) e.D (.ref t)→qJ e→(∀bA af,sU H cl c c3 cG b0 (k+1) bA af→D.da bA af) →
    g6 H (upd (upd H1 t (.tup [.str ww,.int d])) cG (.lst (us++[.ref t]))) c3 cG c0 b0 (us++[.ref t]) (aB++[e]) os vs b (k+1):=fun D ww e t aZ aX aY _=>(dU.same (bR aZ _)).ask aX aY
  simp only[vq,mem_cons,not_mem_nil,or_false]at hw
  rcases hw with rfl | rfl | rfl | rfl | rfl | rfl | rfl
  ·
   refine⟨_,rfl,rfl,_,rfl,dE rfl ?_⟩
   refine⟨_,rfl,.inl ⟨rfl,_,aO.of dU.bk⟩,cZ,fun t aZ=>?_⟩
   have gR:=dU.same (bR aZ (.tup [.str "begin"]))
   refine⟨cG,us,.ref t,rfl,rfl,gR.bk,c8,?_⟩
   have ic:=gR.ask (e:=.begin) (v:=.ref t) (Rep.g9 aR (.cons .ofStr .nil)) trivial
   have m_:=ic.Xg (os':=os++[b]) (by rw[length_append,length_singleton];omega) (fun o aC=>by
    rcases mem_append.mp aC with z | z
    ·exact dU.sr o z
    ·rw[mem_singleton.mp z]
     have:=dU.lI
     have:=dU.e4
     exact⟨by omega,by omega⟩)
   refine⟨_,rfl,.inl ⟨rfl,_,aO.of ic.aC⟩,_,rfl,c0,_,.int b,rfl,rfl,ic.aC,oo (by rw[length_map];omega),?_⟩
   have iF:os.map V.int++[.int b]=(os++[b]).map V.int:=by rw[map_append];rfl
   rw[iF]
   refine⟨_,rfl,_,_,rfl,rfl,gb _ _ ?_⟩
   exact⟨c0,_,_,_,_,b+1,_,_,_,_,_,_,_,_,_,rfl,m_.begun (by have:=dU.e4;omega)⟩
  ·
   refine⟨_,rfl,rfl,_,rfl,bu (by decide +kernel) ?_⟩
   refine⟨_,rfl,rfl,_,rfl,dE rfl ?_⟩
   refine⟨_,rfl,_,_,_,rfl,by decide,by decide,fun dm _ _=>⟨_,_,rfl,rfl,?_⟩⟩
   refine⟨_,rfl,cZ,fun t1 r1=>?_⟩
   have gR:=dU.same (bR r1 (.lst [.int (dm - 20),.int 1000000000000]))
   refine⟨_,rfl,_,_,rfl,rfl,.inr ⟨_,rfl,Kh aR ?_ ?_ _⟩⟩
   ·exact LM D c3 cG c0 b0 us aB os vs b k _ _ _ _ r dr p d _ _ gR aS h7 nP gb
   ·exact LM D c3 cG c0 b0 us aB os vs b k _ _ _ _ r dr p d _ _ gR aS h7 nP gb
  ·
   refine⟨_,rfl,rfl,_,rfl,bu (by decide +kernel) ?_⟩
   refine⟨_,rfl,rfl,_,rfl,bu (by decide +kernel) ?_⟩
   refine⟨_,rfl,rfl,_,rfl,dE rfl (el ?_)⟩
   refine⟨_,rfl,.inl ⟨rfl,_,aO.of dU.bk⟩,_,rfl,_,rfl,cZ,fun t aZ=>?_⟩
   have ic:=over D "end" (.fin d) t aZ (Rep.g9 aR (.cons .ofStr (.cons .ofInt .nil))) nP.c6 gb
   refine⟨cG,us,.ref t,rfl,rfl,(dU.same (bR aZ _)).bk,c8,?_⟩
   refine⟨_,rfl,_,rfl,c0,_,rfl,.inl (aO.of ic.aC),rfl,IP os,_,rfl,gq (fun _=>?_) (fun _=>?_)⟩
   ·refine⟨_,rfl,.inl ⟨rfl,_,aO.of ic.aX⟩,_,rfl,b0,_,.int d,rfl,rfl,ic.aX,oo (by rw[length_map];omega),?_⟩
    have iF:vs.map V.int++[.int d]=(vs++[d]).map V.int:=by rw[map_append];rfl
    rw[iF]
    have m_:=ic.LC (vs':=vs++[d]) (by rw[length_append,length_singleton];omega) (fun o aC=>by
     rcases mem_append.mp aC with z | z
     ·exact dU.nV o z
     ·rw[mem_singleton.mp z];exact nP)
    exact zc D c3 cG c0 b0 _ _ _ _ b (k+1) _ _ _ _ _ _ _ _ d _ m_ (by omega) gb
   ·exact zc D c3 cG c0 b0 _ _ _ _ b (k+1) _ _ _ _ _ _ _ _ d _ ic (by omega) gb
  ·
   refine⟨_,rfl,rfl,_,rfl,bu (by decide +kernel) ?_⟩
   refine⟨_,rfl,rfl,_,rfl,bu (by decide +kernel) ?_⟩
   refine⟨_,rfl,rfl,_,rfl,bu (by decide +kernel) ?_⟩
   refine⟨_,rfl,rfl,_,rfl,dE rfl ?_⟩
   refine⟨_,rfl,.inl ⟨rfl,_,aO.of dU.bk⟩,_,rfl,_,rfl,cZ,fun t aZ=>?_⟩
   have ic:=over D "drop" (.drop d) t aZ (Rep.g9 aR (.cons .ofStr (.cons .ofInt .nil))) nP.c6 gb
   refine⟨cG,us,.ref t,rfl,rfl,(dU.same (bR aZ _)).bk,c8,?_⟩
   refine⟨_,rfl,_,rfl,c0,_,rfl,.inl (aO.of ic.aC),rfl,IP os,_,rfl,gq (fun _=>?_) (fun _=>?_)⟩
   ·refine⟨_,rfl,.inl ⟨rfl,_,aO.of ic.aX⟩,_,rfl,b0,_,.int d,rfl,rfl,ic.aX,oo (by rw[length_map];omega),?_⟩
    have iF:vs.map V.int++[.int d]=(vs++[d]).map V.int:=by rw[map_append];rfl
    rw[iF]
    have m_:=ic.LC (vs':=vs++[d]) (by rw[length_append,length_singleton];omega) (fun o aC=>by
     rcases mem_append.mp aC with z | z
     ·exact dU.nV o z
     ·rw[mem_singleton.mp z];exact nP)
    exact zc D c3 cG c0 b0 _ _ _ _ b (k+1) _ _ _ _ _ _ _ _ d _ m_ (by omega) gb
   ·exact zc D c3 cG c0 b0 _ _ _ _ b (k+1) _ _ _ _ _ _ _ _ d _ ic (by omega) gb
  ·
   refine⟨_,rfl,rfl,_,rfl,bu (by decide +kernel) ?_⟩
   refine⟨_,rfl,rfl,_,rfl,bu (by decide +kernel) ?_⟩
   refine⟨_,rfl,rfl,_,rfl,bu (by decide +kernel) ?_⟩
   refine⟨_,rfl,rfl,_,rfl,bu (by decide +kernel) ?_⟩
   refine⟨_,rfl,rfl,_,rfl,bu (by decide +kernel) ?_⟩
   refine⟨_,rfl,.inl ⟨rfl,_,aO.of dU.bk⟩,_,rfl,_,rfl,cZ,fun t aZ=>?_⟩
   have gR:=dU.same (bR aZ (.tup [.str "look",.int p]))
   refine⟨cG,us,.ref t,rfl,rfl,gR.bk,c8,gb _ _ ?_⟩
   exact⟨c0,_,_,_,_,b,_,_,_,_,_,_,_,_,_,rfl,gR.ask (e:=.look p) (v:=.ref t) (Rep.g9 aR (.cons .ofStr (.cons .ofInt .nil))) h7.c6⟩
  ·
   refine⟨_,rfl,rfl,_,rfl,bu (by decide +kernel) ?_⟩
   refine⟨_,rfl,rfl,_,rfl,bu (by decide +kernel) ?_⟩
   refine⟨_,rfl,rfl,_,rfl,bu (by decide +kernel) ?_⟩
   refine⟨_,rfl,rfl,_,rfl,bu (by decide +kernel) ?_⟩
   refine⟨_,rfl,rfl,_,rfl,bu (by decide +kernel) ?_⟩
   refine⟨_,rfl,.inl ⟨rfl,_,aO.of dU.bk⟩,_,rfl,_,rfl,cZ,fun t aZ=>?_⟩
   have gR:=dU.same (bR aZ (.tup [.str "carry",.int p]))
   refine⟨cG,us,.ref t,rfl,rfl,gR.bk,c8,gb _ _ ?_⟩
   exact⟨c0,_,_,_,_,b,_,_,_,_,_,_,_,_,_,rfl,gR.ask (e:=.carry p) (v:=.ref t) (Rep.g9 aR (.cons .ofStr (.cons .ofInt .nil))) h7.c6⟩
  ·
   refine⟨_,rfl,rfl,_,rfl,bu (by decide +kernel) ?_⟩
   refine⟨_,rfl,rfl,_,rfl,bu (by decide +kernel) ?_⟩
   refine⟨_,rfl,rfl,_,rfl,bu (by decide +kernel) ?_⟩
   refine⟨_,rfl,rfl,_,rfl,bu (by decide +kernel) ?_⟩
   refine⟨_,rfl,rfl,_,rfl,dE rfl ?_⟩
   refine⟨_,rfl,.inl ⟨rfl,_,aO.of dU.bk⟩,cZ,fun t aZ=>?_⟩
   have gR:=dU.same (bR aZ (.tup [.str "cut"]))
   refine⟨cG,us,.ref t,rfl,rfl,gR.bk,c8,gb _ _ ?_⟩
   exact⟨c0,_,_,_,_,b,_,_,_,_,_,_,_,_,_,rfl,gR.ask (e:=.cut) (v:=.ref t) (Rep.g9 aR (.cons .ofStr .nil)) trivial⟩
 obtain⟨uh,GB,nX⟩:∃t,hC (f9 bX P w K mg base rP "_law_deeds" (cR kx) f cy A outer s H E).mK ((u9 ((iQ kx).getD 6 (.Pass ⟨0,0,0,0⟩))).drop 7) t∧∀(D:Ends) (c3 cG c0 b0:Addr) (us:List V) (aB:List b7) (os vs:List Int) (b:Int) (k:Nat) (fa gL jC iV:Option V) (r:Int) (ww:Str) (e8 dr p:Int) (H1:ao),
   g6 H H1 c3 cG c0 b0 us aB os vs b k→k<63→ww∈vq→bd p→0≤dr→dr<1000000000000000000000000000000→(∀bA af,sU H cl c c3 cG b0 (k+1) bA af→D.da bA af)→t D [some (.ref cl),some (.int c),some (.ref c3),some (.ref cG),some (.ref c0),some (.ref b0),some (.int b),fa,some (.int r),some (.str ww),some (.int e8),some (.int dr),some (.int p),gL,jC,iV] H1:=by
  refine⟨_,(bq (dc (i:=13) hs.a_ rfl (Or.inl rfl) (dg rD (fi (au (ah 6) (au (tv tk aV) (au (dg ht (dg ht (ah 6) aV) (ah 11)) (au (dg rC (tv tk aV) (ah 11)) aN))))) (ah 5))) (bq (dc (i:=14) hs.a_ rfl (Or.inr rfl) (bE fq (ah 13) (dR iM (cE aD) rfl hH o4 iH .nil de (au (ah 8) (au aV (au (d8 f6 rfl B.len PySem.boot_len (au (ah 13) aN)) aN)))) (fun _ _=>rfl))) (bq (cI (om (cM (Je (Nat.lt_of_succ_lt bf)) (ah 4) (fi aN) (cc _)) (cM kY (dg jw (ah 10) aV) aV (cc _))) (bg (dc (i:=14) hs.a_ rfl (Or.inr rfl) (bE fq (ah 4) (dR iM (cE aD) rfl hH o4 iH .nil de (au (ah 8) (au aV (au (d8 f6 rfl B.len PySem.boot_len (au (ah 4) aN)) aN)))) (fun _ _=>rfl)))) dk) Z5))),?_⟩
  intro D c3 cG c0 b0 us aB os vs b k fa gL jC iV r ww e8 dr p H1 dU aS hw h7 f0 f1 gb
  have lo:=dU.lo
  have lv:=dU.lv
  have acY:=dU.lI
  have OI:=dU.e4
  refine⟨_,rfl,_,rfl,_,rfl,_,_,rfl,rfl,_,rfl,_,_,rfl,rfl,_,rfl,_,rfl,_,_,rfl,rfl,cZ,fun t aZ=>?_⟩
  have s1:=bR aZ (.lst [.int b,.int (-1),.int (b+1+dr),.int (-2 - dr)])
  have gR:=dU.same s1
  refine⟨_,rfl,t,b0,_,_,rfl,rfl,aR,gR.aX,le_of_lt (oo (by rw[length_map];show 4+vs.length≤2000;omega)),fun u gW=>?_⟩
  have du:[V.int b,.int (-1),.int (b+1+dr),.int (-2 - dr)]++vs.map V.int=(b :: -1::(b+1+dr)::(-2 - dr)::vs).map V.int:=rfl
  rw[du]
  have s2:=bR gW (.lst ((b :: -1::(b+1+dr)::(-2 - dr)::vs).map V.int))
  have ic:=gR.same s2
  have jT:(upd (upd H1 t (.lst [.int b,.int (-1),.int (b+1+dr),.int (-2 - dr)])) u (.lst ((b :: -1::(b+1+dr)::(-2 - dr)::vs).map V.int))) u=some (.lst ((b :: -1::(b+1+dr)::(-2 - dr)::vs).map V.int)):=aR
  generalize upd (upd H1 t (.lst [.int b,.int (-1),.int (b+1+dr),.int (-2 - dr)])) u (.lst ((b :: -1::(b+1+dr)::(-2 - dr)::vs).map V.int))=ay at ic jT ⊢
  have tM:∀o∈(b :: -1::(b+1+dr)::(-2 - dr)::vs),bd o:=fun o aC=>by
   simp only[mem_cons]at aC
   rcases aC with z | z | z | z | z
   ·rw[z];exact⟨by omega,by omega⟩
   ·rw[z];exact⟨by omega,by omega⟩
   ·rw[z];exact⟨by omega,by omega⟩
   ·rw[z];exact⟨by omega,by omega⟩
   ·exact dU.nV o z
  have Zl:0<(b :: -1::(b+1+dr)::(-2 - dr)::vs).length:=Nat.succ_pos _
  generalize (b :: -1::(b+1+dr)::(-2 - dr)::vs)=ss at jT tM Zl ⊢
  refine⟨_,rfl,_,rfl,_,rfl,u,_,rfl,.inl (aO.of jT),_,_,_,rfl,by decide,?_,fun z mV dm=>?_⟩
  ·rw[length_map];omega
  obtain⟨dd,cS,c2⟩:=kX (ns:=ss) (k:=z) mV (by rw[length_map]at dm;exact dm)
  have nP:bd dd:=tM dd (mem_of_getElem? cS)
  refine⟨u,_,_,_,rfl,rfl,aO.of jT,c2,?_⟩
  refine⟨_,rfl,cZ,fun e he=>?_⟩
  have m_:=ic.same (bR he (.lst []))
  refine⟨c0,e,_,rfl,rfl,m_.aC,aR,_,rfl,gq (fun ce=>?_) (fun ce=>?_)⟩
  ·refine⟨_,rfl,_,_,rfl,rfl,(by decide:(0:Int)<11),rfl,_,rfl,gq (fun _=>?_) (fun _=>?_)⟩
   ·refine⟨_,rfl,_,rfl,_,rfl,c0,_,rfl,.inl (aO.of m_.aC),_,_,_,rfl,by decide,?_,fun z mV dm=>?_⟩
    ·rw[length_map]
     cases os with
     | nil=>cases ce
     | cons o r=>rw[length_cons];omega
    obtain⟨e2,e6,eB⟩:=kX (ns:=os) (k:=z) mV (by rw[length_map]at dm;exact dm)
    refine⟨c0,_,_,_,rfl,rfl,aO.of m_.aC,eB,?_⟩
    exact Eg D c3 cG c0 b0 us aB os vs b k _ _ _ _ r ww dr p e2 _ m_ aS hw h7 (dU.sr e2 (mem_of_getElem? e6)) gb
   ·exact Eg D c3 cG c0 b0 us aB os vs b k _ _ _ _ r ww dr p dd _ m_ aS hw h7 nP gb
  ·refine cV ?_
   exact Eg D c3 cG c0 b0 us aB os vs b k _ _ _ _ r ww dr p dd _ m_ aS hw h7 nP gb
 obtain⟨t3,cz,fE⟩:∃t,hC (f9 bX P w K mg base rP "_law_deeds" (cR kx) f cy A outer s H E).mK ((u9 ((iQ kx).getD 6 (.Pass ⟨0,0,0,0⟩))).drop 3) t∧∀(D:Ends) (c3 cG c0 b0:Addr) (us:List V) (aB:List b7) (os vs:List Int) (b:Int) (k:Nat) (hc hB gM gL jC iV:Option V) (r:Int) (ww:Str) (H1:ao),
   g6 H H1 c3 cG c0 b0 us aB os vs b k→k<cs.length→ww∈vq→(∀bA af,sU H cl c c3 cG b0 (k+1) bA af→D.da bA af)→t D [some (.ref cl),some (.int c),some (.ref c3),some (.ref cG),some (.ref c0),some (.ref b0),some (.int b),some (.int ((k:Nat):Int)),some (.int r),some (.str ww),hc,hB,gM,gL,jC,iV] H1:=by
  refine⟨_,(bq (dc (i:=10) hs.a_ rfl (Or.inl rfl) (dR iM (cE aD) rfl hH o4 iH .nil de (au (ah 8) (au aV (au aV aN))))) (bq (dc (i:=11) hs.a_ rfl (Or.inl rfl) (dg jw (bE fq (ah 0) (ah 7) (fun _ _=>rfl)) (dg yV aV aV))) (bq (dc (i:=12) hs.a_ rfl (Or.inl rfl) (dR iM (cE aD) rfl hH o4 iH .nil de (au (ah 8) (au aV (au (ah 1) aN))))) (bq (cI (cM dJ (dg jw (ah 10) aV) aV (cc _)) (bg (dc (i:=12) hs.a_ rfl (Or.inl rfl) (bE fq (fi (au (tv tk aV) (au (ah 1) (au (dg rC (tv tk aV) (ah 11)) (au (dg ht (ah 1) (ah 11)) aN))))) (dg u6 (ah 10) aV) (fun _ _=>rfl)))) dk) GB)))),?_⟩
  intro D c3 cG c0 b0 us aB os vs b k hc hB gM gL jC iV r ww H1 dU aS hw gb
  obtain⟨z,abE,A1⟩:=kX (ns:=cs) (k:=((k:Nat):Int)) (by omega) (by omega)
  have zQ:=dU.c6 _ _ EX
  refine⟨_,rfl,_,_,_,rfl,by decide,by decide,fun e8 o0 b8=>?_⟩
  refine⟨_,rfl,_,rfl,cl,_,_,_,rfl,rfl,aO.of zQ,A1,_,_,rfl,rfl,⟨by decide,by decide,by decide⟩,_,_,rfl,rfl,(show (0:Int)<10 ^ (30:Int).toNat by decide),?_⟩
  have f0:0≤z % (10:Int) ^ (30:Int).toNat:=Int.emod_nonneg _ (by rw[PM];decide)
  have f1:z % (10:Int) ^ (30:Int).toNat<1000000000000000000000000000000:=by
   have:=Int.emod_lt_of_pos z (show (0:Int)<10 ^ (30:Int).toNat by decide)
   rw[PM]at this ⊢
   exact this
  dsimp only
  generalize z % (10:Int) ^ (30:Int).toNat=dr at f0 f1 ⊢
  refine⟨_,rfl,_,rfl,_,_,_,rfl,by decide,by omega,fun ct o1 eV=>?_⟩
  refine⟨_,rfl,_,_,rfl,rfl,(by decide:(0:Int)<11),rfl,_,rfl,gq (fun _=>?_) (fun _=>?_)⟩
  ·refine⟨_,rfl,_,rfl,_,rfl,_,rfl,_,_,rfl,rfl,_,rfl,_,rfl,_,_,rfl,rfl,cZ,fun t aZ=>?_⟩
   have gR:=dU.same (bR aZ (.lst [.int (-1),.int c,.int (-1 - dr),.int (c+dr)]))
   refine⟨_,rfl,_,_,rfl,rfl,⟨by decide,by decide⟩,?_⟩
   obtain⟨y,cS,c2⟩:=kX (ns:=[-1,c, -1 - dr,c+dr]) (k:=e8 / 11) (by omega) (by show _<(4:Int);omega)
   refine⟨t,_,_,_,rfl,rfl,aO.of aR,c2,?_⟩
   refine nX D c3 cG c0 b0 us aB os vs b k _ _ _ _ r ww e8 dr y _ gR (by omega) hw ?_ f0 f1 gb
   have Qn:=mem_of_getElem? cS
   simp only[mem_cons,not_mem_nil,or_false]at Qn
   rcases Qn with z | z | z | z
   all_goals (rw[z];exact⟨by omega,by omega⟩)
  ·exact nX D c3 cG c0 b0 us aB os vs b k _ _ _ _ r ww e8 dr ct _ dU (by omega) hw ⟨by omega,by omega⟩ f0 f1 gb
 obtain⟨eE,az,aW⟩:∃t,hC (f9 bX P w K mg base rP "_law_deeds" (cR kx) f cy A outer s H E).mK ((iQ kx).drop 2) t∧∀(c3:Addr) (H1:ao),bO H H1→H1 c3=some (.lst (zm.map V.str)) →
   t { da:=fun _ ay=>Q .cP ay,l3:=Q } [some (.ref cl),some (.int c),some (.ref c3),none,none,none,none,none,none,none,none,none,none,none,none,none] H1:=by
  refine⟨_,(bq (dc (i:=3) hs.a_ rfl (Or.inl rfl) (fi aN)) (bq (dc (i:=4) hs.a_ rfl (Or.inl rfl) (fi aN)) (bq (dc (i:=5) hs.a_ rfl (Or.inl rfl) (fi aN)) (bq (dc (i:=6) hs.a_ rfl (Or.inl rfl) aV) (bq (hP PassesOwn.never rfl (s_ rfl B.j6 (au (d8 f6 rfl B.len PySem.boot_len (au (ah 0) aN)) aN)) (ff (i:=7) hs.a_ rfl (Or.inl rfl)) (bq (dc (i:=8) hs.a_ rfl (Or.inl rfl) (dg ht (bE fq (ah 0) (ah 7) (fun _ _=>rfl)) (dg yW aV (ah 7)))) (bq (dc (i:=9) hs.a_ rfl (Or.inl rfl) (bE fq (ah 2) (dg jw (dg ht (bE fq (ah 0) (ah 7) (fun _ _=>rfl)) (dg yW aV (ah 7))) aV) (fun _ _=>rfl))) (bq (cI (om (cM (Jf (Nat.lt_of_succ_lt bf)) (ah 4) (fi aN) (cc _)) (cM qw (dg jw (ah 7) aV) aV (cc _))) (bg (dc (i:=9) hs.a_ rfl (Or.inl rfl) bB)) dk) cz)))) (bg (c_ (ah 3)))))))),?_⟩
  intro c3 H1 s1 kl
  refine⟨cZ,fun cG E1=>?_⟩
  have s2:=bR E1 (.lst [])
  have na:c3≠cG:=cB kl E1
  have aU:(upd H1 cG (.lst [])) cG=some (.lst []):=aR
  generalize upd H1 cG (.lst [])=ay at s2 aU ⊢
  refine⟨cZ,fun c0 An=>?_⟩
  have s3:=bR An (.lst [])
  have no:c3≠c0:=cB (s2 _ _ kl) An
  have YU:cG≠c0:=cB aU An
  have iF:(upd ay c0 (.lst [])) c0=some (.lst []):=aR
  generalize upd ay c0 (.lst [])=aT at s3 iF ⊢
  refine⟨cZ,fun b0 wu=>?_⟩
  have s4:=bR wu (.lst [])
  have gH:c3≠b0:=cB (s3 _ _ (s2 _ _ kl)) wu
  have YT:cG≠b0:=cB (s3 _ _ aU) wu
  have YK:c0≠b0:=cB iF wu
  have ev:(upd aT b0 (.lst [])) b0=some (.lst []):=aR
  generalize upd aT b0 (.lst [])=cO at s4 ev ⊢
  have hq:=s1.trans (s2.trans (s3.trans s4))
  have ab5:g6 H cO c3 cG c0 b0 [] [] [] [] 0 0:=⟨hq,(s2.trans (s3.trans s4)) _ _ kl,(s3.trans s4) _ _ aU,.nil,rfl,(fun e he=>by cases he),s4 _ _ iF,le_refl _,(fun o aC=>by cases aC),ev,le_refl _,(fun o aC=>by cases aC),Int.le_refl _,Int.le_refl _,s1.free E1,(s1.trans s2).free An,(s1.trans (s2.trans s3)).free wu,na,no,gH,YU,YT,YK⟩
  have lcs:(cs.map V.int).length=cs.length:=length_map _
  refine⟨_,rfl,cl,_,rfl,.inl (aO.of (hq _ _ EX)),_,rfl,by omega,by omega,uU (sU H cl c c3 cG b0) ⟨c0,[],[],[],[],0,none,none,none,none,none,none,none,none,none,rfl,ab5⟩ ?_ ?_⟩
  ·rintro i σ dC aL ⟨v5,us,aB,os,vs,b,fa,fS,gZ,hc,hB,gM,gL,jC,iV,rfl,dU⟩
   have jg:i<cs.length:=by omega
   have e0:(0:Int)+(i:Int)=((i:Nat):Int):=by omega
   rw[e0]
   obtain⟨z,abE,A1⟩:=kX (ns:=cs) (k:=((i:Nat):Int)) (by omega) (by omega)
   have zQ:=dU.c6 _ _ EX
   refine⟨_,rfl,_,rfl,cl,_,_,_,rfl,rfl,aO.of zQ,A1,_,rfl,_,_,rfl,rfl,.inl ⟨by decide,by decide⟩,_,_,rfl,rfl,?_⟩
   refine⟨_,rfl,_,rfl,_,rfl,cl,_,_,_,rfl,rfl,aO.of zQ,A1,_,rfl,_,_,rfl,rfl,.inl ⟨by decide,by decide⟩,_,_,rfl,rfl,_,_,rfl,rfl,(by decide:(0:Int)<16),?_⟩
   obtain⟨v,v1,v2⟩:=C_ (xs:=zm.map V.str) (k:=(z+5 * ((i:Nat):Int)) % 16) (by omega) (by show _<(16:Int);omega)
   obtain⟨ww,Oo,rfl⟩:=mem_map.mp (mem_of_getElem? v2)
   refine⟨c3,_,_,_,rfl,rfl,aO.of dU.hw,v1,?_⟩
   refine⟨_,rfl,cZ,fun e he=>?_⟩
   have gR:=dU.same (bR he (.lst []))
   refine⟨v5,e,_,rfl,rfl,gR.aC,aR,_,rfl,gq (fun _=>?_) (fun _=>?_)⟩
   ·refine⟨_,rfl,_,_,rfl,rfl,(by decide:(0:Int)<4),_,_,rfl,rfl,_,rfl,gq (fun _=>?_) (fun _=>?_)⟩
    ·exact fE _ c3 cG v5 b0 us aB os vs b i _ _ _ _ _ _ _ "begin" _ gR jg (by decide +kernel) fun bA af h=>h
    ·exact fE _ c3 cG v5 b0 us aB os vs b i _ _ _ _ _ _ _ ww _ gR jg (I0 ww Oo) fun bA af h=>h
   ·refine cV ?_
    exact fE _ c3 cG v5 b0 us aB os vs b i _ _ _ _ _ _ _ ww _ gR jg (I0 ww Oo) fun bA af h=>h
  ·rintro σ dC ⟨v5,us,aB,os,vs,b,fa,fS,gZ,hc,hB,gM,gL,jC,iV,rfl,dU⟩
   exact⟨_,rfl,q cG us aB dC dU.c6 dU.bk dU.jM (by rw[dU.lB];omega) dU.pZ⟩
 refine⟨_,bq (dc (i:=2) hs.a_ rfl (Or.inl rfl) (fi (au bB (au bB (au bB (au bB (au bB (au bB (au bB (au bB aN)))))))))) (bq (dc (i:=2) hs.a_ rfl (Or.inl rfl) (dg rD (ah 2) (fi (au bB (au bB (au bB (au bB (au bB (au bB (au bB (au bB aN))))))))))) az),?_⟩
 refine⟨cZ,fun e6 Zi=>⟨_,rfl,cZ,fun eB qO=>?_⟩⟩
 have s1:=bR Zi (.lst ([V.str "begin",V.str "put",V.str "put",V.str "put",V.str "end",V.str "put",V.str "carry",V.str "put"]))
 have s2:=bR qO (.lst ([V.str "drop",V.str "look",V.str "put",V.str "cut",V.str "end",V.str "put",V.str "begin",V.str "carry"]))
 exact⟨e6,eB,_,_,rfl,rfl,s2 _ _ aR,aR,le_of_ble_eq_true rfl,fun c3 Zg=>aW c3 _ (s1.trans (s2.trans (bR Zg _))) aR⟩
def Hy:dj:=fun vs H Q _=>∃(ct dl:Addr) (ps:List Int) (room:Int) (us:List V) (aB:List b7),vs=[.ref ct,.int room,.ref dl]∧H ct=some (.lst (ps.map V.int))∧1≤ps.length∧ps.length≤100∧H dl=some (.lst us)∧bl H (aB.map b7.D) us∧aB.length≤110∧(∀e∈aB,qJ e) ∧
 ∀(r:Addr) (bad:List Addr) (xs:List V) (af:ao),bO H af→H r=none→af r=some (.lst xs)→hu af bad ((bZ ps room).rows aB) xs→(∀v∈xs,∀b,v=V.ref b→H b=none∧b≠r)→Q (.ref r) af
theorem _root_.L2.cQ.some {a5 aI:Addr}{H:ao}{a:ee}{lo:Addr}{pl:List (Int × Addr)}{x:aq}{aQ:List (Key × V)}(A:cQ a5 aI H a lo pl x aQ) {b:Addr}(aa:b∈a.gr lo pl):H b≠none:=by
 obtain⟨dx,b8⟩:=A.bY
 obtain⟨dy,cg⟩:=A.co
 obtain⟨xs,aH,_⟩:=A.aE
 intro aP
 rcases mem_cons.mp aa with z | aa
 ·rw[z,aH]at aP;cases aP
 ·rcases mem_cons.mp aa with z | aa
  ·rw[z,cg]at aP;cases aP
  ·rcases mem_cons.mp aa with z | aa
   ·rw[z,A.kt]at aP;cases aP
   ·have dT:b≠a.h:=fun z=>by rw[z,b8]at aP;cases aP
    have dP:b≠a.c:=fun z=>by rw[z,cg]at aP;cases aP
    exact A.dF.there (by rw[fZ dT dP];exact aP) aa
theorem IZ:∀(l:List b7) (x:aq),(x.run l).begun≤x.begun+l.length
 | [],_=>le_refl _
 | e::r,x=>by
  have ak:=IZ r (x.a4 e).1
  have az:=Ry x e
  show ((x.a4 e).1.run r).begun≤x.begun+(r.length+1)
  omega
theorem vA:dI ["pages","room","deeds","house","strokes","deed","before"] zz (cR BA):=d2
theorem RM {a5 aI xF:Addr}{xH:FuncData}{sD:Addr}{xO:FuncData}(F:bW K "strokes_of" "strokes_of" BA f fd) (B:eY mg) (T:iN K mg aI) (abO:uF K aI xF) (x4:br P w K mg base bX 3 xF xH vD (Ce a5 aI)) (GO:Binds K xH vD [])
  (x5:br P w K mg base bX 8 sD xO nF (BZ a5 aI)) (xS:Binds K xO nF []) (xy:keepIn K (.ref sD)=true) (ei:mg "answer"=some (.ref sD)):br P w K mg base bX 9 f fd zz Hy:=by
 refine F.ok vA (fun vs H Q E h=>?_) (fun cy A outer s H vs Q E aD h=>?_)
 ·obtain⟨ct,dl,ps,room,us,aB,rfl,_⟩:=h
  rfl
 obtain⟨ct,dl,ps,room,us,aB,rfl,aF,dm,dW,wG,vX,acp,h1,q⟩:=h
 have tT:us.length=aB.length:=by rw[bl.length vX,length_map]
 refine⟨_,(bq (dc (i:=3) vA.a_ rfl (Or.inl rfl) (JW abO x4 (cE aD) rfl T.Es GO .nil de (au (ah 0) (au (ah 1) aN)))) (bq (dc (i:=4) vA.a_ rfl (Or.inl rfl) (fi aN)) (bq (hP PassesOwn.never rfl (ku (ah 2)) (ff (i:=5) vA.a_ rfl (Or.inl rfl)) (bq (dc (i:=6) vA.a_ rfl (Or.inl rfl) (d8 f6 rfl B.len PySem.boot_len (au (fj (ah 3) rfl) aN))) (bq (dH (dR x5 (cE aD) rfl ei xy xS .nil de (au (ah 3) (au (ah 5) aN)))) (bg (dH (iS plainAttrs_list PySem.F.slot_list_append PySem.F.type_list_append ie (ah 4) (au (nf pa (fj (ah 3) rfl) (ni (ah 6)) nj) aN))))))) (bg (c_ (ah 4)))))),?_⟩
 refine⟨_,rfl,_,rfl,?_⟩
 intro h dx ki YM acA
 have A7:bO H (upd (upd H dx (.own h)) h (.ins aI dx [])):=fun b o e=>by
  rw[aA (cB e ki),aA (cB e YM)]
  exact e
 refine⟨h,dx,ct,ps,room,rfl,aR,A7 _ _ aF,fun a lo H1 bk b5 vL bD=>⟨rfl,?_⟩⟩
 subst bk
 have n9:bO H H1:=fun b o e=>bD b o (A7 b o e) (cB e ki)
 have X5:∀b,b∈a.gr lo []→H b=none:=fun b aa=>by
  rcases vL b aa with z | z
  ·rw[z];exact ki
  ·exact A7.free z
 refine⟨cZ,fun acc ec=>?_⟩
 have s2:=bR ec (.lst [])
 have aM:(upd H1 acc (.lst [])) acc=some (.lst []):=aR
 generalize upd H1 acc (.lst [])=ay at s2 aM ⊢
 have Ml:H acc=none:=n9.free ec
 have WQ:∀b,b∈a.gr lo []→b≠acc:=fun b aa z=>b5.some aa (by rw[z];exact ec)
 have bC:=b5.same s2
 have ia:=n9.trans s2
 clear b5 n9 bD vL A7 s2
 refine⟨_,rfl,dl,rfl,⟨us,aO.of (ia _ _ wG)⟩,ng (K:=K) (a:=dl) (xs:=us) (fun i σ aT=>∃(lo:Addr) (pl:List (Int × Addr)) (aQ:List (Key × V)) (xs:List V) (hg iC:Option V),σ=[some (.ref ct),some (.int room),some (.ref dl),some (.ref a.h),some (.ref acc),hg,iC]∧cQ a5 aI aT a lo pl ((bZ ps room).run (aB.take i)) aQ∧aQ.length≤i∧bO H aT∧(∀b,b∈a.gr lo pl→H b=none∧b≠acc)∧aT acc=some (.lst xs)∧hu aT (acc::a.gr lo pl) ((bZ ps room).rows (aB.take i)) xs∧(∀v∈xs,∀b,v=V.ref b→H b=none∧b≠acc)∧i≤aB.length)
  ⟨lo,[],[],[],none,none,rfl,bC,le_refl _,ia,fun b aa=>⟨X5 b aa,WQ b aa⟩,aM,.nil,(fun v aX=>by cases aX),zero_le _⟩ (fun i σ aT _ ⟨_,_,_,_,_,_,_,_,_,fm,_⟩=>aO.of (fm _ _ wG)) ?_ ?_⟩
 ·rintro i v σ aT aX ⟨pN,Eh,My,xs,hg,iC,rfl,cj,t3,fm,t4,bT,xX,hN,aL⟩
  have jg:i<us.length:=(List.getElem?_eq_some_iff.mp aX).1
  obtain⟨e,he,re⟩:=o_ vX aX
  have ZU:=mem_of_getElem? he
  have aZ:aB.take (i+1)=aB.take i++[e]:=by rw[take_add_one,he];rfl
  have lt:(aB.take i).length=i:=by rw[length_take];omega
  have jr:=(u3 (room:=room) dm dW).run (aB.take i) (by omega)
  rw[lt,zero_add]at jr
  have GN:((bZ ps room).run (aB.take i)).begun≤900:=by
   have ak:=IZ (aB.take i) (bZ ps room)
   have az:(bZ ps room).begun=0:=rfl
   omega
  have Nr:xs.length=i:=by rw[←xX.1,ye,lt]
  obtain⟨lg,b8⟩:=cj.bY
  obtain⟨qH,f1,f2⟩:=cj.fQ
  have Y3:qH.length=((bZ ps room).run (aB.take i)).c7.length:=by rw[bl.length f2,length_map]
  refine⟨_,rfl,a.h,aI,lg,_,_,rfl,b8,T.cl,T.yI,BB .., a.st,_,rfl,.inl (aO.of f1),?_⟩
  refine⟨_,rfl,_,rfl,a,pN,Eh,_,My,i,v,e,rfl,⟨cj,jr,by omega,by omega,GN⟩,Rep.mono fm _ _ re,h1 e ZU,fun mP lT Ym cO dV l7 gj=>?_⟩
  have DV:acc∉a.gr pN Eh:=fun z=>(t4 acc z).2 rfl
  have b1:=gj.ew acc _ DV bT
  have hq:bO H cO:=fun b o e=>gj.ew b o (fun z=>by rw[(t4 b z).1]at e;cases e) (fm b o e)
  have oL:∀b,b∈a.gr mP lT→H b=none∧b≠acc:=fun b aa=>by
   rcases gj.new b aa with z | z
   ·exact t4 b z
   ·exact⟨fm.free z,fun y=>by rw[y,bT]at z;cases z⟩
  have Y9:eh aT cO:=fun b ys e=>gj.ew b _ (cj.tD e) e
  have sO:hu cO (acc::a.gr mP lT) ((bZ ps room).rows (aB.take i)) xs:=xX.move (fun b o aa e=>gj.ew b o (fun z=>aa (mem_cons_of_mem _ z)) e) Y9 fun b aa=>by
   rcases mem_cons.mp aa with z | z
   ·exact .inl (by rw[z];exact mem_cons_self)
   ·rcases gj.new b z with y | y
    ·exact .inl (mem_cons_of_mem _ y)
    ·exact .inr y
  obtain⟨aah,hF⟩:=dV.bY
  obtain⟨tO,g1,g2⟩:=dV.fQ
  refine⟨_,rfl,.inl ⟨rfl,_,aO.of b1⟩,_,rfl,a.h,aI,aah,_,_,rfl,hF,T.cl,T.yI,BB .., _,rfl,_,rfl,a.st,tO,rfl,aO.of g1,fun u gW=>?_⟩
  rw[ti]at *
  have s5:=bR gW (.lst (tO.drop qH.length))
  have et:(upd cO u (.lst (tO.drop qH.length))) u=some (.lst (tO.drop qH.length)):=aR
  have l6:u∉a.gr mP lT:=fun z=>dV.some z gW
  generalize upd cO u (.lst (tO.drop qH.length))=dC at s5 et ⊢
  have MK:u≠acc:=(cB b1 gW).symm
  have gc:=dV.same s5
  have abK:=sO.same s5
  have p0:bl dC ((((bZ ps room).run (aB.take i)).row e).map bp.D) (tO.drop qH.length):=by
   have ak:=Ir (n:=qH.length) (bl.mono s5 _ _ g2)
   rw[←List.map_drop,Bq]at ak
   have e0:(((bZ ps room).run (aB.take i)).c7++((bZ ps room).run (aB.take i)).row e).drop qH.length=((bZ ps room).run (aB.take i)).row e:=by rw[Y3,List.drop_left]
   rw[e0]at ak
   exact ak
  have GS:=abK.snoc (b:=u) (fun z=>by
   rcases mem_cons.mp z with y | y
   ·exact MK y
   ·exact l6 y) et p0
  have En:acc∉a.gr mP lT:=fun z=>(oL acc z).2 rfl
  have mc:=s5 _ _ b1
  have Ag:eh dC (upd dC acc (.lst (xs++[.ref u]))):=fun b ys e=>by
   rw[aA (dv e mc (fun z=>nomatch z))]
   exact e
  refine⟨acc,xs,.ref u,rfl,rfl,mc,oo (by omega),mP,lT,Ym,xs++[.ref u],_,_,rfl,?_,by omega,(hq.trans s5).ig Ml,oL,aR,?_,fun w hw b ea=>?_,by omega⟩
  ·rw[aZ,B2]
   exact gc.yw En mc
  ·rw[aZ,BQ]
   refine GS.move (fun b o aa e=>?_) Ag fun b aa=>.inl aa
   rw[aA (fun z=>aa (by rw[z];exact mem_cons_self))]
   exact e
  ·rcases mem_append.mp hw with z | z
   ·exact hN w z b ea
   ·rw[mem_singleton.mp z]at ea
    cases ea
    exact⟨hq.free gW,MK⟩
 ·rintro σ aT ⟨pN,Eh,My,xs,hg,iC,rfl,cj,t3,fm,t4,bT,xX,hN,aL⟩
  rw[tT,take_length]at xX
  exact⟨_,rfl,q acc _ xs aT fm Ml bT xX hN⟩
def Kp:dj:=fun vs H Q _=>∃(p l:Addr) (ps:List Int) (xs:List V) (log:List bN),vs=[.ref p,.ref l]∧H p=some (.lst (ps.map V.int))∧ps.length≤1000∧H l=some (.lst xs)∧gT H log xs∧log.length≤1000∧(∀ln∈log,ln.ok ps.length) ∧
 ∀(r:Addr) (bM:List Int) (af:ao),bO H af→H r=none→af r=some (.lst (bM.map V.int))→bM.length=ps.length→(∀(q:Nat) (v:Int),ps[q]?=some v→bM[q]?=some (vp log q v))→Q (.ref r) af
theorem ve:dI ["pages","log","numbers","line","ended"] qA (cR Dd):=d2
theorem U1 (F:bW K "wanted" "wanted" Dd f fd) (B:eY mg) (od:zU mg):br P w K mg base bX 1 f fd qA Kp:=by
 refine F.ok ve (fun vs H Q E h=>?_) (fun cy A outer s H vs Q E aD h=>?_)
 ·obtain⟨p,l,ps,xs,log,rfl,_⟩:=h
  rfl
 obtain⟨p,l,ps,xs,log,rfl,aF,sj,aE,eS,nU,bG,q⟩:=h
 have bf:=g_ aD
 have iD:=eS.1
 refine⟨_,(bq (dc (i:=2) ve.a_ rfl (Or.inl rfl) (i9 nd rfl B.lst iT (au (ah 0) aN))) (bq (hP PassesOwn.never rfl (ku (ah 1)) (ff (i:=3) ve.a_ rfl (Or.inl rfl)) (bg (cI (cM dJ (bE b6 (ah 3) aV (fun _ _=>rfl)) bB (cc _)) (bg (oq (bE b6 (ah 3) aV (fun _ _=>rfl)) (rB (ah 2) (bE b6 (ah 3) aV (fun _ _=>rfl)) set_list))) dk))) (bq (dc (i:=4) ve.a_ rfl (Or.inl rfl) (i9 (H9 aD.hd) rfl B.PR Ls (au (TS [] ["line"] (k4.plain (by decide +kernel) rfl rfl) rfl (ku (ah 1)) (fun C s1 H1 bJ=>(cM dJ (bE (J3 (K:=K) rfl) (ah 0) aV (fun _ _=>rfl)) bB (cc _))) (fun C s1 H1 bJ=>(gp (au (bE (J3 (K:=K) rfl) (ah 0) aV (fun _ _=>rfl)) (au ir aN))))) aN))) (bq (hP PassesOwn.never rfl (KH rfl od.rev (ah 1)) (ff (i:=3) ve.a_ rfl (Or.inl rfl)) (bg (cI (om (cM dJ (bE b6 (ah 3) aV (fun _ _=>rfl)) bB (cc _)) (tp (BR bf (bE b6 (ah 3) aV (fun _ _=>rfl)) (ah 4)))) (bg (oq (bE b6 (ah 3) aV (fun _ _=>rfl)) (rB (ah 2) (bE b6 (ah 3) aV (fun _ _=>rfl)) set_list))) dk))) (bg (c_ (ah 2))))))),?_⟩
 refine⟨_,rfl,p,_,rfl,.inl (aO.of aF),fun r h0=>?_⟩
 have s1:=bR h0 (.lst (ps.map V.int))
 have aH:(upd H r (.lst (ps.map V.int))) r=some (.lst (ps.map V.int)):=aR
 generalize upd H r (.lst (ps.map V.int))=H1 at s1 aH ⊢
 refine⟨_,rfl,l,rfl,⟨xs,aO.of (s1 _ _ aE)⟩,ng (K:=K) (a:=l) (xs:=xs) (fun i σ ay=>∃(ns:List Int) (o:Option V),σ=[some (.ref p),some (.ref l),some (.ref r),o,none]∧bO H ay∧ay r=some (.lst (ns.map V.int))∧nR log i ps ns)
  ⟨ps,none,rfl,s1,aH,nR.start _ _⟩ (fun i σ ay _ ⟨_,_,_,s2,_⟩=>aO.of (s2 _ _ aE)) ?_ ?_⟩
 ·rintro i x σ ay aL ⟨ns,o,rfl,s2,eG,qg⟩
  obtain⟨ln,fO,gF⟩:=eS.get aL
  have j4:=gF.mono s2.e5
  have aS:=bG ln (mem_of_getElem? fO)
  cases ln with
  | fin d =>
   obtain⟨c,rfl,ai⟩:=j4
   refine⟨_,rfl,c,_,_,_,rfl,rfl,aG.of ai,rfl,rfl,_,rfl,bu tw ?_⟩
   exact⟨ns,_,rfl,s2,eG,qg.fin fO⟩
  | put d eg fl n =>
   obtain⟨c,rfl,ai⟩:=j4
   refine⟨_,rfl,c,_,_,_,rfl,rfl,aG.of ai,rfl,rfl,_,rfl,dE rfl ?_⟩
   have tX:eg<ns.length:=by rw[qg.1];exact aS
   refine⟨_,rfl,c,_,_,_,rfl,rfl,aG.of ai,rfl,_,rfl,_,rfl,c,_,_,_,rfl,rfl,aG.of ai,rfl,r,_,_,eg,rfl,rfl,eG,by rw[length_map];exact ry tX,?_⟩
   exact⟨ns.set eg n,_,rfl,s2.ig h0,by rw[aR,qj],qg.put fO⟩
 rintro σ ay ⟨ns,o,rfl,s2,eG,qg⟩
 rw[←iD]at qg
 refine⟨_,rfl,l,rfl,⟨xs,aO.of (s2 _ _ aE)⟩,fun acc ec=>So (K:=K) (w:=.bV true) (s2 _ _ aE) (eS.mono fun a x h=>h.mono s2.e5) ec nU (fun ln x aT k gF aS=>?_) (fun d x aT k gF aS=>?_) fun ys aT s3 mJ lW gx=>?_⟩
 ·cases ln with
  | fin d =>
   obtain⟨c,rfl,ai⟩:=gF
   refine⟨_,rfl,c,_,_,_,rfl,rfl,aG.of ai,rfl,rfl,_,rfl,?_⟩
   have e:decide (V.str "end"=V.str "end")=true:=decide_eq_true rfl
   rw[e]
   exact aS
  | put d p o n =>
   obtain⟨c,rfl,ai⟩:=gF
   refine⟨_,rfl,c,_,_,_,rfl,rfl,aG.of ai,rfl,rfl,_,rfl,?_⟩
   rw[decide_eq_false Lb]
   exact aS
 ·obtain⟨c,rfl,ai⟩:=gF
  exact⟨_,rfl,c,_,_,_,rfl,rfl,aG.of ai,rfl,cZ,aS⟩
 refine⟨acc,ys,(ends log).map fun n=>((Sum.inl n:Key),V.bV true),rfl,mJ,fun j x bh=>?_,by rw[length_map];exact lW.1,by omega,fun u gW=>?_⟩
 ·obtain⟨z,ak,az⟩:=lW.get bh
  exact⟨_,by rw[getElem?_map,ak];rfl,az⟩
 have nK:∀z:Int,(dw (putAll [] ((ends log).map fun n=>((Sum.inl n:Key),V.bV true))) (Sum.inl z:Key)).isSome=jZ log z:=fun z=>by
  have e:decide (z∈ends log)=jZ log z:=by
   cases h:jZ log z with
   | true=>exact decide_eq_true (Jt.mpr h)
   | false=>exact decide_eq_false fun w=>by rw[Jt.mp w]at h;cases h
  rw[putAll_has,BW,e]
  simp
 have s4:=s2.trans (s3.trans (bR gW (.bS (putAll [] ((ends log).map fun n=>((Sum.inl n:Key),V.bV true))))))
 have E7:=(bR gW (.bS (putAll [] ((ends log).map fun n=>((Sum.inl n:Key),V.bV true))))) _ _ (s3 _ _ eG)
 have jT:(upd aT u (.bS (putAll [] ((ends log).map fun n=>((Sum.inl n:Key),V.bV true))))) u=some (.bS (putAll [] ((ends log).map fun n=>((Sum.inl n:Key),V.bV true)))):=aR
 generalize (putAll [] ((ends log).map fun n=>((Sum.inl n:Key),V.bV true)))=us at nK s4 E7 jT ⊢
 have YE:u≠r:=(cB (s3 _ _ eG) gW).symm
 generalize upd aT u (.bS us)=cO at s4 E7 jT ⊢
 clear s3 mJ lW ec gW s1 aH s2 eG
 refine⟨_,rfl,l,xs,rfl,aO.of (s4 _ _ aE),Vm (K:=K) (a:=l) (xs:=xs) (fun i σ dC=>∃(ms:List Int) (o:Option V),σ=[some (.ref p),some (.ref l),some (.ref r),o,some (.ref u)]∧bO H dC∧dC r=some (.lst (ms.map V.int))∧dC u=some (.bS us)∧lr log i ns ms)
  ⟨ns,o,rfl,s4,E7,jT,lr.start _ _⟩ (fun i σ ay _ ⟨_,_,_,s2,_⟩=>aO.of (s2 _ _ aE)) ?_ ?_⟩
 ·rintro i x σ dC aL bh ⟨ms,hg,rfl,s5,wM,wK,sV⟩
  obtain⟨ln,fO,gF⟩:=eS.get bh
  have j4:=gF.mono s5.e5
  have aS:=bG ln (mem_of_getElem? fO)
  rw[←iD]at fO aL
  cases ln with
  | fin d =>
   obtain⟨c,rfl,ai⟩:=j4
   refine⟨_,rfl,c,_,_,_,rfl,rfl,aG.of ai,rfl,rfl,_,rfl,bu tw (cV ?_)⟩
   exact⟨ms,_,rfl,s5,wM,wK,sV.fin aL fO⟩
  | put d eg fl n =>
   obtain⟨c,rfl,ai⟩:=j4
   refine⟨_,rfl,c,_,_,_,rfl,rfl,aG.of ai,rfl,rfl,_,rfl,dE rfl ?_⟩
   refine⟨_,rfl,c,_,_,_,rfl,rfl,aG.of ai,rfl,_,rfl,u,_,rfl,e9.k (k:=Sum.inl d) wK,_,rfl,?_⟩
   have tX:eg<ms.length:=by rw[sV.1,qg.1];exact aS
   have hd:=nK d
   cases e:dw us (Sum.inl d:Key) with
   | some v =>
    rw[e]at hd
    refine cV ?_
    exact⟨ms,_,rfl,s5,wM,wK,sV.kept aL fO hd.symm⟩
   | none =>
    rw[e]at hd
    refine el ?_
    refine⟨_,rfl,c,_,_,_,rfl,rfl,aG.of ai,rfl,_,rfl,_,rfl,c,_,_,_,rfl,rfl,aG.of ai,rfl,r,_,_,eg,rfl,rfl,wM,by rw[length_map];exact ry tX,?_⟩
    exact⟨ms.set eg fl,_,rfl,s5.ig h0,by rw[aR,qj],by rw[aA YE];exact wK,sV.DX aL fO hd.symm⟩
 ·rintro σ dC ⟨ms,hg,rfl,s5,wM,wK,sV⟩
  rw[←iD]at sV
  obtain⟨e6,eB⟩:=UB qg sV
  exact⟨_,rfl,q r ms dC s5 h0 wM e6 eB⟩
def LA:dj:=fun vs H Q _=>∃(p l:Addr) (ps:List Int) (xs:List V) (log:List bN),vs=[.ref p,.ref l]∧H p=some (.lst (ps.map V.int))∧ps.length≤1000∧H l=some (.lst xs)∧gT H log xs∧log.length≤1000∧(∀ln∈log,ln.ok ps.length) ∧
 ∀(r:Addr) (bM:List Int) (zs:List V) (af:ao),bO H af→H r=none→af r=some (.lst zs)→bM.length=ps.length→(∀(q:Nat) (v:Int),ps[q]?=some v→bM[q]?=some (vp log q v))→bl af ((lR ps bM log.length).map bp.D) zs→Q (.ref r) af
theorem DF:dI ["pages","log","numbers","strokes"] qA (cR Ea):=d2
theorem WD {n1:Addr}{gJ:FuncData}(F:bW K "up" "up" Ea f fd) (B:eY mg) (GT:br P w K mg base bX 1 n1 gJ qA Kp) (xQ:Binds K gJ qA []) (xu:keepIn K (.ref n1)=true) (q8:mg "wanted"=some (.ref n1)):br P w K mg base bX 2 f fd qA LA:=by
 refine F.ok DF (fun vs H Q E h=>?_) (fun cy A outer s H vs Q E aD h=>?_)
 ·obtain⟨p,l,ps,xs,log,rfl,_⟩:=h
  rfl
 obtain⟨p,l,ps,xs,log,rfl,aF,sj,aE,eS,nU,bG,q⟩:=h
 have bf:=g_ aD
 have iD:=eS.1
 refine⟨_,(bq (dc (i:=2) DF.a_ rfl (Or.inl rfl) (dR GT (cE aD) rfl q8 xu xQ .nil de (au (ah 0) (au (ah 1) aN)))) (bq (TP (i:=3) [0] ["page","number","pages"] DF.a_ rfl rfl (vU.XF (x1:="page") (x2:="number") (fv:="pages") (j:=0) rfl (by decide +kernel) (by decide +kernel) rfl (by decide +kernel) rfl (by decide +kernel) rfl rfl rfl) rfl (Cu rfl B.ua (au (ah 2) aN))
    (fun C s1 H1 bJ=>(UX (K:=K) (n:=2) rfl rfl (ja (KI (i:=0) (by decide +kernel) rfl rfl) (ja (KI (i:=1) (by decide +kernel) rfl rfl) pd)))) (fun C s1 H1 bJ=>(cM kY (ah 1) (bE (Jo (K:=K) rfl) (ah 2) (ah 0) (fun _ _=>rfl)) (cc _))) (fun C s1 H1 bJ=>(gp (au bB (au (ah 0) (au (ah 1) aN)))))) (bq (cI (cM rE (d8 f6 rfl B.len PySem.boot_len (au (ah 1) aN)) aV (cc _)) (bg (dH (iS plainAttrs_list PySem.F.slot_list_append PySem.F.type_list_append ie (ah 3) (au (gp (au bB (au (d8 f6 rfl B.len PySem.boot_len (au (ah 1) aN)) aN))) aN)))) dk) (bg (c_ (ah 3)))))),?_⟩
 refine⟨_,rfl,_,rfl,p,l,ps,xs,log,rfl,aF,sj,aE,eS,nU,bG,fun l6 bM H1 s1 acU ua lk hw=>?_⟩
 refine⟨_,rfl,l6,rfl,⟨_,aO.of ua⟩,fun acc ec=>R4 (K:=K) (ps:=ps) ua ec (by omega) lk (fun i k v aT c ak az s3 ai=>?_) (fun i k aT c s3 ai=>?_) fun ys aT s3 mJ lW gx=>?_⟩
 ·exact⟨_,rfl,_,rfl,_,rfl,p,_,_,_,rfl,rfl,aO.of (s3 _ _ (s1 _ _ aF)),Vq az,rfl,_,rfl,ai⟩
 ·exact⟨_,rfl,_,rfl,cZ,ai⟩
 have fm:=s1.trans s3
 have E3:H acc=none:=s1.free ec
 refine⟨_,rfl,l,_,rfl,.inl (aO.of (fm _ _ aE)),_,_,rfl,rfl,_,rfl,gq (fun cN=>?_) (fun cN=>?_)⟩
 ·have dB:(0:Int)<((xs.length:Nat):Int):=of_decide_eq_true cN
  refine⟨_,rfl,.inl ⟨rfl,_,aO.of mJ⟩,_,rfl,l,_,rfl,.inl (aO.of (fm _ _ aE)),cZ,fun t aZ=>?_⟩
  refine⟨acc,ys,.ref t,rfl,rfl,by rw[aA (cB mJ aZ)];exact mJ,oo (by omega),?_⟩
  have s4:=bR aZ (.tup [.str "cut",.int ((xs.length:Nat):Int)])
  have YI:t≠acc:=(cB mJ aZ).symm
  have kt:eh (upd aT t (.tup [.str "cut",.int ((xs.length:Nat):Int)])) (upd (upd aT t (.tup [.str "cut",.int ((xs.length:Nat):Int)])) acc (.lst (ys++[.ref t]))):=fun b us aa=>by
   rw[aA (dv aa (s4 _ _ mJ) (fun z=>nomatch z))]
   exact aa
  refine⟨_,rfl,q acc bM (ys++[.ref t]) _ ((fm.trans s4).ig E3) E3 aR lk hw ?_⟩
  have e:lR ps bM log.length=iu ps bM bM.length++[.cut xs.length]:=by
   unfold lR nA
   rw[iD,if_neg (by omega)]
  rw[e]
  refine Ip (bl.keep kt _ _ (Hj _) (bl.mono s4 _ _ lW)) (JS ?_)
  rw[aA YI,aR]
 ·have dB:¬(0:Int)<((xs.length:Nat):Int):=fun z=>cN (decide_eq_true z)
  refine⟨_,rfl,q acc bM ys _ fm E3 mJ lk hw ?_⟩
  have e:lR ps bM log.length=iu ps bM bM.length:=by
   unfold lR nA
   rw[iD,if_pos (by omega),append_nil]
  rw[e]
  exact lW
def ox (c:Nat):bp→Prop
 | .line ln=>ln.ok c
 | .d9 p _=>p<c
 | .cut k=>0<k
def I8:dj:=fun vs H Q _=>∃(v:V) (ln:bN) (c:Nat),vs=[v,.int (c:Nat)]∧je H ln v∧ln.ok c∧∀af,bO H af→Q (.bV true) af
def HM:dj:=fun vs H Q _=>∃(v:V) (s:bp) (c:Nat),vs=[v,.int (c:Nat)]∧Rep H s.D v∧ox c s∧∀af,bO H af→Q (.bV true) af
def K1:dj:=fun vs H Q _=>∃(a:Addr) (zs:List V) (l:List bp) (c:Nat),vs=[.ref a,.int (c:Nat)]∧H a=some (.lst zs)∧bl H (l.map bp.D) zs∧(∀s∈l,ox c s)∧∀af,bO H af→Q (.bV true) af
theorem KD {X:bI}{a b c:Expr}{dh dG oW:TT}{pos:Pos}(bk:gQ X a dh) (aa:gQ X b dG) (ai:gQ X c oW):gQ X (.BoolOp .Or [a,b,c] pos) (zW dh (zW dG oW)):=(pw_or bk (pw_or aa (pw_or1 ai))).pt
theorem yH {us:List V}{ms:List Int}(e:us=ms.map V.int) {i:Nat}{x:V}(h:us[i]?=some x):∃m,x=.int m:=by
 subst e
 obtain⟨z,rfl,_⟩:=Bt h
 exact⟨z,rfl⟩
theorem I9:dI L1 mL (cR Cr):=d2
theorem SR {jQ:Addr}{lE:FuncData}(F:bW K "_law_is_line" "_law_is_line" Cr f fd) (B:eY mg) (oc:br P w K mg base bX 1 jQ lE k8 yL) (n8:Binds K lE k8 []) (sz:keepIn K (.ref jQ)=true) (nY:mg "_law_whole"=some (.ref jQ)) :
  br P w K mg base bX 2 f fd mL I8:=by
 refine F.ok I9 (fun vs H Q E h=>?_) (fun cy A outer s H vs Q E aD h=>?_)
 ·obtain⟨v,ln,c,rfl,_⟩:=h
  rfl
 obtain⟨v,ln,c,rfl,gF,bG,q⟩:=h
 refine⟨_,(bq (cI (KD (jb (g8 (d8 ju rfl B.jf jc (au (ah 0) (au (iP (v:=.ty "tuple") rfl B.tup vo rfl) aN))))) (cM qw (d8 f6 rfl B.len PySem.boot_len (au (ah 0) aN)) aV (cc _)) (jb (g8 (d8 ju rfl B.jf jc (au (bE b6 (ah 0) aV (fun _ _=>rfl)) (au (iP (v:=.ty "str") rfl B.str vQ rfl) aN)))))) (bg (c_ ir)) dk) (bq (hP PassesOwn.never rfl (KG (nf Kz (ah 0) (ni aV) nj)) (ff (i:=2) I9.a_ rfl (Or.inl rfl)) (bg (cI (jb (g8 (dR oc (cE aD) rfl nY sz n8 .nil de (au (ah 2) aN)))) (bg (c_ ir)) dk))) (bq (cI (cM dJ (bE b6 (ah 0) aV (fun _ _=>rfl)) bB (cc _)) (bg (c_ (iO dJ (d8 f6 rfl B.len PySem.boot_len (au (ah 0) aN)) aV (cc _)))) dk) (bg (c_ (mD (iO dJ (bE b6 (ah 0) aV (fun _ _=>rfl)) bB (cc _)) (mD (iO dJ (d8 f6 rfl B.len PySem.boot_len (au (ah 0) aN)) aV (cc _)) (mD (iO ze (bE b6 (ah 0) aV (fun _ _=>rfl)) aV (cc _)) (qu (iO qw (bE b6 (ah 0) aV (fun _ _=>rfl)) (ah 1) (cc _))))))))))),?_⟩
 cases ln with
 | fin d =>
  obtain⟨t,rfl,aZ⟩:=gF
  refine⟨_,rfl,_,_,_,_,rfl,.tup aZ,rk K,_,rfl,cV ?_⟩
  refine⟨_,rfl,t,_,rfl,.inr (aG.of aZ),_,_,rfl,rfl,_,rfl,bu (show ¬((2:Nat):Int)<2 by decide) ?_⟩
  refine⟨_,rfl,t,_,_,_,rfl,rfl,aG.of aZ,rfl,_,_,_,_,rfl,.str _,kW K,_,rfl,cV ?_⟩
  refine⟨_,rfl,_,rfl,t,_,rfl,aG.of aZ,(fun z=>nomatch (show (1:Nat)=0 from z.1)),fun u bf=>?_⟩
  have s1:=bR bf (.tup (eX [.str "end",.int d] (some 1) none))
  have aH:(upd H u (.tup (eX [.str "end",.int d] (some 1) none))) u=some (.tup (([d]:List Int).map V.int)):=by
   rw[aR]
   rfl
  generalize upd H u (.tup (eX [.str "end",.int d] (some 1) none))=H1 at s1 aH ⊢
  refine⟨u,rfl,⟨_,aG.of aH⟩,yQ (K:=K) (a:=u) (xs:=([d]:List Int).map V.int) (fun i σ ay=>∃o:Option V,σ=[some (.ref t),some (.int (c:Nat)),o]∧H1=ay)
   ⟨none,rfl,rfl⟩ (fun i σ ay _ ⟨_,_,e⟩=>by rw[←e];exact aG.of aH) ?_ ?_⟩
  ·rintro i x σ ay aL ⟨o,rfl,rfl⟩
   obtain⟨m,rfl⟩:=yH rfl aL
   refine⟨_,rfl,m,rfl,_,rfl,cV ?_⟩
   exact⟨_,rfl,rfl⟩
  rintro σ ay ⟨o,rfl,rfl⟩
  have aZ:=s1 _ _ aZ
  refine⟨_,rfl,t,_,_,_,rfl,rfl,aG.of aZ,rfl,rfl,_,rfl,dE rfl ?_⟩
  exact⟨_,rfl,t,_,rfl,.inr (aG.of aZ),rfl,q _ s1⟩
 | put d p o n =>
  obtain⟨t,rfl,aZ⟩:=gF
  refine⟨_,rfl,_,_,_,_,rfl,.tup aZ,rk K,_,rfl,cV ?_⟩
  refine⟨_,rfl,t,_,rfl,.inr (aG.of aZ),_,_,rfl,rfl,_,rfl,bu (show ¬((5:Nat):Int)<2 by decide) ?_⟩
  refine⟨_,rfl,t,_,_,_,rfl,rfl,aG.of aZ,rfl,_,_,_,_,rfl,.str _,kW K,_,rfl,cV ?_⟩
  refine⟨_,rfl,_,rfl,t,_,rfl,aG.of aZ,(fun z=>nomatch (show (1:Nat)=0 from z.1)),fun u bf=>?_⟩
  have s1:=bR bf (.tup (eX [.str "put",.int d,.int (p:Nat),.int o,.int n] (some 1) none))
  have aH:(upd H u (.tup (eX [.str "put",.int d,.int (p:Nat),.int o,.int n] (some 1) none))) u=some (.tup (([d,(p:Nat),o,n]:List Int).map V.int)):=by
   rw[aR]
   rfl
  generalize upd H u (.tup (eX [.str "put",.int d,.int (p:Nat),.int o,.int n] (some 1) none))=H1 at s1 aH ⊢
  refine⟨u,rfl,⟨_,aG.of aH⟩,yQ (K:=K) (a:=u) (xs:=([d,(p:Nat),o,n]:List Int).map V.int) (fun i σ ay=>∃o:Option V,σ=[some (.ref t),some (.int (c:Nat)),o]∧H1=ay)
   ⟨none,rfl,rfl⟩ (fun i σ ay _ ⟨_,_,e⟩=>by rw[←e];exact aG.of aH) ?_ ?_⟩
  ·rintro i x σ ay aL ⟨o,rfl,rfl⟩
   obtain⟨m,rfl⟩:=yH rfl aL
   refine⟨_,rfl,m,rfl,_,rfl,cV ?_⟩
   exact⟨_,rfl,rfl⟩
  rintro σ ay ⟨o,rfl,rfl⟩
  have aZ:=s1 _ _ aZ
  have aF:p<c:=bG
  refine⟨_,rfl,t,_,_,_,rfl,rfl,aG.of aZ,rfl,rfl,_,rfl,bu Lb ?_⟩
  refine⟨_,rfl,t,_,_,_,rfl,rfl,aG.of aZ,rfl,rfl,_,rfl,dE rfl ?_⟩
  refine⟨_,rfl,t,_,rfl,.inr (aG.of aZ),rfl,_,rfl,dE rfl ?_⟩
  refine⟨_,rfl,t,_,_,_,rfl,rfl,aG.of aZ,rfl,_,_,rfl,rfl,_,rfl,dE (by omega) ?_⟩
  refine⟨_,rfl,t,_,_,_,rfl,rfl,aG.of aZ,rfl,_,rfl,_,_,rfl,rfl,?_⟩
  show Q (V.bV (decide (((p:Nat):Int)<((c:Nat):Int)))) _
  rw[decide_eq_true (by omega:((p:Nat):Int)<((c:Nat):Int))]
  exact q _ s1
theorem HQ:dI L1 mL (cR BN):=d2
theorem RV {jQ uu:Addr}{lE dL:FuncData}(F:bW K "_law_is_stroke" "_law_is_stroke" BN f fd) (B:eY mg) (oc:br P w K mg base bX 1 jQ lE k8 yL) (n8:Binds K lE k8 []) (sz:keepIn K (.ref jQ)=true) (nY:mg "_law_whole"=some (.ref jQ))
  (x3:br P w K mg base bX 2 uu dL mL I8) (xR:Binds K dL mL []) (Gu:keepIn K (.ref uu)=true) (xo:mg "_law_is_line"=some (.ref uu)) :
  br P w K mg base bX 3 f fd mL HM:=by
 refine F.ok HQ (fun vs H Q E h=>?_) (fun cy A outer s H vs Q E aD h=>?_)
 ·obtain⟨v,s,c,rfl,_⟩:=h
  rfl
 obtain⟨v,c6,c,rfl,bL,bG,q⟩:=h
 refine⟨_,(bq (cI (KD (jb (g8 (d8 ju rfl B.jf jc (au (ah 0) (au (iP (v:=.ty "tuple") rfl B.tup vo rfl) aN))))) (cM qw (d8 f6 rfl B.len PySem.boot_len (au (ah 0) aN)) aV (cc _)) (jb (g8 (d8 ju rfl B.jf jc (au (bE b6 (ah 0) aV (fun _ _=>rfl)) (au (iP (v:=.ty "str") rfl B.str vQ rfl) aN)))))) (bg (c_ ir)) dk) (bq (cI (cM dJ (bE b6 (ah 0) aV (fun _ _=>rfl)) bB (cc _)) (bg (c_ (mD (iO dJ (d8 f6 rfl B.len PySem.boot_len (au (ah 0) aN)) aV (cc _)) (qu (dR x3 (cE aD) rfl xo Gu xR .nil de (au (bE b6 (ah 0) aV (fun _ _=>rfl)) (au (ah 1) aN))))))) dk) (bq (hP PassesOwn.never rfl (KG (nf Kz (ah 0) (ni aV) nj)) (ff (i:=2) HQ.a_ rfl (Or.inl rfl)) (bg (cI (jb (g8 (dR oc (cE aD) rfl nY sz n8 .nil de (au (ah 2) aN)))) (bg (c_ ir)) dk))) (bq (cI (cM dJ (bE b6 (ah 0) aV (fun _ _=>rfl)) bB (cc _)) (bg (c_ (mD (iO dJ (d8 f6 rfl B.len PySem.boot_len (au (ah 0) aN)) aV (cc _)) (qu (iO rE (bE b6 (ah 0) aV (fun _ _=>rfl)) aV (cc _)))))) dk) (bg (c_ (mD (iO dJ (bE b6 (ah 0) aV (fun _ _=>rfl)) bB (cc _)) (mD (iO dJ (d8 f6 rfl B.len PySem.boot_len (au (ah 0) aN)) aV (cc _)) (mD (iO ze (bE b6 (ah 0) aV (fun _ _=>rfl)) aV (cc _)) (qu (iO qw (bE b6 (ah 0) aV (fun _ _=>rfl)) (ah 1) (cc _)))))))))))),?_⟩
 cases c6 with
 | line ln =>
  obtain⟨t,cS,c2,rfl,aZ,bz,b3⟩:=f7 bL
  cases bz.str_inv
  refine⟨_,rfl,_,_,_,_,rfl,.tup aZ,rk K,_,rfl,cV ?_⟩
  refine⟨_,rfl,t,_,rfl,.inr (aG.of aZ),_,_,rfl,rfl,_,rfl,bu (show ¬((2:Nat):Int)<2 by decide) ?_⟩
  refine⟨_,rfl,t,_,_,_,rfl,rfl,aG.of aZ,rfl,_,_,_,_,rfl,.str _,kW K,_,rfl,cV ?_⟩
  refine⟨_,rfl,t,_,_,_,rfl,rfl,aG.of aZ,rfl,rfl,_,rfl,dE rfl ?_⟩
  refine⟨_,rfl,t,_,rfl,.inr (aG.of aZ),rfl,_,rfl,dE rfl ?_⟩
  exact⟨_,rfl,t,_,_,_,rfl,rfl,aG.of aZ,rfl,_,rfl,c2,ln,c,rfl,je.zf b3,bG,fun af aJ=>q af aJ⟩
 | d9 p n =>
  obtain⟨t,cS,c2,mW,rfl,aZ,bz,b3,h4⟩:=yD bL
  cases bz.str_inv
  cases b3.int_inv
  cases h4.int_inv
  refine⟨_,rfl,_,_,_,_,rfl,.tup aZ,rk K,_,rfl,cV ?_⟩
  refine⟨_,rfl,t,_,rfl,.inr (aG.of aZ),_,_,rfl,rfl,_,rfl,bu (show ¬((3:Nat):Int)<2 by decide) ?_⟩
  refine⟨_,rfl,t,_,_,_,rfl,rfl,aG.of aZ,rfl,_,_,_,_,rfl,.str _,kW K,_,rfl,cV ?_⟩
  refine⟨_,rfl,t,_,_,_,rfl,rfl,aG.of aZ,rfl,rfl,_,rfl,bu zd ?_⟩
  refine⟨_,rfl,_,rfl,t,_,rfl,aG.of aZ,(fun z=>nomatch (show (1:Nat)=0 from z.1)),fun u bf=>?_⟩
  have s1:=bR bf (.tup (eX [.str "page",.int (p:Nat),.int n] (some 1) none))
  have aH:(upd H u (.tup (eX [.str "page",.int (p:Nat),.int n] (some 1) none))) u=some (.tup (([(p:Nat),n]:List Int).map V.int)):=by
   rw[aR]
   rfl
  generalize upd H u (.tup (eX [.str "page",.int (p:Nat),.int n] (some 1) none))=H1 at s1 aH ⊢
  refine⟨u,rfl,⟨_,aG.of aH⟩,yQ (K:=K) (a:=u) (xs:=([(p:Nat),n]:List Int).map V.int) (fun i σ ay=>∃o:Option V,σ=[some (.ref t),some (.int (c:Nat)),o]∧H1=ay)
   ⟨none,rfl,rfl⟩ (fun i σ ay _ ⟨_,_,e⟩=>by rw[←e];exact aG.of aH) ?_ ?_⟩
  ·rintro i x σ ay aL ⟨o,rfl,rfl⟩
   obtain⟨m,rfl⟩:=yH rfl aL
   refine⟨_,rfl,m,rfl,_,rfl,cV ?_⟩
   exact⟨_,rfl,rfl⟩
  rintro σ ay ⟨o,rfl,rfl⟩
  have aZ:=s1 _ _ aZ
  have aF:p<c:=bG
  refine⟨_,rfl,t,_,_,_,rfl,rfl,aG.of aZ,rfl,rfl,_,rfl,bu Dq ?_⟩
  refine⟨_,rfl,t,_,_,_,rfl,rfl,aG.of aZ,rfl,rfl,_,rfl,dE rfl ?_⟩
  refine⟨_,rfl,t,_,rfl,.inr (aG.of aZ),rfl,_,rfl,dE rfl ?_⟩
  refine⟨_,rfl,t,_,_,_,rfl,rfl,aG.of aZ,rfl,_,_,rfl,rfl,_,rfl,dE (by omega) ?_⟩
  refine⟨_,rfl,t,_,_,_,rfl,rfl,aG.of aZ,rfl,_,rfl,_,_,rfl,rfl,?_⟩
  show Q (V.bV (decide (((p:Nat):Int)<((c:Nat):Int)))) _
  rw[decide_eq_true (by omega:((p:Nat):Int)<((c:Nat):Int))]
  exact q _ s1
 | cut k =>
  obtain⟨t,cS,c2,rfl,aZ,bz,b3⟩:=f7 bL
  cases bz.str_inv
  cases b3.int_inv
  refine⟨_,rfl,_,_,_,_,rfl,.tup aZ,rk K,_,rfl,cV ?_⟩
  refine⟨_,rfl,t,_,rfl,.inr (aG.of aZ),_,_,rfl,rfl,_,rfl,bu (show ¬((2:Nat):Int)<2 by decide) ?_⟩
  refine⟨_,rfl,t,_,_,_,rfl,rfl,aG.of aZ,rfl,_,_,_,_,rfl,.str _,kW K,_,rfl,cV ?_⟩
  refine⟨_,rfl,t,_,_,_,rfl,rfl,aG.of aZ,rfl,rfl,_,rfl,bu zk ?_⟩
  refine⟨_,rfl,_,rfl,t,_,rfl,aG.of aZ,(fun z=>nomatch (show (1:Nat)=0 from z.1)),fun u bf=>?_⟩
  have s1:=bR bf (.tup (eX [.str "cut",.int (k:Nat)] (some 1) none))
  have aH:(upd H u (.tup (eX [.str "cut",.int (k:Nat)] (some 1) none))) u=some (.tup (([(k:Nat)]:List Int).map V.int)):=by
   rw[aR]
   rfl
  generalize upd H u (.tup (eX [.str "cut",.int (k:Nat)] (some 1) none))=H1 at s1 aH ⊢
  refine⟨u,rfl,⟨_,aG.of aH⟩,yQ (K:=K) (a:=u) (xs:=([(k:Nat)]:List Int).map V.int) (fun i σ ay=>∃o:Option V,σ=[some (.ref t),some (.int (c:Nat)),o]∧H1=ay)
   ⟨none,rfl,rfl⟩ (fun i σ ay _ ⟨_,_,e⟩=>by rw[←e];exact aG.of aH) ?_ ?_⟩
  ·rintro i x σ ay aL ⟨o,rfl,rfl⟩
   obtain⟨m,rfl⟩:=yH rfl aL
   refine⟨_,rfl,m,rfl,_,rfl,cV ?_⟩
   exact⟨_,rfl,rfl⟩
  rintro σ ay ⟨o,rfl,rfl⟩
  have aZ:=s1 _ _ aZ
  have aS:0<k:=bG
  refine⟨_,rfl,t,_,_,_,rfl,rfl,aG.of aZ,rfl,rfl,_,rfl,dE rfl ?_⟩
  refine⟨_,rfl,t,_,rfl,.inr (aG.of aZ),rfl,_,rfl,dE rfl ?_⟩
  refine⟨_,rfl,t,_,_,_,rfl,rfl,aG.of aZ,rfl,_,_,rfl,rfl,?_⟩
  show Q (V.bV (decide ((0:Int)<((k:Nat):Int)))) _
  rw[decide_eq_true (by omega:(0:Int)<((k:Nat):Int))]
  exact q _ s1
theorem K3:dI ["_law_found","_law_count","_law_stroke"] mL (cR DL):=d2
theorem JR {H:ao}:∀{l:List bp}{zs:List V}{i:Nat}{x:V},bl H (l.map bp.D) zs→zs[i]?=some x→∃s,s∈l∧Rep H s.D x
 | [],zs,i,x,h,e=>by rw[bl.lP h]at e;cases e
 | s::r,zs,i,x,h,e=>by
  obtain⟨y,t,rfl,ak,az⟩:=bl.inv h
  cases i with
  | zero=>cases e;exact⟨s,mem_cons_self,ak⟩
  | succ i =>
   obtain⟨aJ,hm,aD⟩:=JR az e
   exact⟨aJ,mem_cons_of_mem _ hm,aD⟩
theorem VV {fx:Addr}{gC:FuncData}(F:bW K "_law_are_strokes" "_law_are_strokes" DL f fd) (B:eY mg) (i8:br P w K mg base bX 3 fx gC mL HM) (i5:Binds K gC mL []) (nZ:keepIn K (.ref fx)=true) (iZ:mg "_law_is_stroke"=some (.ref fx)) :
  br P w K mg base bX 4 f fd mL K1:=by
 refine F.ok K3 (fun vs H Q E h=>?_) (fun cy A outer s H vs Q E aD h=>?_)
 ·obtain⟨a,zs,l,c,rfl,_⟩:=h
  rfl
 obtain⟨a,zs,l,c,rfl,bk,l2,hf,q⟩:=h
 refine⟨_,(bq (cI (jb (g8 (d8 ju rfl B.jf jc (au (ah 0) (au (iP (v:=.ty "list") rfl B.lst iT rfl) aN))))) (bg (c_ ir)) dk) (bq (hP PassesOwn.never rfl (ku (ah 0)) (ff (i:=2) K3.a_ rfl (Or.inl rfl)) (bg (cI (jb (g8 (dR i8 (cE aD) rfl iZ nZ i5 .nil de (au (ah 2) (au (ah 1) aN))))) (bg (c_ ir)) dk))) (bg (c_ ir)))),?_⟩
 refine⟨_,rfl,_,_,_,_,rfl,.lst bk,ya K,_,rfl,cV ?_⟩
 refine⟨_,rfl,a,rfl,⟨zs,aO.of bk⟩,ng (K:=K) (a:=a) (xs:=zs) (fun i σ ay=>∃o:Option V,σ=[some (.ref a),some (.int (c:Nat)),o]∧bO H ay)
  ⟨none,rfl,bO.refl H⟩ (fun i σ ay _ ⟨_,_,s2⟩=>aO.of (s2 _ _ bk)) ?_ ?_⟩
 ·rintro i x σ ay aL ⟨o,rfl,s2⟩
  obtain⟨c6,hm,pO⟩:=JR l2 aL
  refine⟨_,rfl,_,rfl,x,c6,c,rfl,Rep.mono s2 _ _ pO,hf c6 hm,fun aT s3=>⟨_,rfl,cV ?_⟩⟩
  exact⟨_,rfl,s2.trans s3⟩
 ·rintro σ ay ⟨o,rfl,s2⟩
  exact q ay s2
def Ks:dj:=fun vs H Q _=>∃(p l:Addr) (v:V) (cs:List Int) (xs:List V) (log:List bN) (s:bp),vs=[.ref p,.ref l,v]∧H p=some (.lst (cs.map V.int))∧H l=some (.lst xs)∧gT H log xs∧Rep H s.D v∧ox cs.length s∧cs.length≤1000∧log.length≤100000 ∧
 ∀(r eg fH:Addr) (ys:List V) (af:ao),bO H af→af r=some (.tup [.ref eg,.ref fH])→af eg=some (.lst ((s.jG cs).map V.int))→af fH=some (.lst ys)→gT af (s.gV log) ys→(eg=p∨H eg=none)→(fH=l∨H fH=none)→Q (.ref r) af
def Kr:dj:=fun vs H Q _=>∃(p l b:Addr) (cs:List Int) (xs zs:List V) (log:List bN) (row:List bp),vs=[.ref p,.ref l,.ref b]∧H p=some (.lst (cs.map V.int))∧H l=some (.lst xs)∧gT H log xs∧H b=some (.lst zs)∧bl H (row.map bp.D) zs∧(∀s∈row,ox cs.length s)∧cs.length≤1000∧log.length+row.length≤100000 ∧
 ∀(r eg fH:Addr) (ys:List V) (af:ao),bO H af→af r=some (.tup [.ref eg,.ref fH])→af eg=some (.lst ((row.foldl bp.jG cs).map V.int))→af fH=some (.lst ys)→gT af (row.foldl bp.gV log) ys→(eg=p∨H eg=none)→(fH=l∨H fH=none)→Q (.ref r) af
theorem Vo (s:bp) (cs:List Int):(s.jG cs).length=cs.length:=by
 cases s with
 | d9 p n=>exact length_set
 | line _=>rfl
 | cut _=>rfl
theorem Cb:∀(l:List bp) (cs:List Int),(l.foldl bp.jG cs).length=cs.length
 | [],_=>rfl
 | s::l,cs=>by
  rw[foldl_cons,Cb,Vo]
theorem Vc (s:bp) (l:List bN):(s.gV l).length≤l.length+1:=by
 cases s with
 | d9 p n=>exact le_succ _
 | line _=>show (l++[_]).length≤_;rw[length_append];exact le_refl _
 | cut k=>show (l.drop k).length≤_;rw[length_drop];omega
theorem Jm:∀(l:List bp) (g:List bN),(l.foldl bp.gV g).length≤g.length+l.length
 | [],_=>le_refl _
 | s::l,g=>by
  rw[foldl_cons,length_cons]
  have ak:=Jm l (s.gV g)
  have az:=Vc s g
  omega
theorem SD {ps:List V}{j:Nat}{v:V}(h:j<ps.length):(eX ps none (some (j:Int))++[v])++eX ps (some ((j:Int)+1)) none=ps.set j v:=by
 rw[H2 (by omega) (by omega),Sk (by omega) (by omega),List.set_eq_take_append_cons_drop,if_pos h]
 have e:((j:Int)+1).toNat=j+1:=by omega
 rw[e,Int.toNat_natCast,append_assoc]
 rfl
theorem Ww:dI vC vC (cR DI):=d2
theorem VR  (F:bW K "_law_one_stroke" "_law_one_stroke" DI f fd)  : br P w K mg base bX 1 f fd vC Ks:=by
 refine F.ok Ww (fun vs H Q E h=>?_) (fun cy A outer s H vs Q E aD h=>?_)
 ·obtain⟨p,l,v,cs,xs,log,s,rfl,_⟩:=h
  rfl
 obtain⟨p,l,v,cs,xs,log,c6,rfl,aF,aE,kg,bL,hf,Ge,nU,q⟩:=h
 refine⟨_,(bq (cI (cM dJ (bE b6 (ah 2) aV (fun _ _=>rfl)) bB (cc _)) (bg (c_ (gp (au (ah 0) (au (dg rD (ah 1) (fi (au (bE b6 (ah 2) aV (fun _ _=>rfl)) aN))) aN))))) dk) (bq (cI (cM dJ (bE b6 (ah 2) aV (fun _ _=>rfl)) bB (cc _)) (bg (c_ (gp (au (ah 0) (au (nf pa (ah 1) (ni (bE b6 (ah 2) aV (fun _ _=>rfl))) nj) aN))))) dk) (bg (c_ (gp (au (dg rD (dg rD (nf pa (ah 0) nj (ni (bE b6 (ah 2) aV (fun _ _=>rfl)))) (fi (au (bE b6 (ah 2) aV (fun _ _=>rfl)) aN))) (nf pa (ah 0) (ni (dg ht (bE b6 (ah 2) aV (fun _ _=>rfl)) aV)) nj)) (au (ah 1) aN))))))),?_⟩
 have iD:log.length=xs.length:=kg.1
 have lc:(cs.map V.int).length=cs.length:=length_map _
 cases c6 with
 | line ln =>
  obtain⟨c,cS,c2,rfl,ai,bz,b3⟩:=f7 bL
  cases bz.str_inv
  refine⟨_,rfl,c,_,_,_,rfl,rfl,aG.of ai,rfl,rfl,_,rfl,dE rfl ?_⟩
  refine⟨_,rfl,_,rfl,_,rfl,c,_,_,_,rfl,rfl,aG.of ai,rfl,cZ,fun t aZ=>?_⟩
  have s1:bO H (upd H t (.lst [c2])):=bR aZ _
  refine⟨l,t,xs,[c2],rfl,rfl,s1 _ _ aE,aR,le_of_lt (ih (by rw[length_singleton];omega)),fun u bf=>⟨cZ,fun r iW=>?_⟩⟩
  have s2:=s1.trans (bR bf (.lst (xs++[c2])))
  have s3:=s2.trans (bR iW (.tup [.ref p,.ref u]))
  exact q r p u (xs++[c2]) _ s3 aR (s3 _ _ aF) (by rw[aA (cB aR iW),aR]) (f3.snoc (kg.mono fun a y q=>q.mono s3.e5) ((je.zf b3).mono s3.e5)) (.inl rfl) (.inr (s1.free bf))
 | cut k =>
  obtain⟨c,cS,c2,rfl,ai,bz,b3⟩:=f7 bL
  cases bz.str_inv
  cases b3.int_inv
  refine⟨_,rfl,c,_,_,_,rfl,rfl,aG.of ai,rfl,rfl,_,rfl,bu zk ?_⟩
  refine⟨_,rfl,c,_,_,_,rfl,rfl,aG.of ai,rfl,rfl,_,rfl,dE rfl ?_⟩
  refine⟨_,rfl,_,rfl,_,rfl,c,_,_,_,rfl,rfl,aG.of ai,rfl,_,rfl,l,xs,rfl,aO.of aE,fun u bf=>?_⟩
  rw[ti]at *
  refine⟨cZ,fun r iW=>?_⟩
  have s2:=bR bf (.lst (xs.drop k))
  have s3:=s2.trans (bR iW (.tup [.ref p,.ref u]))
  exact q r p u (xs.drop k) _ s3 aR (s3 _ _ aF) (by rw[aA (cB aR iW),aR]) ((kg.mono fun a y q=>q.mono s3.e5).drop k) (.inl rfl) (.inr bf)
 | d9 j n =>
  obtain⟨c,cS,c2,mW,rfl,ai,bz,b3,h4⟩:=yD bL
  cases bz.str_inv
  cases b3.int_inv
  cases h4.int_inv
  have di:j<(cs.map V.int).length:=by rw[lc];exact hf
  refine⟨_,rfl,c,_,_,_,rfl,rfl,aG.of ai,rfl,rfl,_,rfl,bu zd ?_⟩
  refine⟨_,rfl,c,_,_,_,rfl,rfl,aG.of ai,rfl,rfl,_,rfl,bu Dq ?_⟩
  refine⟨_,rfl,_,rfl,c,_,_,_,rfl,rfl,aG.of ai,rfl,_,rfl,p,_,rfl,aO.of aF,fun a bk=>?_⟩
  have s1:=bR bk (.lst (eX (cs.map V.int) none (some (j:Int))))
  refine⟨_,rfl,c,_,_,_,rfl,rfl,aG.of (s1 _ _ ai),rfl,cZ,fun t aZ=>?_⟩
  have s2:=s1.trans (bR aZ (.lst [.int n]))
  have dm:=yi (cs.map V.int) none (some (j:Int))
  have dW:=yi (cs.map V.int) (some ((j:Int)+1)) none
  refine⟨a,t,_,_,rfl,rfl,by rw[aA (cB aR aZ)];exact aR,aR,le_of_lt (ih (by rw[length_singleton];omega)),fun u bf=>?_⟩
  have s3:=s2.trans (bR bf (.lst (eX (cs.map V.int) none (some (j:Int))++[.int n])))
  refine⟨_,rfl,_,rfl,c,_,_,_,rfl,rfl,aG.of (s3 _ _ ai),rfl,_,_,rfl,rfl,_,rfl,p,_,rfl,aO.of (s3 _ _ aF),fun d hd=>?_⟩
  have s4:=s3.trans (bR hd (.lst (eX (cs.map V.int) (some ((j:Int)+1)) none)))
  refine⟨u,d,_,_,rfl,rfl,by rw[aA (cB aR hd)];exact aR,aR,le_of_lt (ih (by rw[length_append,length_singleton];omega)),fun e he=>?_⟩
  refine⟨_,rfl,cZ,fun r iW=>?_⟩
  have s5:=s4.trans (bR he (.lst ((eX (cs.map V.int) none (some (j:Int))++[.int n])++eX (cs.map V.int) (some ((j:Int)+1)) none)))
  have l1:=s5.trans (bR iW (.tup [.ref e,.ref l]))
  exact q r e l xs _ l1 aR (by rw[aA (cB aR iW),aR,SD di,qj];rfl) (l1 _ _ aE) (kg.mono fun a y q=>q.mono l1.e5) (.inr (s4.free he)) (.inl rfl)
theorem zb:dI ["_law_pages","_law_log","_law_strokes","_law_stroke"] zy (cR DG):=d2
theorem VP {GF:Addr}{Q3:FuncData}(F:bW K "_law_replayed" "_law_replayed" DG f fd) (abW:br P w K mg base bX 1 GF Q3 vC Ks) (abA:Binds K Q3 vC []) (abg:keepIn K (.ref GF)=true) (abc:mg "_law_one_stroke"=some (.ref GF)):br P w K mg base bX 2 f fd zy Kr:=by
 refine F.ok zb (fun vs H Q E h=>?_) (fun cy A outer s H vs Q E aD h=>?_)
 ·obtain⟨p,l,b,cs,xs,zs,log,row,rfl,_⟩:=h
  rfl
 obtain⟨p,l,lI,cs,xs,zs,log,row,rfl,aF,aE,kg,aa,hz,hf,Ge,nU,q⟩:=h
 refine⟨_,(bq (hP PassesOwn.never rfl (ku (ah 2)) (ff (i:=3) zb.a_ rfl (Or.inl rfl)) (bg (oq (dR abW (cE aD) rfl abc abg abA .nil de (au (ah 0) (au (ah 1) (au (ah 3) aN)))) (pq rfl (ja (ff (i:=0) zb.a_ rfl (Or.inl rfl)) (ja (ff (i:=1) zb.a_ rfl (Or.inl rfl)) pd)))))) (bg (c_ (gp (au (ah 0) (au (ah 1) aN)))))),?_⟩
 have jo:zs.length=row.length:=by rw[bl.length hz,length_map]
 refine⟨_,rfl,lI,rfl,⟨zs,aO.of aa⟩,ng (K:=K) (a:=lI) (xs:=zs) (fun i σ ay=>∃(a b:Addr) (o:Option V) (ys:List V),σ=[some (.ref a),some (.ref b),some (.ref lI),o]∧bO H ay ∧
   ay a=some (.lst (((row.take i).foldl bp.jG cs).map V.int))∧ay b=some (.lst ys)∧gT ay ((row.take i).foldl bp.gV log) ys∧(a=p∨H a=none)∧(b=l∨H b=none))
  ⟨p,l,none,xs,rfl,bO.refl H,aF,aE,kg,.inl rfl,.inl rfl⟩ (fun i σ ay _ ⟨_,_,_,_,_,s3,_⟩=>aO.of (s3 _ _ aa)) ?_ ?_⟩
 ·rintro i v σ ay aL ⟨a,b,o,ys,rfl,s3,aU,ea,gx,fU,m9⟩
  obtain⟨c6,h1,bL⟩:=o_ hz aL
  have Yj:=Jm (row.take i) log
  rw[length_take]at Yj
  refine⟨_,rfl,_,rfl,_,rfl,a,b,v,_,ys,_,c6,rfl,aU,ea,gx,Rep.mono s3 _ _ bL,by rw[Cb];exact hf c6 (mem_of_getElem? h1),by rw[Cb];exact Ge,by omega,fun r eg fH us aT s4 eG cp du jq bJ eW=>?_⟩
  refine⟨r,_,rfl,aG.of eG,rfl,_,_,rfl,_,_,rfl,rfl,?_⟩
  have cp:aT eg=some (.lst (((row.take (i+1)).foldl bp.jG cs).map V.int)):=by rw[IM _ _ _ _ _ h1];exact cp
  have jq:gT aT ((row.take (i+1)).foldl bp.gV log) us:=by rw[IM _ _ _ _ _ h1];exact jq
  have Z7:eg=p∨H eg=none:=bJ.elim (fun z=>by rw[z];exact fU) fun z=>.inr (s3.free z)
  have Z8:fH=l∨H fH=none:=eW.elim (fun z=>by rw[z];exact m9) fun z=>.inr (s3.free z)
  exact⟨eg,fH,some v,us,rfl,s3.trans s4,cp,du,jq,Z7,Z8⟩
 ·rintro σ ay ⟨a,b,o,ys,rfl,s3,aU,ea,gx,fU,m9⟩
  rw[jo,take_length]at aU gx
  refine⟨_,rfl,_,rfl,cZ,fun r iW=>?_⟩
  have s4:=bR iW (.tup [.ref a,.ref b])
  exact q r a b ys _ (s3.trans s4) aR (s4 _ _ aU) (s4 _ _ ea) (gx.mono fun _ _ q=>q.mono s4.e5) fU m9
theorem Tq {ps bM:List Int}{n:Nat}(aE:bM.length=ps.length) {s:bp}(h:s∈lR ps bM n):ox ps.length s:=by
 rcases mem_append.mp h with z | z
 ·obtain⟨q,k,rfl,bo,_⟩:=Iv z (le_refl _)
  show q<ps.length
  omega
 ·unfold nA at z
  split at z
  ·cases z
  ·rw[mem_singleton.mp z]
   show 0<n
   omega
theorem I_:∀(l:List b7) (x:aq) (i:Nat) (e:b7),l[i]?=some e→(x.says l)[i]?=some ((x.run (l.take i)).a4 e).2
 | [],_,_,_,h=>by cases h
 | e::r,x,0,cX,h=>by
  cases Option.some.inj (show some e=some cX from h)
  rfl
 | e::r,x,i+1,cX,h=>I_ r (x.a4 e).1 i cX h
theorem JQ:∀(l:List b7) (x:aq) (i:Nat) (e:b7),l[i]?=some e→(x.rows l)[i]?=some ((x.run (l.take i)).row e)
 | [],_,_,_,h=>by cases h
 | e::r,x,0,cX,h=>by
  cases Option.some.inj (show some e=some cX from h)
  rfl
 | e::r,x,i+1,cX,h=>JQ r (x.a4 e).1 i cX h
theorem SH {H:ao}{bad:List Addr}{rows:List (List bp)}{xs:List V}{i:Nat}{row:List bp}(R:hu H bad rows xs) (h:rows[i]?=some row):∃b zs,xs[i]?=some (.ref b)∧H b=some (.lst zs)∧bl H (row.map bp.D) zs:=by
 have aL:i<xs.length:=by rw[←R.1];exact (List.getElem?_eq_some_iff.mp h).1
 obtain⟨ack,aD,b,zs,e,_,hz,pO⟩:=R.get (getElem?_eq_getElem aL)
 rw[h]at aD
 cases aD
 exact⟨b,zs,by rw[getElem?_eq_getElem aL,e],hz,pO⟩
def Kw:dj:=fun vs H Q _=>∃(ct dl b4 lx:Addr) (bad:List Addr) (ps:List Int) (room:Int) (us lS:List V) (aB:List b7) (stop:Nat),vs=[.ref ct,.ref dl,.ref b4,.ref lx,.int (stop:Nat)]∧H ct=some (.lst (ps.map V.int))∧H dl=some (.lst us)∧bl H (aB.map b7.D) us∧H b4=some (.lst (((bZ ps room).says aB).map cW.v))∧H lx=some (.lst lS)∧hu H bad ((bZ ps room).rows aB) lS∧aB.length≤63∧1≤ps.length∧ps.length≤100∧0≤room ∧
 ∀(r:Addr) (af:ao),bO H af→af r=some (.lst ((keptBy stop aB (bZ ps room) (bZ ps room) 0).map V.int))→Q (.ref r) af
theorem R0 (K:PySem.W.Frag):kitOne K (.type "str") (.type "int")=some false:=by kernel_rfl
theorem To {x:aq}{n:Int}(h:(x.a4 .begin).2=.num n):n=(x.begun:Int):=by
 have d4:x.a4 .begin=if (x.began.full 1).2=true then ((x.began.full 1).1,.word "no room") else ((x.began.full 1).1.opened,.num x.begun):=rfl
 rw[d4]at h
 split at h
 ·cases h
 ·cases h;rfl
theorem done_none {x:aq}{e:b7}(h:(x.a4 e).2=.word "done"):x.refusal e=none:=by
 cases aD:x.refusal e with
 | none=>rfl
 | some w =>
  have aU:x.a4 e=(x,.word w):=by unfold aq.a4;rw[aD]
  rw[aU]at h
  exact absurd (by cases h;rfl) (qi aD)
theorem HT {bD aE b:Addr}{pl:List (Int × Addr)}{d:Int}(aa:b∈jA bD aE (pl.filter fun z=>z.1 != d)):b∈jA bD aE pl:=by
 rcases mem_cons.mp aa with e | aa
 ·rw[e];exact mem_cons_self
 rcases mem_cons.mp aa with e | aa
 ·rw[e];exact mem_cons_of_mem _ mem_cons_self
 obtain⟨z,hz,e⟩:=mem_map.mp aa
 exact mem_cons_of_mem _ (mem_cons_of_mem _ (mem_map.mpr ⟨z,(mem_filter.mp hz).1,e⟩))
def Tv:dj:=fun vs H Q _=>(∃i:Int,vs=[.int i]∧Q (.bV true) H)∨∃w:Str,vs=[.str w]∧Q (.bV false) H
theorem SO (F:bW K "_law_whole" "_law_whole" vf f fd) (B:eY mg):br P w K mg base bX 1 f fd k8 Tv:=by
 refine F.ok JK (fun vs H Q E h=>?_) (fun cy A outer s H vs Q E aD h=>?_)
 ·rcases h with ⟨i,rfl,_⟩ | ⟨i,rfl,_⟩ <;> rfl
 refine⟨_,bg (c_ (mD (d8 ju rfl B.jf jc (au (ah 0) (au (iP (v:=.ty "int") rfl B.int zR rfl) aN)))
  (qu (KJ (d8 ju rfl B.jf jc (au (ah 0) (au (iP (v:=.ty "bool") rfl B.bV Lu rfl) aN))))))),?_⟩
 rcases h with ⟨i,rfl,q⟩ | ⟨i,rfl,q⟩
 ·refine⟨_,rfl,_,_,_,_,rfl,.int i,HF K,_,rfl,el ?_⟩
  exact⟨_,rfl,_,_,_,_,rfl,.int i,Hh K,_,rfl,q⟩
 ·exact⟨_,rfl,_,_,_,_,rfl,.str i,R0 K,_,rfl,cV q⟩
theorem pn:dI ["_law_pages","_law_asked","_law_told","_law_rows","_law_stop","_law_kept","_law_held","_law_made","_law_k","_law_deed","_law_page","_law_number"] zx (cR Dg):=d2
theorem U6 {jQ:Addr}{lE:FuncData}(F:bW K "_law_kept_by" "_law_kept_by" Dg f fd) (B:eY mg) (qg:bW K "_law_whole" "_law_whole" vf jQ lE) (n8:Binds K lE k8 []) (sz:keepIn K (.ref jQ)=true) (nY:mg "_law_whole"=some (.ref jQ)):br P w K mg base bX 2 f fd zx Kw:=by
 refine F.ok pn (fun vs H Q E h=>?_) (fun cy A outer s H vs Q E aD h=>?_)
 ·obtain⟨ct,dl,b4,lx,bad,ps,room,us,lS,aB,stop,rfl,_⟩:=h
  rfl
 obtain⟨ct,dl,b4,lx,bad,ps,room,us,lS,aB,stop,rfl,oJ,wG,vX,fN,Zp,abL,sk,eV,es,ly,q⟩:=h
 have bf:=g_ aD
 have tT:us.length=aB.length:=by rw[bl.length vX,length_map]
 have oc:=SO (P:=P) (w:=w) (base:=base) qg B
 refine⟨_,(bq (dc (i:=5) pn.a_ rfl (Or.inl rfl) (i9 nd rfl B.lst iT (au (ah 0) aN))) (bq (dc (i:=6) pn.a_ rfl (Or.inl rfl) u0) (bq (dc (i:=7) pn.a_ rfl (Or.inl rfl) aV) (bq (hP PassesOwn.never rfl (s_ rfl B.j6 (au (d8 f6 rfl B.len PySem.boot_len (au (ah 1) aN)) aN)) (ff (i:=8) pn.a_ rfl (Or.inl rfl)) (bq (dc (i:=7) pn.a_ rfl (Or.inl rfl) (dg ht (ah 7) (d8 f6 rfl B.len PySem.boot_len (au (bE fq (ah 3) (ah 8) (fun _ _=>rfl)) aN)))) (bq (dc (i:=9) pn.a_ rfl (Or.inl rfl) (bE fq (ah 1) (ah 8) (fun _ _=>rfl))) (bq (cI (cM rE (ah 7) (ah 4) (cc _)) (bg (c_ (ah 5))) dk) (bq (cI (om (cM dJ (bE b6 (ah 9) aV (fun _ _=>rfl)) bB (cc _)) (g8 (dR oc (cE aD) rfl nY sz n8 .nil de (au (bE fq (ah 2) (ah 8) (fun _ _=>rfl)) aN)))) (bg (mA bf (ah 6) (bE fq (ah 2) (ah 8) (fun _ _=>rfl)) (fi aN) rfl)) dk) (bg (cI (om (g8 (d8 ju rfl B.jf jc (au (bE fq (ah 2) (ah 8) (fun _ _=>rfl)) (au (iP (v:=.ty "str") rfl B.str vQ rfl) aN)))) (cM dJ (bE fq (ah 2) (ah 8) (fun _ _=>rfl)) bB (cc _))) (bq (cI (cM dJ (bE b6 (ah 9) aV (fun _ _=>rfl)) bB (cc _)) (bg (dH (iS plainAttrs_list PySem.F.slot_list_append PySem.F.type_list_append ie (eT bf (ah 6) (bE b6 (ah 9) aV (fun _ _=>rfl)) (fun _ _=>rfl)) (au (gp (au (bE b6 (ah 9) aV (fun _ _=>rfl)) (au (bE b6 (ah 9) aV (fun _ _=>rfl)) aN))) aN)))) dk) (bq (cI (cM dJ (bE b6 (ah 9) aV (fun _ _=>rfl)) bB (cc _)) (bg (hP PassesOwn.never rfl (ku (eT bf (ah 6) (bE b6 (ah 9) aV (fun _ _=>rfl)) (fun _ _=>rfl))) (pq rfl (ja (ff (i:=10) pn.a_ rfl (Or.inl rfl)) (ja (ff (i:=11) pn.a_ rfl (Or.inl rfl)) pd))) (bg (oq (ah 11) (rB (ah 5) (ah 10) set_list))))) dk) (bg (cI (mC (cM dJ (bE b6 (ah 9) aV (fun _ _=>rfl)) bB (cc _)) (cM dJ (bE b6 (ah 9) aV (fun _ _=>rfl)) bB (cc _))) (bg (dH (B4 (ah 6) (bE b6 (ah 9) aV (fun _ _=>rfl)) ⟨rfl,rfl,rfl,rfl⟩))) dk)))) dk))))))) (bg (c_ (ah 5))))))),?_⟩
 refine⟨_,rfl,ct,_,rfl,.inl (aO.of oJ),fun bD Ow=>?_⟩
 have s2:=bR Ow (.lst (ps.map V.int))
 have aM:(upd H bD (.lst (ps.map V.int))) bD=some (.lst (ps.map V.int)):=aR
 generalize upd H bD (.lst (ps.map V.int))=ay at s2 aM ⊢
 refine fun aE Aq=>?_
 have s3:=bR Aq (.bS [])
 have bT:(upd ay aE (.bS [])) aE=some (.bS []):=aR
 have fy:H aE=none:=s2.free Aq
 have eO:bD≠aE:=fun z=>by rw[←z,aM]at Aq;cases Aq
 generalize upd ay aE (.bS [])=aT at s3 bT ⊢
 have fm:=s2.trans s3
 have P3:eH aT bD bD bD bD aE bD [] (bZ ps room):=⟨s3 _ _ aM,bT,rfl,fun i z w h=>(by cases h),nodup_nil,nodup_cons.mpr ⟨fun m=>eO (mem_singleton.mp m),nodup_cons.mpr ⟨not_mem_nil,nodup_nil⟩⟩⟩
 have oM:∀b,b∈jA bD aE []→H b=none:=fun b aa=>by
  rcases mem_cons.mp aa with z | z
  ·rw[z];exact Ow
  ·rw[mem_singleton.mp z];exact fy
 refine⟨_,rfl,dl,us,rfl,.inl (aO.of (fm _ _ wG)),_,rfl,by omega,by omega,uU (fun i σ dC=>∃(k:aq) (pl:List (Int × Addr)) (made:Nat) (fS gZ hc hB:Option V),σ=[some (.ref ct),some (.ref dl),some (.ref b4),some (.ref lx),some (.int (stop:Nat)),some (.ref bD),some (.ref aE),some (.int ((made:Nat):Int)),fS,gZ,hc,hB]∧eH dC bD bD bD bD aE bD pl k∧bO H dC∧(∀b,b∈jA bD aE pl→H b=none)∧made≤stop ∧
    keptBy stop aB (bZ ps room) (bZ ps room) 0=keptBy stop (aB.drop i) ((bZ ps room).run (aB.take i)) k made∧J ((bZ ps room).run (aB.take i)) k.av ((bZ ps room).run (aB.take i)).begun∧hT ((bZ ps room).run (aB.take i)) k)
   ⟨bZ ps room,[],0,none,none,none,none,rfl,P3,fm,oM,zero_le _,rfl,K9 ps room,⟨rfl,fun d l fH m=>(by cases m),fun d l q e m=>(by cases m)⟩⟩ ?_ ?_⟩
 ·rintro i σ dC jg ⟨k,fD,made,fS,gZ,hc,hB,rfl,xY,ko,fk,hm,aS,uI,KK⟩
  have e0:(0:Int)+(i:Int)=((i:Nat):Int):=by omega
  rw[e0]
  have aL:i<us.length:=by omega
  obtain⟨v,aX⟩:∃v,us[i]?=some v:=⟨_,getElem?_eq_getElem aL⟩
  obtain⟨e,he,re⟩:=o_ vX aX
  have lt:(aB.take i).length=i:=by rw[length_take];omega
  have jt:=(u3 (room:=room) eV es).run (aB.take i) (by omega)
  rw[lt,zero_add]at jt
  have aZ:(bZ ps room).run (aB.take (i+1))=(((bZ ps room).run (aB.take i)).a4 e).1:=by
   have ak:aB.take (i+1)=aB.take i++[e]:=by rw[take_add_one,he];rfl
   rw[ak,B2]
  have hd:aB.drop i=e::aB.drop (i+1):=by
   rw[List.drop_eq_getElem_cons (List.getElem?_eq_some_iff.mp he).1,(List.getElem?_eq_some_iff.mp he).2]
  have dD:(((bZ ps room).says aB).map cW.v)[i]?=some (((bZ ps room).run (aB.take i)).a4 e).2.v:=by
   rw[getElem?_map,I_ aB _ i e he]
   rfl
  obtain⟨b,zs,bh,hz,l2⟩:=SH abL (JQ aB _ i e he)
  rw[aZ]
  rw[hd]at aS
  generalize (bZ ps room).run (aB.take i)=x at aS uI KK jt dD l2 ⊢
  have ZM:keptBy stop (e::aB.drop (i+1)) x k made=if stop<made+(x.row e).length then k.av else keptBy stop (aB.drop (i+1)) (x.a4 e).1 (hy k e (x.a4 e).2) (made+(x.row e).length):=rfl
  rw[ZM]at aS
  have jo:zs.length=(x.row e).length:=by rw[bl.length l2,length_map]
  refine⟨_,rfl,_,rfl,_,rfl,lx,_,_,_,rfl,rfl,aO.of (ko _ _ Zp),fh bh,b,zs,rfl,.inl (aO.of (ko _ _ hz)),_,_,rfl,rfl,?_⟩
  have em:(made:Int)+(zs.length:Int)=((made+(x.row e).length:Nat):Int):=by rw[jo];omega
  dsimp only
  rw[em]
  refine⟨_,rfl,_,rfl,dl,_,_,_,rfl,rfl,aO.of (ko _ _ wG),fh aX,?_⟩
  refine⟨_,rfl,_,rfl,_,_,rfl,rfl,_,rfl,gq (fun cN=>?_) (fun cN=>?_)⟩
  ·have dB:stop<made+(x.row e).length:=by have e3:(stop:Int)<((made+(x.row e).length:Nat):Int):=of_decide_eq_true cN;omega
   rw[if_pos dB]at aS
   refine⟨_,rfl,q bD dC ko ?_⟩
   rw[aS]
   exact xY.hd
  have dB:¬stop<made+(x.row e).length:=fun z=>cN (decide_eq_true (by omega))
  rw[if_neg dB]at aS
  obtain⟨Gw,k2⟩:=JA uI KK e
  have fL:=xY
  have dY:=ko
  generalize dC=ed at fL dY ⊢
  clear xY ko
  have Ac:aE∈jA bD aE fD:=mem_cons_of_mem _ mem_cons_self
  have MR:bD∈jA bD aE fD:=mem_cons_self
  have EB:(d3 fD).length<sizeLine:=ih (by
   have aH:(d3 fD).length=fD.length:=length_map _
   have aM:=fL.mH
   have bT:k.aK.length=x.aK.length:=by have:=congrArg List.length KK.bM;rw[length_map,length_map]at this;exact this
   have:=jt.pl
   omega)
  have XQ:∀d,(k.c5 d).length≤200:=fun d=>by
   cases aS:k.isOpen d with
   | false =>
    have:k.c5 d=[]:=by
     unfold aq.c5
     rw[find?_eq_none.mpr fun z hz e=>by
      have:k.isOpen d=true:=any_eq_true.mpr ⟨z,hz,e⟩
      rw[aS]at this;cases this]
     rfl
    rw[this];exact zero_le _
   | true =>
    obtain⟨l,aE,e⟩:=KK.other (ks aS)
    have ak:=congrArg List.length e
    rw[length_map,length_map]at ak
    have:=(jt.d1 _ aE).2.2.1
    have az:l.length≤i:=this
    omega
  have zr:∀{dQ:ao},gX (jA bD aE fD) ed dQ→bO H dQ:=fun o b u z=>o b u (fun m=>by rw[fk b m]at z;cases z) (dY b u z)
  have bL:=Rep.mono dY _ _ re
  have fin:∀(hh:aq) (hb:List (Int × Addr)) (af:ao) (hc hB:Option V),eH af bD bD bD bD aE bD hb hh→bO H af→(∀b,b∈jA bD aE hb→H b=none)→hy k e (x.a4 e).2=hh→∃(k:aq) (pl:List (Int × Addr)) (Dr:Nat) (fS gZ Mu Mt:Option V),([some (.ref ct),some (.ref dl),some (.ref b4),some (.ref lx),some (.int (stop:Nat)),some (.ref bD),some (.ref aE),some (.int (((made+(x.row e).length):Nat):Int)),some (.int ((i:Nat):Int)),some v,hc,hB]:St)=[some (.ref ct),some (.ref dl),some (.ref b4),some (.ref lx),some (.int (stop:Nat)),some (.ref bD),some (.ref aE),some (.int ((Dr:Nat):Int)),fS,gZ,Mu,Mt]∧eH af bD bD bD bD aE bD pl k∧bO H af∧(∀b,b∈jA bD aE pl→H b=none)∧Dr≤stop ∧
    keptBy stop aB (bZ ps room) (bZ ps room) 0=keptBy stop (aB.drop (i+1)) (x.a4 e).1 k Dr∧J (x.a4 e).1 k.av (x.a4 e).1.begun∧hT (x.a4 e).1 k :=
   fun hh hb af Mu Mt abM abI rf gI=>⟨hy k e (x.a4 e).2,hb,made+(x.row e).length,_,_,_,_,rfl,by rw[gI];exact abM,abI,rf,by omega,aS,Gw,k2⟩
  cases e with
  | begin =>
   obtain⟨c,cS,rfl,ai,bz⟩:=qp bL
   cases bz.str_inv
   cases ef:(x.a4 (.begin)).2 with
   | num gH =>
    have dD:(((bZ ps room).says aB).map cW.v)[i]?=some (V.int gH):=by rw[dD,ef];rfl
    refine⟨_,rfl,c,_,_,_,rfl,rfl,aG.of ai,rfl,rfl,_,rfl,dE rfl ?_⟩
    refine⟨_,rfl,_,rfl,b4,_,_,_,rfl,rfl,aO.of (dY _ _ fN),fh dD,.inl ⟨gH,rfl,_,rfl,el ?_⟩⟩
    have uz:gH=(x.begun:Int):=To ef
    refine⟨cZ,fun u oG=>?_⟩
    have l6:=fL.there oG
    have hE:=bR oG (.lst [])
    have n4:(upd ed u (.lst [])) u=some (.lst []):=aR
    have kT:=fL.same hE
    generalize upd ed u (.lst [])=dQ at hE n4 kT ⊢
    have nH:k.isOpen gH=false:=by
     rw[KK.isOpen,uz]
     cases ck:x.isOpen (x.begun:Int) with
     | false=>rfl
     | true=>have:=uI.lH _ ck;omega
    refine⟨_,rfl,_,rfl,_,rfl,b4,_,_,_,rfl,rfl,aO.of ((dY.trans hE) _ _ fN),fh dD,aE,_,rfl,.inl ⟨_,Sum.inl gH,kT.aF,rfl,EB,rfl⟩,?_⟩
    have sP:=kT.opened (d:=gH) n4 l6 nH
    have fS:gX (jA bD aE fD) ed (upd dQ aE (.bS (putK (d3 fD) (Sum.inl gH) (.ref u)))):=(bO.ew hE).trans (kv Ac)
    have kt:=fL.e5 fS
    generalize upd dQ aE (.bS (putK (d3 fD) (Sum.inl gH) (.ref u)))=hl at sP fS kt ⊢
    have sN:=zr fS
    refine⟨_,rfl,_,rfl,b4,_,_,_,rfl,rfl,aO.of (sN _ _ fN),fh dD,_,_,_,_,rfl,.int _,ql K,_,rfl,cV ?_⟩
    refine fin _ _ hl _ _ sP sN (fun b aa=>?_) (by rw[ef];rfl)
    rcases mem_cons.mp aa with e | aa
    ·exact fk b (by rw[e];exact MR)
    rcases mem_cons.mp aa with e | aa
    ·exact fk b (by rw[e];exact Ac)
    rw[map_append]at aa
    rcases mem_append.mp aa with aa | aa
    ·exact fk b (mem_cons_of_mem _ (mem_cons_of_mem _ aa))
    ·rw[mem_singleton.mp aa];exact dY.free oG
   | word ww =>
    have dD:(((bZ ps room).says aB).map cW.v)[i]?=some (V.str ww):=by rw[dD,ef];rfl
    refine⟨_,rfl,c,_,_,_,rfl,rfl,aG.of ai,rfl,rfl,_,rfl,dE rfl ?_⟩
    refine⟨_,rfl,_,rfl,b4,_,_,_,rfl,rfl,aO.of (dY _ _ fN),fh dD,.inr ⟨ww,rfl,_,rfl,cV ?_⟩⟩
    refine⟨_,rfl,_,rfl,b4,_,_,_,rfl,rfl,aO.of (dY _ _ fN),fh dD,_,_,_,_,rfl,.str _,kW K,_,rfl,el ?_⟩
    by_cases hw:ww="done"
    ·refine⟨_,rfl,_,rfl,b4,_,_,_,rfl,rfl,aO.of (dY _ _ fN),fh dD,rfl,_,rfl,dE (by rw[hw]) ?_⟩
     refine⟨_,rfl,c,_,_,_,rfl,rfl,aG.of ai,rfl,rfl,_,rfl,bu (by decide +kernel) ?_⟩
     refine⟨_,rfl,c,_,_,_,rfl,rfl,aG.of ai,rfl,rfl,_,rfl,bu (by decide +kernel) ?_⟩
     refine⟨_,rfl,c,_,_,_,rfl,rfl,aG.of ai,rfl,rfl,_,rfl,bu (by decide +kernel) ?_⟩
     refine⟨_,rfl,c,_,_,_,rfl,rfl,aG.of ai,rfl,rfl,_,rfl,bu (by decide +kernel) ?_⟩
     exact fin k fD ed _ _ fL dY fk (by rw[ef];rfl)
    ·refine⟨_,rfl,_,rfl,b4,_,_,_,rfl,rfl,aO.of (dY _ _ fN),fh dD,rfl,_,rfl,bu (fun z=>hw (by cases z;rfl)) ?_⟩
     exact fin k fD ed _ _ fL dY fk (by rw[ef];exact rfl)
  | put d p n =>
   obtain⟨c,cS,c2,mW,w6,rfl,ai,bz,b3,h4,nW⟩:=yC bL
   cases bz.str_inv
   cases b3.int_inv
   cases h4.int_inv
   cases nW.int_inv
   refine⟨_,rfl,c,_,_,_,rfl,rfl,aG.of ai,rfl,rfl,_,rfl,bu (by decide +kernel) ?_⟩
   cases ef:(x.a4 (.put d p n)).2 with
   | num gH =>
    have dD:(((bZ ps room).says aB).map cW.v)[i]?=some (V.int gH):=by rw[dD,ef];rfl
    refine⟨_,rfl,_,rfl,b4,_,_,_,rfl,rfl,aO.of (dY _ _ fN),fh dD,_,_,_,_,rfl,.int _,ql K,_,rfl,cV ?_⟩
    exact fin k fD ed _ _ fL dY fk (by rw[ef];rfl)
   | word ww =>
    have dD:(((bZ ps room).says aB).map cW.v)[i]?=some (V.str ww):=by rw[dD,ef];rfl
    refine⟨_,rfl,_,rfl,b4,_,_,_,rfl,rfl,aO.of (dY _ _ fN),fh dD,_,_,_,_,rfl,.str _,kW K,_,rfl,el ?_⟩
    by_cases hw:ww="done"
    ·refine⟨_,rfl,_,rfl,b4,_,_,_,rfl,rfl,aO.of (dY _ _ fN),fh dD,rfl,_,rfl,dE (by rw[hw]) ?_⟩
     have dp:x.refusal (.put d p n)=none:=done_none (by rw[ef,hw])
     have aC:k.isOpen d=true:=by rw[KK.isOpen];exact hW (.inl ⟨p,n,rfl⟩) dp
     obtain⟨o1,eV⟩:=nc (.inl ⟨d,n,rfl⟩) dp
     obtain⟨bK,rfl⟩:∃bK:Nat,p=(bK:Int):=⟨p.toNat,by omega⟩
     obtain⟨j,a,ys,di,qO,bk,pP,cF⟩:=fL.qs aC
     have lV:=pP.length
     rw[length_map]at lV
     have jo:(k.c5 d).length≤200:=XQ d
     refine⟨_,rfl,c,_,_,_,rfl,rfl,aG.of ai,rfl,rfl,_,rfl,dE rfl ?_⟩
     refine⟨_,rfl,_,rfl,c,_,_,_,rfl,rfl,aG.of ai,rfl,aE,_,rfl,cF,.inl ⟨rfl,_,aO.of bk⟩,_,rfl,c,_,_,_,rfl,rfl,aG.of ai,rfl,_,rfl,c,_,_,_,rfl,rfl,aG.of ai,rfl,cZ,fun t aZ=>?_⟩
     have hE:=bR aZ (.tup [.int (bK:Nat),.int n])
     have n4:(upd ed t (.tup [.int (bK:Nat),.int n])) t=some (.tup [.int (bK:Nat),.int n]):=aR
     have kT:=fL.same hE
     have E2:=hE _ _ bk
     generalize upd ed t (.tup [.int (bK:Nat),.int n])=dQ at hE n4 kT E2 ⊢
     refine⟨a,ys,.ref t,rfl,rfl,E2,ih (by omega),?_⟩
     have sP:=kT.c1 (y:=(bK,n)) (v:=.ref t) di E2 (.g9 n4 (.cons .ofInt (.cons .ofInt .nil)))
     have Gn:a∈jA bD aE fD:=mem_cons_of_mem _ (mem_cons_of_mem _ (mem_map.mpr ⟨_,mem_of_getElem? di,rfl⟩))
     have fS:gX (jA bD aE fD) ed (upd dQ a (.lst (ys++[.ref t]))):=(bO.ew hE).trans (kv Gn)
     have ai:=fL.e5 fS _ _ ai
     generalize upd dQ a (.lst (ys++[.ref t]))=hl at sP fS ai ⊢
     have sN:=zr fS
     refine⟨_,rfl,c,_,_,_,rfl,rfl,aG.of ai,rfl,rfl,_,rfl,bu (by decide +kernel) ?_⟩
     refine⟨_,rfl,c,_,_,_,rfl,rfl,aG.of ai,rfl,rfl,_,rfl,bu (by decide +kernel) ?_⟩
     refine⟨_,rfl,c,_,_,_,rfl,rfl,aG.of ai,rfl,rfl,_,rfl,bu (by decide +kernel) ?_⟩
     refine fin _ fD hl _ _ (sP.of ?_ ?_) sN fk rfl
     ·rw[ef];exact congrArg aq.av (if_pos (e:=k) hw)
     ·rw[ef];exact congrArg aq.aK (if_pos (e:=k) hw)
    ·refine⟨_,rfl,_,rfl,b4,_,_,_,rfl,rfl,aO.of (dY _ _ fN),fh dD,rfl,_,rfl,bu (fun z=>hw (by cases z;rfl)) ?_⟩
     exact fin k fD ed _ _ fL dY fk (by rw[ef];exact if_neg hw)
  | fin d =>
   obtain⟨c,cS,c2,rfl,ai,bz,b3⟩:=f7 bL
   cases bz.str_inv
   cases b3.int_inv
   refine⟨_,rfl,c,_,_,_,rfl,rfl,aG.of ai,rfl,rfl,_,rfl,bu (by decide +kernel) ?_⟩
   cases ef:(x.a4 (.fin d)).2 with
   | num gH =>
    have dD:(((bZ ps room).says aB).map cW.v)[i]?=some (V.int gH):=by rw[dD,ef];rfl
    refine⟨_,rfl,_,rfl,b4,_,_,_,rfl,rfl,aO.of (dY _ _ fN),fh dD,_,_,_,_,rfl,.int _,ql K,_,rfl,cV ?_⟩
    exact fin k fD ed _ _ fL dY fk (by rw[ef];rfl)
   | word ww =>
    have dD:(((bZ ps room).says aB).map cW.v)[i]?=some (V.str ww):=by rw[dD,ef];rfl
    refine⟨_,rfl,_,rfl,b4,_,_,_,rfl,rfl,aO.of (dY _ _ fN),fh dD,_,_,_,_,rfl,.str _,kW K,_,rfl,el ?_⟩
    by_cases hw:ww="done"
    ·refine⟨_,rfl,_,rfl,b4,_,_,_,rfl,rfl,aO.of (dY _ _ fN),fh dD,rfl,_,rfl,dE (by rw[hw]) ?_⟩
     have dp:x.refusal (.fin d)=none:=done_none (by rw[ef,hw])
     have aC:k.isOpen d=true:=by rw[KK.isOpen];exact hW (.inr (.inl rfl)) dp
     obtain⟨j,a,ys,di,qO,bk,pP,cF⟩:=fL.qs aC
     have lV:=pP.length
     rw[length_map]at lV
     have na:a∉[bD,aE]:=fun m=>by
      obtain⟨bx,aW⟩:=fL.ne.2 _ (mem_of_getElem? di)
      rcases mem_cons.mp m with z | z
      ·exact bx z
      ·exact aW (mem_singleton.mp z)
     have j6:∀z∈k.c5 d,z.1<k.av.length:=fun z hz=>by
      obtain⟨l,o,cn,cu⟩:=KK.has (q:=z.1) (o:=z.2) (ks aC) hz
      rw[uI.cl];exact uI.d1 d l z.1 o cn cu
     refine⟨_,rfl,c,_,_,_,rfl,rfl,aG.of ai,rfl,rfl,_,rfl,bu (by decide +kernel) ?_⟩
     refine⟨_,rfl,c,_,_,_,rfl,rfl,aG.of ai,rfl,rfl,_,rfl,dE rfl ?_⟩
     refine⟨_,rfl,_,rfl,c,_,_,_,rfl,rfl,aG.of ai,rfl,aE,_,rfl,cF,a,rfl,⟨ys,aO.of bk⟩,ng (K:=K) (a:=a) (xs:=ys) (fun j σ dQ=>∃(hc hB:Option V),σ=[some (.ref ct),some (.ref dl),some (.ref b4),some (.ref lx),some (.int (stop:Nat)),some (.ref bD),some (.ref aE),some (.int (((made+(x.row (.fin d)).length):Nat):Int)),some (.int ((i:Nat):Int)),some (.ref c),hc,hB]∧eH dQ bD bD bD bD aE bD fD { k with av:=jv ((k.c5 d).take j) k.av }∧gX [bD] ed dQ)
      ⟨_,_,rfl,fL,gX.refl _ _⟩ (fun j σ dQ _ ⟨_,_,_,_,fa⟩=>aO.of (fa _ _ (fun m=>na (mem_cons.mpr (.inl (mem_singleton.mp m)))) bk)) ?_ ?_⟩
     ·rintro j v σ dQ tZ ⟨hc,hB,rfl,kT,fa⟩
      obtain⟨jj,dm,dW⟩:=o_ pP tZ
      have kt:eh ed dQ:=fun b xs q=>fa b _ (fun m=>by rw[mem_singleton.mp m,fL.hd]at q;cases q) q
      obtain⟨b,e6,eB,rfl,aa,bx,aW⟩:=f7 (a:=.int (jj.1:Nat)) (b:=.int jj.2) (Rep.keep kt _ _ (hn jj) dW)
      cases bx.int_inv
      cases aW.int_inv
      have mR:=j6 jj (mem_of_getElem? dm)
      refine⟨b,_,rfl,aG.of aa,rfl,_,_,rfl,_,_,rfl,rfl,?_⟩
      refine⟨_,rfl,_,rfl,_,rfl,bD,_,_,jj.1,rfl,rfl,kT.hd,ry (by rw[length_map,By];exact mR),?_⟩
      rw[qj]
      have sP:=kT.tG (c:=(jv ((k.c5 d).take j) k.av).set jj.1 jj.2)
      have i4:(k.c5 d).take (j+1)=(k.c5 d).take j++[jj]:=by
       rw[take_add_one,dm]
       rfl
      refine⟨_,_,rfl,sP.of ?_ rfl,fa.trans (kv mem_cons_self)⟩
      show jv ((k.c5 d).take (j+1)) k.av=_
      rw[i4]
      unfold jv
      rw[foldl_append]
      rfl
     ·rintro σ dQ ⟨hc,hB,rfl,kT,fa⟩
      rw[lV,take_length]at kT
      have MI:gX (jA bD aE fD) ed dQ:=fun b o aa=>fa b o fun m=>aa (by rw[mem_singleton.mp m];exact MR)
      have ai:=fL.e5 MI _ _ ai
      have aX:=kT.isOpen d
      have qQ:({ k with av:=jv (k.c5 d) k.av }:aq).isOpen d=true:=aC
      rw[qQ]at aX
      obtain⟨sq,rZ⟩:=Option.isSome_iff_exists.mp aX
      refine⟨_,rfl,c,_,_,_,rfl,rfl,aG.of ai,rfl,rfl,_,rfl,dE rfl ?_⟩
      refine⟨_,rfl,aE,rfl,.inl ⟨_,.inl kT.aF⟩,_,rfl,c,_,_,_,rfl,rfl,aG.of ai,rfl,_,Sum.inl d,sq,kT.aF,rfl,rZ,?_⟩
      have fS:=MI.trans (kv (o:=.bS (j1 (d3 fD) (Sum.inl d))) Ac)
      refine fin _ _ _ _ _ ((kT.ended d).of ?_ ?_) (zr fS) (fun b aa=>fk b (HT aa)) rfl
      ·rw[ef];exact congrArg aq.av (if_pos (e:=k) hw)
      ·rw[ef];exact congrArg aq.aK (if_pos (e:=k) hw)
    ·refine⟨_,rfl,_,rfl,b4,_,_,_,rfl,rfl,aO.of (dY _ _ fN),fh dD,rfl,_,rfl,bu (fun z=>hw (by cases z;rfl)) ?_⟩
     exact fin k fD ed _ _ fL dY fk (by rw[ef];exact if_neg hw)
  | drop d =>
   obtain⟨c,cS,c2,rfl,ai,bz,b3⟩:=f7 bL
   cases bz.str_inv
   cases b3.int_inv
   refine⟨_,rfl,c,_,_,_,rfl,rfl,aG.of ai,rfl,rfl,_,rfl,bu (by decide +kernel) ?_⟩
   cases ef:(x.a4 (.drop d)).2 with
   | num gH =>
    have dD:(((bZ ps room).says aB).map cW.v)[i]?=some (V.int gH):=by rw[dD,ef];rfl
    refine⟨_,rfl,_,rfl,b4,_,_,_,rfl,rfl,aO.of (dY _ _ fN),fh dD,_,_,_,_,rfl,.int _,ql K,_,rfl,cV ?_⟩
    exact fin k fD ed _ _ fL dY fk (by rw[ef];rfl)
   | word ww =>
    have dD:(((bZ ps room).says aB).map cW.v)[i]?=some (V.str ww):=by rw[dD,ef];rfl
    refine⟨_,rfl,_,rfl,b4,_,_,_,rfl,rfl,aO.of (dY _ _ fN),fh dD,_,_,_,_,rfl,.str _,kW K,_,rfl,el ?_⟩
    by_cases hw:ww="done"
    ·refine⟨_,rfl,_,rfl,b4,_,_,_,rfl,rfl,aO.of (dY _ _ fN),fh dD,rfl,_,rfl,dE (by rw[hw]) ?_⟩
     have dp:x.refusal (.drop d)=none:=done_none (by rw[ef,hw])
     have aC:k.isOpen d=true:=by rw[KK.isOpen];exact hW (.inr (.inr rfl)) dp
     have aX:=fL.isOpen d
     rw[aC]at aX
     obtain⟨sq,rZ⟩:=Option.isSome_iff_exists.mp aX
     refine⟨_,rfl,c,_,_,_,rfl,rfl,aG.of ai,rfl,rfl,_,rfl,bu (by decide +kernel) ?_⟩
     refine⟨_,rfl,c,_,_,_,rfl,rfl,aG.of ai,rfl,rfl,_,rfl,bu (by decide +kernel) ?_⟩
     refine⟨_,rfl,c,_,_,_,rfl,rfl,aG.of ai,rfl,rfl,_,rfl,bu (by decide +kernel) ?_⟩
     refine⟨_,rfl,c,_,_,_,rfl,rfl,aG.of ai,rfl,rfl,_,rfl,dE rfl ?_⟩
     refine⟨_,rfl,aE,rfl,.inl ⟨_,.inl fL.aF⟩,_,rfl,c,_,_,_,rfl,rfl,aG.of ai,rfl,_,Sum.inl d,sq,fL.aF,rfl,rZ,?_⟩
     refine fin _ _ _ _ _ ((fL.ended d).of ?_ ?_) (zr (kv (o:=.bS (j1 (d3 fD) (Sum.inl d))) Ac)) (fun b aa=>fk b (HT aa)) rfl
     ·rw[ef];exact congrArg aq.av (if_pos (e:=k) hw)
     ·rw[ef];exact congrArg aq.aK (if_pos (e:=k) hw)
    ·refine⟨_,rfl,_,rfl,b4,_,_,_,rfl,rfl,aO.of (dY _ _ fN),fh dD,rfl,_,rfl,bu (fun z=>hw (by cases z;rfl)) ?_⟩
     exact fin k fD ed _ _ fL dY fk (by rw[ef];exact if_neg hw)
  | look p =>
   obtain⟨c,cS,c2,rfl,ai,bz,b3⟩:=f7 bL
   cases bz.str_inv
   cases b3.int_inv
   refine⟨_,rfl,c,_,_,_,rfl,rfl,aG.of ai,rfl,rfl,_,rfl,bu (by decide +kernel) ?_⟩
   cases ef:(x.a4 (.look p)).2 with
   | num gH =>
    have dD:(((bZ ps room).says aB).map cW.v)[i]?=some (V.int gH):=by rw[dD,ef];rfl
    refine⟨_,rfl,_,rfl,b4,_,_,_,rfl,rfl,aO.of (dY _ _ fN),fh dD,_,_,_,_,rfl,.int _,ql K,_,rfl,cV ?_⟩
    exact fin k fD ed _ _ fL dY fk (by rw[ef];rfl)
   | word ww =>
    have dD:(((bZ ps room).says aB).map cW.v)[i]?=some (V.str ww):=by rw[dD,ef];rfl
    refine⟨_,rfl,_,rfl,b4,_,_,_,rfl,rfl,aO.of (dY _ _ fN),fh dD,_,_,_,_,rfl,.str _,kW K,_,rfl,el ?_⟩
    by_cases hw:ww="done"
    ·refine⟨_,rfl,_,rfl,b4,_,_,_,rfl,rfl,aO.of (dY _ _ fN),fh dD,rfl,_,rfl,dE (by rw[hw]) ?_⟩
     refine⟨_,rfl,c,_,_,_,rfl,rfl,aG.of ai,rfl,rfl,_,rfl,bu (by decide +kernel) ?_⟩
     refine⟨_,rfl,c,_,_,_,rfl,rfl,aG.of ai,rfl,rfl,_,rfl,bu (by decide +kernel) ?_⟩
     refine⟨_,rfl,c,_,_,_,rfl,rfl,aG.of ai,rfl,rfl,_,rfl,bu (by decide +kernel) ?_⟩
     refine⟨_,rfl,c,_,_,_,rfl,rfl,aG.of ai,rfl,rfl,_,rfl,bu (by decide +kernel) ?_⟩
     exact fin k fD ed _ _ fL dY fk (by rw[ef];rfl)
    ·refine⟨_,rfl,_,rfl,b4,_,_,_,rfl,rfl,aO.of (dY _ _ fN),fh dD,rfl,_,rfl,bu (fun z=>hw (by cases z;rfl)) ?_⟩
     exact fin k fD ed _ _ fL dY fk (by rw[ef];exact rfl)
  | carry p =>
   obtain⟨c,cS,c2,rfl,ai,bz,b3⟩:=f7 bL
   cases bz.str_inv
   cases b3.int_inv
   refine⟨_,rfl,c,_,_,_,rfl,rfl,aG.of ai,rfl,rfl,_,rfl,bu (by decide +kernel) ?_⟩
   cases ef:(x.a4 (.carry p)).2 with
   | num gH =>
    have dD:(((bZ ps room).says aB).map cW.v)[i]?=some (V.int gH):=by rw[dD,ef];rfl
    refine⟨_,rfl,_,rfl,b4,_,_,_,rfl,rfl,aO.of (dY _ _ fN),fh dD,_,_,_,_,rfl,.int _,ql K,_,rfl,cV ?_⟩
    exact fin k fD ed _ _ fL dY fk (by rw[ef];rfl)
   | word ww =>
    have dD:(((bZ ps room).says aB).map cW.v)[i]?=some (V.str ww):=by rw[dD,ef];rfl
    refine⟨_,rfl,_,rfl,b4,_,_,_,rfl,rfl,aO.of (dY _ _ fN),fh dD,_,_,_,_,rfl,.str _,kW K,_,rfl,el ?_⟩
    by_cases hw:ww="done"
    ·refine⟨_,rfl,_,rfl,b4,_,_,_,rfl,rfl,aO.of (dY _ _ fN),fh dD,rfl,_,rfl,dE (by rw[hw]) ?_⟩
     refine⟨_,rfl,c,_,_,_,rfl,rfl,aG.of ai,rfl,rfl,_,rfl,bu (by decide +kernel) ?_⟩
     refine⟨_,rfl,c,_,_,_,rfl,rfl,aG.of ai,rfl,rfl,_,rfl,bu (by decide +kernel) ?_⟩
     refine⟨_,rfl,c,_,_,_,rfl,rfl,aG.of ai,rfl,rfl,_,rfl,bu (by decide +kernel) ?_⟩
     refine⟨_,rfl,c,_,_,_,rfl,rfl,aG.of ai,rfl,rfl,_,rfl,bu (by decide +kernel) ?_⟩
     exact fin k fD ed _ _ fL dY fk (by rw[ef];rfl)
    ·refine⟨_,rfl,_,rfl,b4,_,_,_,rfl,rfl,aO.of (dY _ _ fN),fh dD,rfl,_,rfl,bu (fun z=>hw (by cases z;rfl)) ?_⟩
     exact fin k fD ed _ _ fL dY fk (by rw[ef];exact rfl)
  | cut =>
   obtain⟨c,cS,rfl,ai,bz⟩:=qp bL
   cases bz.str_inv
   refine⟨_,rfl,c,_,_,_,rfl,rfl,aG.of ai,rfl,rfl,_,rfl,bu (by decide +kernel) ?_⟩
   cases ef:(x.a4 (.cut)).2 with
   | num gH =>
    have dD:(((bZ ps room).says aB).map cW.v)[i]?=some (V.int gH):=by rw[dD,ef];rfl
    refine⟨_,rfl,_,rfl,b4,_,_,_,rfl,rfl,aO.of (dY _ _ fN),fh dD,_,_,_,_,rfl,.int _,ql K,_,rfl,cV ?_⟩
    exact fin k fD ed _ _ fL dY fk (by rw[ef];rfl)
   | word ww =>
    have dD:(((bZ ps room).says aB).map cW.v)[i]?=some (V.str ww):=by rw[dD,ef];rfl
    refine⟨_,rfl,_,rfl,b4,_,_,_,rfl,rfl,aO.of (dY _ _ fN),fh dD,_,_,_,_,rfl,.str _,kW K,_,rfl,el ?_⟩
    by_cases hw:ww="done"
    ·refine⟨_,rfl,_,rfl,b4,_,_,_,rfl,rfl,aO.of (dY _ _ fN),fh dD,rfl,_,rfl,dE (by rw[hw]) ?_⟩
     refine⟨_,rfl,c,_,_,_,rfl,rfl,aG.of ai,rfl,rfl,_,rfl,bu (by decide +kernel) ?_⟩
     refine⟨_,rfl,c,_,_,_,rfl,rfl,aG.of ai,rfl,rfl,_,rfl,bu (by decide +kernel) ?_⟩
     refine⟨_,rfl,c,_,_,_,rfl,rfl,aG.of ai,rfl,rfl,_,rfl,bu (by decide +kernel) ?_⟩
     refine⟨_,rfl,c,_,_,_,rfl,rfl,aG.of ai,rfl,rfl,_,rfl,bu (by decide +kernel) ?_⟩
     exact fin k fD ed _ _ fL dY fk (by rw[ef];rfl)
    ·refine⟨_,rfl,_,rfl,b4,_,_,_,rfl,rfl,aO.of (dY _ _ fN),fh dD,rfl,_,rfl,bu (fun z=>hw (by cases z;rfl)) ?_⟩
     exact fin k fD ed _ _ fL dY fk (by rw[ef];exact rfl)
 ·rintro σ dC ⟨k,fD,made,fS,gZ,hc,hB,rfl,xY,ko,fk,hm,aS,uI,KK⟩
  have uz:((us.length:Int)).toNat=aB.length:=by omega
  refine⟨_,rfl,q bD dC ko ?_⟩
  rw[aS,uz,drop_length]
  exact xY.hd
def JG:dj:=fun vs H Q _=>∃h:Int,vs=[.int h]∧∀(c:Int) (af:ao),1≤c→c≤40→bO H af→Q (.int c) af
def y9 (K:PySem.W.Frag):dj:=fun vs H Q _=>∃(a:Addr) (ns:List Int),vs=[.ref a]∧aO K H a (ns.map V.int)∧ns.length≤63∧∀af,Q (.bV true) af
theorem UO:dI oz oz (cR CV):=d2
theorem Ua (F:bW K "_law_count_by" "_law_count_by" CV f fd) (B:eY mg):br P w K mg base bX 1 f fd oz JG:=by
 refine F.ok UO (fun vs H Q E h=>?_) (fun cy A outer s H vs Q E aD h=>?_)
 ·obtain⟨h,rfl,_⟩:=h
  rfl
 obtain⟨z,rfl,q⟩:=h
 refine⟨_,(bg (c_ (bE fq (fi (au (dg ht aV (dg jw (ah 0) aV)) (au (dg ht aV (dg jw (dg u6 (ah 0) aV) aV)) aN))) (i9 IU rfl B.int zR (au (iO dJ (dg jw (dg u6 (ah 0) aV) aV) aV (cc _)) aN)) (fun _ _=>rfl)))),?_⟩
 refine⟨_,rfl,_,_,rfl,rfl,(by decide:(0:Int)<5),_,_,rfl,rfl,_,rfl,_,_,rfl,rfl,⟨by decide,by decide⟩,_,_,rfl,rfl,(by decide:(0:Int)<29),_,_,rfl,rfl,cZ,fun t aZ=>?_⟩
 refine⟨_,rfl,_,_,rfl,rfl,⟨by decide,by decide⟩,_,_,rfl,rfl,(by decide:(0:Int)<8),rfl,.inr ⟨_,rfl,Kh aR ?_ ?_ _⟩⟩
 ·exact q (1+z % 5) _ (by omega) (by omega) (bR aZ _)
 ·exact q (12+z / 200 % 29) _ (by omega) (by omega) (bR aZ _)
theorem hv:dI DS zw (cR rL):=d2
structure uG (H:ao) (ct dl:Addr) (ps:List Int) (us:List V) (aB:List b7):Prop where
 aF:H ct=some (.lst (ps.map V.int))
 eV:1≤ps.length
 es:ps.length≤100
 hd:H dl=some (.lst us)
 jL:bl H (aB.map b7.D) us
 sk:aB.length≤110
 Qw:∀e∈aB,qJ e
theorem uG.mono {H af:ao}{ct dl:Addr}{ps:List Int}{us:List V}{aB:List b7}(L:uG H ct dl ps us aB) (s:bO H af):uG af ct dl ps us aB :=
 ⟨s _ _ L.aF,L.eV,L.es,s _ _ L.hd,bl.mono s _ _ L.jL,L.sk,L.Qw⟩
theorem Uj {x y:aq}{s:bp}(h:lZ x s y):ox x.av.length s:=by
 cases h with
 | carry p aF aP aD=>exact aF
 | cut h aD=>exact h
 | put d p n aF aC aZ aD h0=>exact aF
 | dM d p n aF aC hm aD=>exact aF
 | fin d aC aD=>trivial
theorem SM {x y:aq}{l:List bp}(h:Path x l y):∀s∈l,ox x.av.length s:=by
 induction h with
 | nil x=>intro s aY;cases aY
 | cons m t cC =>
  intro s aY
  rcases mem_cons.mp aY with z | z
  ·rw[z];exact Uj m
  ·rw[←m.facts.2.1];exact cC s z
theorem Ja:∀(l:List b7) (x:aq),x.sound→x.fit→(x.run l).av.length=x.av.length∧(x.run l).room=x.room
 | [],_,_,_=>⟨rfl,rfl⟩
 | e::r,x,S,f=>by
  obtain⟨y,z,a,b,c⟩:=uZ S f e
  obtain⟨ak,az⟩:=Ja r (x.a4 e).1 (S.a4 e) (f.a4 S e)
  obtain⟨_,k1,k2,_⟩:=b.facts
  have fz:y.av.length=x.av.length∧y.room=x.room:=by rcases a with rfl | rfl <;> exact⟨rfl,rfl⟩
  have gA:(x.a4 e).1.av.length=z.av.length∧(x.a4 e).1.room=z.room:=by
   rcases c with h | h
   ·rw[h];exact⟨rfl,rfl⟩
   ·rw[h];exact⟨rfl,rfl⟩
  show ((x.a4 e).1.run r).av.length=_∧((x.a4 e).1.run r).room=_
  exact⟨by rw[ak,gA.1,k1,fz.1],by rw[az,gA.2,k2,fz.2]⟩
theorem Im:∀(l:List b7) (x:aq),x.sound→x.fit→∀row∈x.rows l,∀s∈row,ox x.av.length s
 | [],_,_,_=>fun row h=>by cases h
 | e::r,x,S,f=>fun row h s aY=>by
  obtain⟨y,z,a,b,c⟩:=uZ S f e
  have fz:y.av.length=x.av.length:=by rcases a with rfl | rfl <;> rfl
  rcases mem_cons.mp (show row∈x.row e::(x.a4 e).1.rows r from h) with ak | ak
  ·rw[ak]at aY
   rw[←fz]
   exact SM b s aY
  ·have:=Im r (x.a4 e).1 (S.a4 e) (f.a4 S e) row ak s aY
   have aH:=Ja [e] x S f
   rw[show (x.a4 e).1.av.length=x.av.length from aH.1]at this
   exact this
theorem VS {sD jS l9 hL g4 uv sC GD GG GC jR fx n1:Addr}{xO lG n5 iG hM xJ xM Q2 bS Q0 lF gC gJ:FuncData}(F:bW K "law" "law" rL f fd) (B:eY mg)
  (x5:br P w K mg base bX 1 sD xO vH (LB K)) (xS:Binds K xO vH []) (xy:keepIn K (.ref sD)=true) (ei:mg "_law_at"=some (.ref sD))
  (qf:br P w K mg base bX 1 jS lG oz JG) (qa:Binds K lG oz []) (xx:keepIn K (.ref jS)=true) (p2:mg "_law_count_by"=some (.ref jS))
  (sR:br P w K mg base bX 1 l9 n5 oz Kq) (sG:Binds K n5 oz []) (Gr:keepIn K (.ref l9)=true) (o3:mg "_law_room_of"=some (.ref l9))
  (mj:br P w K mg base bX 1 hL iG vF JC) (md:Binds K iG vF []) (xw:keepIn K (.ref hL)=true) (kj:mg "_law_pages_of"=some (.ref hL))
  (iM:br P w K mg base bX 2 g4 hM zA JF) (iH:Binds K hM zA []) (o4:keepIn K (.ref g4)=true) (hH:mg "_law_deeds"=some (.ref g4))
  (Ba:br P w K mg base bX 1 uv xJ zD JD) (A3:Binds K xJ zD []) (abh:keepIn K (.ref uv)=true) (AS:mg "_law_house_of"=some (.ref uv))
  (GE:br P w K mg base bX 5 sC xM qB HN) (GP:Binds K xM qB []) (Gv:keepIn K (.ref sC)=true) (Gp:mg "_law_answered"=some (.ref sC))
  (abV:br P w K mg base bX 9 GD Q2 zz Hy) (abz:Binds K Q2 zz []) (abf:keepIn K (.ref GD)=true) (abb:mg "strokes_of"=some (.ref GD))
  (A_:br P w K mg base bX 2 GG bS zJ JI) (A2:Binds K bS zJ []) (AW:keepIn K (.ref GG)=true) (AR:mg "_law_alike"=some (.ref GG))
  (Rd:br P w K mg base bX 2 GC Q0 zy Kr) (Q7:Binds K Q0 zy []) (QI:keepIn K (.ref GC)=true) (QA:mg "_law_replayed"=some (.ref GC))
  (qe:br P w K mg base bX 2 jR lF qA LA) (p_:Binds K lF qA []) (xr:keepIn K (.ref jR)=true) (p1:mg "up"=some (.ref jR))
  (i8:br P w K mg base bX 4 fx gC mL K1) (i5:Binds K gC mL []) (nZ:keepIn K (.ref fx)=true) (iZ:mg "_law_are_strokes"=some (.ref fx))
  (GT:br P w K mg base bX 2 n1 gJ zx Kw) (xQ:Binds K gJ zx []) (xu:keepIn K (.ref n1)=true) (q8:mg "_law_kept_by"=some (.ref n1)) :
  br P w K mg base bX 10 f fd zw (y9 K):=by
 refine F.ok hv (fun vs H Q E h=>?_) (fun cy A outer s H vs Q E aD h=>?_)
 ·obtain⟨a,ns,rfl,_⟩:=h
  rfl
 obtain⟨a,ns,rfl,l8,acZ,q⟩:=h
 have bf:=g_ aD
 obtain⟨acs,Z4,YA⟩:∃t,hC (f9 bX P w K mg base DS "law" (cR rL) f cy A outer s H E).mK ((iQ rL).drop 11) t∧∀(ct dl b4 lC:Addr) (bad:List Addr) (ps:List Int) (us lS:List V) (aB:List b7) (room:Int) (b8 iC fS gZ:Option V) (H1:ao),uG H1 ct dl ps us aB→bO H H1→aB.length≤63→0≤room→H1 b4=some (.lst (((bZ ps room).says aB).map cW.v))→H1 lC=some (.lst lS)→hu H1 bad ((bZ ps room).rows aB) lS →
   t { da:=fun _ ay=>Q .cP ay,l3:=Q } [some (.ref a),b8,some (.int ((ps.length:Nat):Int)),some (.int room),some (.ref ct),some (.ref dl),iC,some (.ref b4),fS,gZ,some (.ref lC),none,none,none,none,none,none,none,none,none,none,none] H1:=by
  refine⟨_,(bq (dc (i:=11) hv.a_ rfl (Or.inl rfl) (fi aN)) (bq (hP PassesOwn.never rfl (ku (ah 10)) (ff (i:=12) hv.a_ rfl (Or.inl rfl)) (bg (dc (i:=11) hv.a_ rfl (Or.inl rfl) (dg rD (ah 11) (ah 12))))) (bq (dc (i:=13) hv.a_ rfl (Or.inl rfl) (dg jw (dR x5 (cE aD) rfl ei xy xS .nil de (au (ah 0) (au aV aN))) (dg ht (d8 f6 rfl B.len PySem.boot_len (au (ah 11) aN)) aV))) (bq (oq (dR Rd (cE aD) rfl QA QI Q7 .nil de (au (ah 4) (au (fi aN) (au (nf pa (ah 11) nj (ni (ah 13))) aN)))) (pq rfl (ja (ff (i:=14) hv.a_ rfl (Or.inl rfl)) (ja (ff (i:=15) hv.a_ rfl (Or.inl rfl)) pd)))) (bq (dc (i:=16) hv.a_ rfl (Or.inl rfl) (i9 nd rfl B.lst iT (au (ah 14) aN))) (bq (dc (i:=17) hv.a_ rfl (Or.inl rfl) (i9 nd rfl B.lst iT (au (ah 15) aN))) (bq (dc (i:=18) hv.a_ rfl (Or.inl rfl) (dR qe (cE aD) rfl p1 xr p_ .nil de (au (ah 16) (au (ah 17) aN)))) (bq (cI (mC (jb (g8 (dR A_ (cE aD) rfl AR AW A2 .nil de (au (ah 16) (au (ah 14) aN))))) (jb (g8 (dR A_ (cE aD) rfl AR AW A2 .nil de (au (ah 17) (au (ah 15) aN)))))) (bg (c_ ir)) dk) (bq (cI (jb (g8 (dR i8 (cE aD) rfl iZ nZ i5 .nil de (au (ah 18) (au (ah 2) aN))))) (bg (c_ ir)) dk) (bq (oq (dR Rd (cE aD) rfl QA QI Q7 .nil de (au (ah 14) (au (ah 15) (au (ah 18) aN)))) (pq rfl (ja (ff (i:=19) hv.a_ rfl (Or.inl rfl)) (ja (ff (i:=20) hv.a_ rfl (Or.inl rfl)) pd)))) (bq (dc (i:=21) hv.a_ rfl (Or.inl rfl) (dR GT (cE aD) rfl q8 xu xQ .nil de (au (ah 4) (au (ah 5) (au (ah 7) (au (ah 10) (au (ah 13) aN))))))) (bg (c_ (mD (dR A_ (cE aD) rfl AR AW A2 .nil de (au (ah 19) (au (ah 21) aN))) (qu (iO (Jf (Nat.lt_of_succ_lt bf)) (ah 20) (fi aN) (cc _))))))))))))))))),?_⟩
  intro ct dl b4 lC bad ps us lS aB room b8 iC fS gZ H1 L n9 sk ly fN EU GU
  have eV:=L.eV
  have es:=L.es
  have n2:((bZ ps room).rows aB).flatten.length≤300 * aB.length:=by
   have kk:=((u3 (room:=room) L.eV L.es).run aB (by omega)).dz
   rw[Bp,zero_add]at kk
   exact kk
  refine⟨cZ,fun f0 Ar=>?_⟩
  have s2:=bR Ar (.lst [])
  have aM:(upd H1 f0 (.lst [])) f0=some (.lst []):=aR
  generalize upd H1 f0 (.lst [])=ay at s2 aM ⊢
  refine⟨_,rfl,lC,rfl,⟨lS,aO.of (s2 _ _ EU)⟩,ng (K:=K) (a:=lC) (xs:=lS) (fun i σ aT=>∃(eW:Addr) (ys:List V) (gM:Option V),σ=[some (.ref a),b8,some (.int ((ps.length:Nat):Int)),some (.int room),some (.ref ct),some (.ref dl),iC,some (.ref b4),fS,gZ,some (.ref lC),some (.ref eW),gM,none,none,none,none,none,none,none,none,none]∧bO H1 aT∧aT eW=some (.lst ys)∧bl aT ((((bZ ps room).rows aB).take i).flatten.map bp.D) ys)
   ⟨f0,[],none,rfl,s2,aM,.nil⟩ (fun i σ aT _ ⟨_,_,_,_,s3,_⟩=>aO.of (s3 _ _ EU)) ?_ ?_⟩
  ·rintro i v σ aT aX ⟨eW,ys,gM,rfl,s3,Av,bQ⟩
   obtain⟨row,XU,b,zs,rfl,_,hz,pO⟩:=GU.get aX
   have lV:ys.length=((((bZ ps room).rows aB).take i).flatten).length:=by rw[bl.length bQ,length_map]
   have aZ:(((bZ ps room).rows aB).take (i+1)).flatten=(((bZ ps room).rows aB).take i).flatten++row:=by
    rw[take_add_one,XU,List.flatten_append]
    show _++(row++[])=_
    rw[append_nil]
   have lf:=congrArg (fun l=>l.flatten.length) (List.take_append_drop (i+1) ((bZ ps room).rows aB))
   simp only[List.flatten_append,length_append]at lf
   rw[aZ,length_append]at lf
   have Y0:zs.length=row.length:=by rw[bl.length pO,length_map]
   refine⟨_,rfl,_,rfl,eW,b,ys,zs,rfl,rfl,Av,s3 _ _ hz,le_of_lt (ih (by omega)),fun u gW=>?_⟩
   have s4:=bR gW (.lst (ys++zs))
   refine⟨u,ys++zs,_,rfl,s3.trans s4,aR,?_⟩
   rw[aZ,map_append]
   exact (bl.mono s4 _ _ bQ).append (bl.mono (s3.trans s4) _ _ pO)
  ·rintro σ aT ⟨eW,ys,gM,rfl,s3,Av,bQ⟩
   rw[←GU.1,take_length]at bQ
   have lV:ys.length=((bZ ps room).rows aB).flatten.length:=by rw[bl.length bQ,length_map]
   have fm:=n9.trans s3
   refine⟨_,rfl,a,ns,2,rfl,fm.seq l8,by decide,fun cell=>⟨_,rfl,eW,ys,rfl,.inl (aO.of Av),_,_,rfl,rfl,_,_,rfl,rfl,(by omega:(0:Int)<(ys.length:Int)+1),?_⟩⟩
   obtain⟨stop,Z_,iz⟩:∃n:Nat,cell % ((ys.length:Int)+1)=(n:Int)∧n≤ys.length:=⟨(cell % ((ys.length:Int)+1)).toNat,by have:=Int.emod_nonneg cell (b:=(ys.length:Int)+1) (by omega);omega,by have:=Int.emod_lt_of_pos cell (b:=(ys.length:Int)+1) (by omega);omega⟩
   dsimp only
   rw[Z_]
   refine⟨_,rfl,cZ,fun fu ZI=>?_⟩
   have s4:=bR ZI (.lst [])
   have b1:(upd aT fu (.lst [])) fu=some (.lst []):=aR
   generalize upd aT fu (.lst [])=cO at s4 b1 ⊢
   refine⟨_,rfl,_,rfl,_,rfl,eW,ys,rfl,aO.of (s4 _ _ Av),fun u gW=>?_⟩
   rw[Wf]
   have s5:=bR gW (.lst (ys.take stop))
   have et:(upd cO u (.lst (ys.take stop))) u=some (.lst (ys.take stop)):=aR
   generalize upd cO u (.lst (ys.take stop))=dC at s5 et ⊢
   have PZ:bO H1 dC:=s3.trans (s4.trans s5)
   have l3:bl dC ((((bZ ps room).rows aB).flatten.take stop).map bp.D) (ys.take stop):=by
    rw[List.map_take]
    exact Io stop (bl.mono (s4.trans s5) _ _ bQ)
   have fin:∀s∈((bZ ps room).rows aB).flatten.take stop,ox ps.length s:=fun s aY=>by
    obtain⟨row,aD,jE⟩:=List.mem_flatten.mp (mem_of_mem_take aY)
    exact Im aB (bZ ps room) (BU ps room) (CA ly) row aD s jE
   have Y6:(((bZ ps room).rows aB).flatten.take stop).length≤300 * aB.length:=by rw[length_take];omega
   have AJ:sJ ((((bZ ps room).rows aB).flatten.take stop).foldl bp.jG ps) ((((bZ ps room).rows aB).flatten.take stop).foldl bp.gV []) (keptBy stop aB (bZ ps room) (bZ ps room) 0) :=
    J2 stop aB (bZ ps room) (bZ ps room) 0 (K9 ps room) ⟨rfl,fun d l fH m=>(by cases m),fun d l q e m=>(by cases m)⟩ (BU ps room) (CA ly) (zero_le _)
   have Nt:((((bZ ps room).rows aB).flatten.take stop).foldl bp.gV []).length≤300:=by
    have ak:=IF aB (bZ ps room) stop (BU ps room) (CA ly)
    have lI:(bZ ps room).bound=0:=rfl
    have fu:(bZ ps room).log=[]:=rfl
    have abx:(bZ ps room).av.length=ps.length:=rfl
    rw[fu,lI,abx,length_nil]at ak
    omega
   have Ei:∀ln∈(((bZ ps room).rows aB).flatten.take stop).foldl bp.gV [],ln.ok ps.length:=fun ln fO=>by
    rcases Jl _ _ _ fO with z | z
    ·cases z
    ·exact fin _ z
   have lcs:((((bZ ps room).rows aB).flatten.take stop).foldl bp.jG ps).length=ps.length:=J9 _ _
   generalize ((bZ ps room).rows aB).flatten.take stop=fla at l3 fin Y6 AJ Nt Ei lcs
   refine⟨ct,fu,u,ps,[],ys.take stop,[],fla,rfl,PZ _ _ L.aF,s5 _ _ b1,f3.nil,et,l3,fin,by omega,by rw[length_nil];omega,fun r mZ sy zs ed l1 eG cp du jq _ _=>?_⟩
   refine⟨r,_,rfl,aG.of eG,rfl,_,_,rfl,_,_,rfl,rfl,?_⟩
   generalize fla.foldl bp.jG ps=cs at cp AJ lcs
   generalize fla.foldl bp.gV []=dX at jq AJ Nt Ei
   have jo:=jq.1
   have aam:=PZ.trans l1
   refine⟨_,rfl,mZ,_,rfl,.inl (aO.of cp),fun e4 OI=>?_⟩
   have hE:=bR OI (.lst (cs.map V.int))
   have n4:(upd ed e4 (.lst (cs.map V.int))) e4=some (.lst (cs.map V.int)):=aR
   generalize upd ed e4 (.lst (cs.map V.int))=dQ at hE n4 ⊢
   refine⟨_,rfl,sy,_,rfl,.inl (aO.of (hE _ _ du)),fun fK E0=>?_⟩
   have jK:=bR E0 (.lst zs)
   have kR:(upd dQ fK (.lst zs)) fK=some (.lst zs):=aR
   generalize upd dQ fK (.lst zs)=hl at jK kR ⊢
   have MD:=hE.trans jK
   refine⟨_,rfl,_,rfl,e4,fK,cs,zs,dX,rfl,jK _ _ n4,by omega,kR,jq.mono fun _ _ q=>q.mono MD.e5,by omega,by rw[lcs];exact Ei,fun AY bM ws GZ Gi _ QY lk hw l2=>?_⟩
   have gI:=AJ.uniq ⟨lk,hw⟩
   have zY:=MD.trans Gi
   have Y5:gT GZ dX zs:=jq.mono fun _ _ q=>q.mono zY.e5
   obtain⟨uB,xd,sj⟩:=Iq GZ cs
   obtain⟨dx,bH,Gb⟩:=yO (H:=GZ) (c:=6) (xs:=zs) fun v aX=>by
    obtain⟨ln,_,h⟩:=Y5.mem aX
    exact h.line.rep
   refine⟨_,rfl,_,rfl,_,_,.lst uB,rfl,.px ((jK.trans Gi) _ _ n4) xd,.px (zY _ _ cp) xd,by rw[tl];omega,fun adS vW=>⟨_,rfl,cV ?_⟩⟩
   refine⟨_,rfl,_,rfl,_,_,.lst dx,rfl,.px ((Gi.trans vW) _ _ kR) (bH.mono vW _ _),.px ((zY.trans vW) _ _ du) (bH.mono vW _ _),by rw[tl];omega,fun Fq vV=>⟨_,rfl,cV ?_⟩⟩
   have DN:=vW.trans vV
   have Mh:∀s∈lR cs bM dX.length,ox ps.length s:=fun s aY=>by
    rw[←lcs]
    exact Tq lk aY
   refine⟨_,rfl,_,rfl,AY,ws,_,ps.length,rfl,DN _ _ QY,bl.mono DN _ _ l2,Mh,fun aat tP=>⟨_,rfl,cV ?_⟩⟩
   have DM:=DN.trans tP
   have zq:=zY.trans DM
   have acN:=UE cs bM dX.length
   refine⟨_,rfl,_,rfl,_,rfl,mZ,sy,AY,cs,zs,ws,dX,_,rfl,zq _ _ cp,zq _ _ du,jq.mono fun _ _ q=>q.mono zq.e5,DM _ _ QY,bl.mono DM _ _ l2,by rw[lcs];exact Mh,by omega,by omega,fun b3 acy Af vs aas zZ aaa PE aad Nu _ _=>?_⟩
   refine⟨b3,_,rfl,aG.of aaa,rfl,_,_,rfl,_,_,rfl,rfl,?_⟩
   rw[UG lk]at PE
   rw[UD]at Nu
   have ev:vs=[]:=List.eq_nil_of_length_eq_zero (by rw[←Nu.1];rfl)
   subst ev
   have Az:=aam.trans (zq.trans zZ)
   have wX:=L.mono Az
   refine⟨_,rfl,_,rfl,_,rfl,_,rfl,_,rfl,ct,dl,b4,lC,bad,ps,room,us,lS,aB,stop,rfl,wX.aF,wX.hd,wX.jL,Az _ _ fN,Az _ _ EU,GU.same Az,sk,eV,es,ly,fun p4 P7 qK lY=>?_⟩
   rw[←gI]at lY
   obtain⟨jU,um,Qm⟩:=Iq P7 bM
   refine⟨_,rfl,_,rfl,_,_,.lst jU,rfl,.px (qK _ _ PE) um,.px lY um,by rw[tl];omega,fun adR Yv=>⟨_,rfl,el ?_⟩⟩
   refine⟨_,rfl,cZ,fun v aX=>?_⟩
   have Yu:=bR aX (.lst [])
   exact⟨Af,v,_,rfl,rfl,Yu _ _ (Yv _ _ (qK _ _ aad)),aR,q _⟩
 obtain⟨Qu,gz,kN⟩:∃t,hC (f9 bX P w K mg base DS "law" (cR rL) f cy A outer s H E).mK ((iQ rL).drop 5) t∧∀(ct dl:Addr) (ps:List Int) (us:List V) (aB:List b7) (room:Int) (b8:Option V) (H1:ao),uG H1 ct dl ps us aB→bO H H1→aB.length≤63→0≤room →
   t { da:=fun _ ay=>Q .cP ay,l3:=Q } [some (.ref a),b8,some (.int ((ps.length:Nat):Int)),some (.int room),some (.ref ct),some (.ref dl),none,none,none,none,none,none,none,none,none,none,none,none,none,none,none,none] H1:=by
  refine⟨_,(bq (dc (i:=6) hv.a_ rfl (Or.inl rfl) (dR Ba (cE aD) rfl AS abh A3 .nil de (au (ah 4) (au (ah 3) aN)))) (bq (dc (i:=7) hv.a_ rfl (Or.inl rfl) (fi aN)) (bq (dc (i:=8) hv.a_ rfl (Or.inl rfl) (fi aN)) (bq (hP PassesOwn.never rfl (ku (ah 5)) (ff (i:=9) hv.a_ rfl (Or.inl rfl)) (bq (mA bf (ah 6) bB (fi aN) rfl) (bq (dH (iS plainAttrs_list PySem.F.slot_list_append PySem.F.type_list_append ie (ah 7) (au (dR GE (cE aD) rfl Gp Gv GP .nil de (au (ah 6) (au (ah 9) aN))) aN))) (bg (dH (iS plainAttrs_list PySem.F.slot_list_append PySem.F.type_list_append ie (ah 8) (au (eT bf (ah 6) bB (fun _ _=>rfl)) aN))))))) (bq (dc (i:=10) hv.a_ rfl (Or.inl rfl) (dR abV (cE aD) rfl abb abf abz .nil de (au (i9 nd rfl B.lst iT (au (ah 4) aN)) (au (ah 3) (au (i9 nd rfl B.lst iT (au (ah 5) aN)) aN))))) (bq (cI (mC (jb (g8 (d8 ju rfl B.jf jc (au (ah 10) (au (iP (v:=.ty "list") rfl B.lst iT rfl) aN))))) (jb (g8 (dR A_ (cE aD) rfl AR AW A2 .nil de (au (ah 10) (au (ah 8) aN)))))) (bg (c_ ir)) dk) Z4)))))),?_⟩
  intro ct dl ps us aB room b8 H1 L n9 sk ly
  have tT:us.length=aB.length:=by rw[bl.length L.jL,length_map]
  refine⟨_,rfl,_,rfl,ct,ps,room,rfl,L.aF,fun h ce aj lo pu st ay s2 bC fr=>?_⟩
  refine⟨cZ,fun b4 zM=>?_⟩
  have s3:=bR zM (.lst [])
  have bT:(upd ay b4 (.lst [])) b4=some (.lst []):=aR
  have YH:∀b,b∈own h ce aj pu st []→b≠b4:=fun b aa z=>bC.there zM (by rw[←z];exact aa)
  have XJ:lo≠b4:=by
   obtain⟨xs,du,_⟩:=bC.aE
   exact cB du zM
  have Yo:H1 b4=none:=s2.free zM
  have cj:=bC.same s3
  generalize upd ay b4 (.lst [])=aT at s3 bT cj ⊢
  refine⟨cZ,fun gB wF=>?_⟩
  have s4:=bR wF (.lst [])
  have b1:(upd aT gB (.lst [])) gB=some (.lst []):=aR
  have YN:∀b,b∈own h ce aj pu st []→b≠gB:=fun b aa z=>cj.there wF (by rw[←z];exact aa)
  have XK:lo≠gB:=by
   obtain⟨xs,du,_⟩:=cj.aE
   exact cB du wF
  have aai:H1 gB=none:=(s2.trans s3).free wF
  have ML:b4≠gB:=cB bT wF
  have dV:=cj.same s4
  have hq:=s2.trans (s3.trans s4)
  have oX:=s4 _ _ bT
  generalize upd aT gB (.lst [])=cO at s4 b1 dV hq oX ⊢
  refine⟨_,rfl,dl,rfl,⟨us,aO.of (hq _ _ L.hd)⟩,ng (K:=K) (a:=dl) (xs:=us) (fun i σ cO=>∃(lo st:Addr) (pl:List (Int × Addr)) (xs:List V) (e8:Option V),σ=[some (.ref a),b8,some (.int ((ps.length:Nat):Int)),some (.int room),some (.ref ct),some (.ref dl),some (.ref h),some (.ref b4),some (.ref gB),e8,none,none,none,none,none,none,none,none,none,none,none,none]∧bw cO h ce aj lo pu st pl ((bZ ps room).ha (aB.take i))∧bO H1 cO∧(∀b,b∈own h ce aj pu st pl→H1 b=none∧b≠gB∧b≠b4)∧lo≠gB∧lo≠b4∧cO gB=some (.lst xs)∧cO b4=some (.lst (((bZ ps room).says (aB.take i)).map cW.v))∧hu cO (b4::gB::pD h ce aj pu pl) ((bZ ps room).rows (aB.take i)) xs∧i≤aB.length)
   ⟨lo,st,[],[],none,rfl,dV,hq,fun b aa=>⟨fr b aa,YN b aa,YH b aa⟩,XK,XJ,b1,oX,.nil,zero_le _⟩ (fun i σ cO _ ⟨_,_,_,_,_,_,_,hq,_⟩=>aO.of (hq _ _ L.hd)) ?_ ?_⟩
  ·rintro i v σ cO aX ⟨mP,pK,lT,xs,e8,rfl,dV,hq,oL,kG,MN,b1,oX,sO,aL⟩
   have jg:i<us.length:=(List.getElem?_eq_some_iff.mp aX).1
   obtain⟨e,he,re⟩:=o_ L.jL aX
   have aZ:aB.take (i+1)=aB.take i++[e]:=by rw[take_add_one,he];rfl
   have lt:(aB.take i).length=i:=by rw[length_take];omega
   have jr:=(u3 (room:=room) L.eV L.es).ha (aB.take i) (by omega)
   rw[lt,zero_add]at jr
   have Nr:xs.length=i:=by rw[←sO.1,ye,lt]
   have acO:(((bZ ps room).says (aB.take i)).map cW.v).length=i:=by rw[length_map,Hz,lt]
   refine⟨cZ,fun u gW=>?_⟩
   have s5:=bR gW (.lst [])
   have et:(upd cO u (.lst [])) u=some (.lst []):=aR
   generalize upd cO u (.lst [])=dC at s5 et ⊢
   have gc:=dV.same s5
   have l6:u∉own h ce aj pu pK lT:=dV.there gW
   have nul:u≠mP:=by
    obtain⟨xs,du,_⟩:=dV.aE
    exact (cB du gW).symm
   refine⟨_,rfl,h,_,rfl,gc.TU _,?_⟩
   have sW:=gc.Xh et l6 nul
   have LW:u≠gB:=(cB b1 gW).symm
   have LV:u≠b4:=(cB oX gW).symm
   have ZC:gB≠h:=fun z=>(oL h (bw.o2 ..)).2.1 z.symm
   have Zy:b4≠h:=fun z=>(oL h (bw.o2 ..)).2.2 z.symm
   have h0:H1 h=none:=(oL h (bw.o2 ..)).1
   have Ag:eh cO (upd dC h (.bS (putK (aS ce aj mP pu pK ((bZ ps room).ha (aB.take i)).room ((bZ ps room).ha (aB.take i)).begun) (Sum.inr "strokes") (.ref u)))):=fun b ys q=>by
    rw[aA (dv (s5 _ _ q) gc.dt (fun z=>nomatch z))]
    exact s5 _ _ q
   have v7:∀b o,b≠h→cO b=some o→(upd dC h (.bS (putK (aS ce aj mP pu pK ((bZ ps room).ha (aB.take i)).room ((bZ ps room).ha (aB.take i)).begun) (Sum.inr "strokes") (.ref u)))) b=some o:=fun b o aa e=>by
    rw[aA aa]
    exact s5 _ _ e
   generalize upd dC h (.bS (putK (aS ce aj mP pu pK ((bZ ps room).ha (aB.take i)).room ((bZ ps room).ha (aB.take i)).begun) (Sum.inr "strokes") (.ref u)))=ed at sW Ag v7 ⊢
   have dY:bO H1 ed:=fun b o e=>v7 b o (fun z=>by rw[z,h0]at e;cases e) (hq b o e)
   have mc:=v7 gB _ ZC b1
   have uk:=v7 b4 _ Zy oX
   have fk:∀b,b∈own h ce aj pu u lT→H1 b=none∧b≠gB∧b≠b4:=fun b aa=>by
    rcases SN (st:=pK) aa with z | z
    ·rw[z];exact⟨hq.free gW,LW,LV⟩
    ·exact oL b z
   have GS:hu ed (b4::gB::own h ce aj pu u lT) ((bZ ps room).rows (aB.take i)) xs:=sO.move (fun b o aa e=>v7 b o (fun z=>aa (mem_cons_of_mem _ (mem_cons_of_mem _ (by rw[z];exact mem_cons_self)))) e) Ag fun b aa=>by
    rcases mem_cons.mp aa with z | z
    ·exact .inl (by rw[z];exact mem_cons_self)
    rcases mem_cons.mp z with z | z
    ·exact .inl (by rw[z];exact mem_cons_of_mem _ mem_cons_self)
    ·rcases TX z with y | y
     ·exact .inr (by rw[y];exact gW)
     ·exact .inl (mem_cons_of_mem _ (mem_cons_of_mem _ y))
   refine⟨_,rfl,.inl ⟨rfl,_,aO.of uk⟩,_,rfl,_,rfl,h,ce,aj,mP,pu,u,lT,_,v,e,i,rfl,sW,Rep.mono dY _ _ re,jr.bare,by omega,fun EC tR dQ ab8 fa g0=>?_⟩
   have DV:gB∉own h ce aj pu u lT:=fun z=>(fk gB z).2.1 rfl
   have XN:b4∉own h ce aj pu u lT:=fun z=>(fk b4 z).2.2 rfl
   have n4:=fa.1 gB _ DV mc
   have uh:=fa.1 b4 _ XN uk
   have abH:bO H1 dQ:=fun b o e=>fa.1 b o (fun z=>by rw[(fk b z).1]at e;cases e) (dY b o e)
   have EZ:∀b,b∈own h ce aj pu u tR→H1 b=none∧b≠gB∧b≠b4:=fun b aa=>by
    rcases g0 b aa with z | z
    ·exact fk b z
    ·exact⟨dY.free z,(fun y=>by rw[y,mc]at z;cases z),(fun y=>by rw[y,uk]at z;cases z)⟩
   have k8:EC≠gB:=by
    rcases fa.2 with z | z | z
    ·rw[z];exact kG
    ·exact (fk _ z).2.1
    ·exact fun y=>by rw[y,mc]at z;cases z
   have MM:EC≠b4:=by
    rcases fa.2 with z | z | z
    ·rw[z];exact MN
    ·exact (fk _ z).2.2
    ·exact fun y=>by rw[y,uk]at z;cases z
   have En:gB∉own h ce aj pu u tR:=fun z=>(EZ gB z).2.1 rfl
   have z9:b4∉own h ce aj pu u tR:=fun z=>(EZ b4 z).2.2 rfl
   have abJ:hu dQ (b4::gB::pD h ce aj pu tR) ((bZ ps room).rows (aB.take i)) xs:=GS.move (fun b o aa e=>fa.1 b o (fun z=>aa (mem_cons_of_mem _ (mem_cons_of_mem _ z))) e) (sW.e5 fa.1) fun b aa=>by
    rcases mem_cons.mp aa with z | z
    ·exact .inl (by rw[z];exact mem_cons_self)
    rcases mem_cons.mp z with z | z
    ·exact .inl (by rw[z];exact mem_cons_of_mem _ mem_cons_self)
    ·rcases g0 b (TY z) with y | y
     ·exact .inl (mem_cons_of_mem _ (mem_cons_of_mem _ y))
     ·exact .inr y
   refine⟨b4,_,_,rfl,rfl,uh,oo (by omega),?_⟩
   have Og:eh dQ (upd dQ b4 (.lst ((((bZ ps room).says (aB.take i)).map cW.v)++[(((bZ ps room).ha (aB.take i)).bare.a4 e).2.v]))):=fun b ys e=>by
    rw[aA (dv e uh (fun z=>nomatch z))]
    exact e
   have x8:=ab8.yw z9 MM.symm uh (o:=.lst ((((bZ ps room).says (aB.take i)).map cW.v)++[(((bZ ps room).ha (aB.take i)).bare.a4 e).2.v]))
   have sN:bO H1 (upd dQ b4 (.lst ((((bZ ps room).says (aB.take i)).map cW.v)++[(((bZ ps room).ha (aB.take i)).bare.a4 e).2.v]))):=abH.ig Yo
   have Ra:hu (upd dQ b4 (.lst ((((bZ ps room).says (aB.take i)).map cW.v)++[(((bZ ps room).ha (aB.take i)).bare.a4 e).2.v]))) (b4::gB::pD h ce aj pu tR) ((bZ ps room).rows (aB.take i)) xs:=abJ.move (fun b o aa e=>by
    rw[aA (fun z=>aa (by rw[z];exact mem_cons_self))]
    exact e) Og fun b aa=>.inl aa
   have kR:(upd dQ b4 (.lst ((((bZ ps room).says (aB.take i)).map cW.v)++[(((bZ ps room).ha (aB.take i)).bare.a4 e).2.v]))) gB=some (.lst xs):=by rw[aA ML.symm];exact n4
   have Qt:(upd dQ b4 (.lst ((((bZ ps room).says (aB.take i)).map cW.v)++[(((bZ ps room).ha (aB.take i)).bare.a4 e).2.v]))) b4=some (.lst (((bZ ps room).says (aB.take (i+1))).map cW.v)):=by
    rw[aR,aZ,Ik,map_append,SG]
    rfl
   generalize upd dQ b4 (.lst ((((bZ ps room).says (aB.take i)).map cW.v)++[(((bZ ps room).ha (aB.take i)).bare.a4 e).2.v]))=hl at x8 sN Ra kR Qt Og ⊢
   obtain⟨Yi,g1,g2⟩:=x8.fQ
   have g2:bl hl ((((bZ ps room).run (aB.take i)).row e).map bp.D) Yi:=by
    rw[←TA]
    exact g2
   have Y8:eh hl (upd hl gB (.lst (xs++[.ref u]))):=fun b ys e=>by
    rw[aA (dv e kR (fun z=>nomatch z))]
    exact e
   refine⟨_,rfl,.inl ⟨rfl,_,aO.of kR⟩,_,rfl,h,_,rfl,x8.Jp,gB,xs,_,rfl,rfl,kR,oo (by omega),EC,u,tR,xs++[.ref u],_,rfl,?_,sN.ig aai,EZ,k8,MM,aR,by rw[aA ML];exact Qt,?_,by omega⟩
   ·rw[aZ,Il]
    exact x8.yw En k8.symm kR
   ·rw[aZ,BQ]
    refine (Ra.snoc (fun z=>?_) g1 g2).move (fun b o aa e=>?_) Y8 fun b aa=>.inl aa
    ·rcases mem_cons.mp z with y | y
     ·exact LV y
     rcases mem_cons.mp y with y | y
     ·exact LW y
     ·exact x8.UL y
    ·rw[aA (fun z=>aa (by rw[z];exact mem_cons_of_mem _ mem_cons_self))]
     exact e
  ·rintro σ cO ⟨mP,pK,lT,xs,e8,rfl,dV,hq,oL,kG,MN,b1,oX,sO,_⟩
   rw[tT,take_length]at sO oX
   have uH:=L.mono hq
   refine⟨_,rfl,ct,_,rfl,.inl (aO.of uH.aF),fun iI t4=>?_⟩
   have vV:=bR t4 (.lst (ps.map V.int))
   have oQ:(upd cO iI (.lst (ps.map V.int))) iI=some (.lst (ps.map V.int)):=aR
   generalize upd cO iI (.lst (ps.map V.int))=Fq at vV oQ ⊢
   have P5:=uH.mono vV
   refine⟨_,rfl,_,rfl,dl,_,rfl,.inl (aO.of P5.hd),fun qb oL=>?_⟩
   have tP:=bR oL (.lst us)
   have ud:(upd Fq qb (.lst us)) qb=some (.lst us):=aR
   generalize upd Fq qb (.lst us)=aat at tP ud ⊢
   have ue:=P5.mono tP
   refine⟨iI,qb,ps,room,us,aB,rfl,tP _ _ oQ,ue.eV,ue.es,ud,ue.jL,ue.sk,ue.Qw,fun lx bad lS aas zZ _ nO P0 _=>?_⟩
   have zT:=vV.trans (tP.trans zZ)
   have wX:=ue.mono zZ
   have Gd:=I4 ((bZ ps room).rows aB)
   have kk:=((u3 (room:=room) L.eV L.es).run aB (by omega)).dz
   rw[Bp,zero_add]at kk
   have n2:((bZ ps room).rows aB).flatten.length≤300 * aB.length:=kk
   rw[ye]at Gd
   refine⟨_,rfl,_,_,_,_,rfl,.lst nO,ya K,_,rfl,cV ?_⟩
   refine⟨_,rfl,_,rfl,_,_,.lst (((bZ ps room).rows aB).map DO),rfl,.px nO P0.LK,.px (zT _ _ b1) (sO.same zT).LK,by rw[tl];omega,fun P7 qK=>⟨_,rfl,cV ?_⟩⟩
   have aan:=hq.trans (zT.trans qK)
   exact YA ct dl b4 lx bad ps us lS aB room _ _ _ _ _ (wX.mono qK) (n9.trans aan) sk ly ((zT.trans qK) _ _ oX) (qK _ _ nO) (P0.same qK)
 refine⟨_,(bq (dc (i:=1) hv.a_ rfl (Or.inl rfl) (dR x5 (cE aD) rfl ei xy xS .nil de (au (ah 0) (au aV aN)))) (bq (dc (i:=2) hv.a_ rfl (Or.inl rfl) (dR qf (cE aD) rfl p2 xx qa .nil de (au (ah 1) aN))) (bq (dc (i:=3) hv.a_ rfl (Or.inl rfl) (dR sR (cE aD) rfl o3 Gr sG .nil de (au (ah 1) aN))) (bq (dc (i:=4) hv.a_ rfl (Or.inl rfl) (dR mj (cE aD) rfl kj xw md .nil de (au (dR x5 (cE aD) rfl ei xy xS .nil de (au (ah 0) (au aV aN))) (au (ah 2) aN)))) (bq (dc (i:=5) hv.a_ rfl (Or.inl rfl) (dR iM (cE aD) rfl hH o4 iH .nil de (au (nf pa (ah 0) (ni aV) nj) (au (ah 2) aN)))) gz))))),?_⟩
 refine⟨_,rfl,a,ns,0,rfl,l8,by decide,fun hd=>?_⟩
 refine⟨_,rfl,hd,rfl,fun c H1 As cJ s1=>?_⟩
 refine⟨_,rfl,hd,rfl,fun room ay ly s2=>?_⟩
 have ia:=s1.trans s2
 refine⟨_,rfl,a,ns,1,rfl,ia.seq l8,by decide,fun cell=>⟨_,rfl,cell,c,rfl,As,by omega,fun ct ps aT s3 fy bT q9=>?_⟩⟩
 have fm:=ia.trans s3
 refine⟨_,rfl,_,rfl,a,_,rfl,fm.seq l8,fun cN ak=>?_⟩
 have PG:(upd aT cN (.lst (eX (ns.map V.int) (some 3) none))) cN=some (.lst ((ns.drop 3).map V.int)):=by
  rw[aR]
  exact congrArg (fun l=>some (fp.lst l)) (Uv ns 3)
 have s4:=bR ak (.lst (eX (ns.map V.int) (some 3) none))
 generalize upd aT cN (.lst (eX (ns.map V.int) (some 3) none))=cO at s4 PG ⊢
 have gV:(ns.drop 3).length≤63:=by rw[length_drop];omega
 refine⟨_,rfl,cN,ns.drop 3,c,rfl,PG,gV,As,cJ,fun dl us aB dQ s5 eG p0 Gd h1=>?_⟩
 have PY:=s4.trans s5
 have abR:uG dQ ct dl ps us aB:=⟨PY _ _ bT,by omega,by omega,eG,p0,by omega,h1⟩
 have aby:c=((ps.length:Nat):Int):=by omega
 rw[aby]
 exact kN ct dl ps us aB room _ _ abR (fm.trans PY) Gd ly
end
theorem Wb {K:PySem.W.Frag}{mg:Str→Option Value}{a b c d:Addr}(E:sf K mg a b c d) (oQ:exmOne K (.ref a) (.ref a)=some true) (ud:exmOne K (.ref a) (.ref b)=some false) (nO:exmOne K (.ref a) (.ref c)=some false) (lY:exmOne K (.ref a) (.ref d)=some false)
  (PN:exmOne K (.ref b) (.ref a)=some false) (uc:exmOne K (.ref b) (.ref b)=some true) (r9:exmOne K (.ref b) (.ref c)=some false) (oO:exmOne K (.ref b) (.ref d)=some false)
  (PL:exmOne K (.ref c) (.ref a)=some false) (PK:exmOne K (.ref c) (.ref b)=some false) (wQ:exmOne K (.ref c) (.ref c)=some true) (oN:exmOne K (.ref c) (.ref d)=some false)
  (PJ:exmOne K (.ref d) (.ref a)=some false) (PI:exmOne K (.ref d) (.ref b)=some false) (PH:exmOne K (.ref d) (.ref c)=some false) (Ax:exmOne K (.ref d) (.ref d)=some true):vS K mg a b c d:=by
 have ne:∀{x y:Addr},exmOne K (.ref x) (.ref x)=some true→exmOne K (.ref x) (.ref y)=some false→x≠y:=fun ak az z=>by
  subst z
  rw[ak]at az
  cases az
 have t:∀{x:Addr},exmOne K (.ref x) (.ref x)=some true→exmOne K (.ref x) (.ref x)=some (x == x):=fun h=>by rw[h,beq_self_eq_true]
 have f:∀{x y:Addr},x≠y→exmOne K (.ref x) (.ref y)=some false→exmOne K (.ref x) (.ref y)=some (x == y):=fun n h=>by rw[h,beq_eq_false_iff_ne.mpr n]
 refine⟨E,fun p aF q bo=>?_,?_⟩
 ·simp only[mem_cons,not_mem_nil,or_false]at aF bo
  rcases aF with rfl | rfl | rfl | rfl <;> rcases bo with rfl | rfl | rfl | rfl
  ·exact t oQ
  ·exact f (ne oQ ud) ud
  ·exact f (ne oQ nO) nO
  ·exact f (ne oQ lY) lY
  ·exact f (ne uc PN) PN
  ·exact t uc
  ·exact f (ne uc r9) r9
  ·exact f (ne uc oO) oO
  ·exact f (ne wQ PL) PL
  ·exact f (ne wQ PK) PK
  ·exact t wQ
  ·exact f (ne wQ oN) oN
  ·exact f (ne Ax PJ) PJ
  ·exact f (ne Ax PI) PI
  ·exact f (ne Ax PH) PH
  ·exact t Ax
 ·simp[ne oQ ud,ne oQ nO,ne oQ lY,ne uc r9,ne uc oO,ne wQ oN]
theorem lp {K:PySem.W.Frag}{x q:Str}{st:Stmt}{f:Addr}{fd:FuncData}{a0:Str}(F:bW K x q st f fd) (h:∀eV es kh l5 kO mZ lu,bindArgs (PySem.W.fnOf x q (ph st) (iQ st) (cR st) .none eV es kh l5 kO mZ) ⟨[lu],[]⟩=pure [(a0,lu)]:=by intros;rfl):Binds K fd [a0] [] :=
 F.binds fun _ _ _ _ _ _ us aE=>match us,aE with | [_],_=>h ..
theorem ey {K:PySem.W.Frag}{x q:Str}{st:Stmt}{f:Addr}{fd:FuncData}{a0 a1:Str}(F:bW K x q st f fd) (h:∀eV es kh l5 kO mZ lu gG,bindArgs (PySem.W.fnOf x q (ph st) (iQ st) (cR st) .none eV es kh l5 kO mZ) ⟨[lu,gG],[]⟩=pure [(a0,lu),(a1,gG)]:=by intros;rfl):Binds K fd [a0,a1] [] :=
 F.binds fun _ _ _ _ _ _ us aE=>match us,aE with | [_,_],_=>h ..
theorem qZ {K:PySem.W.Frag}{x q:Str}{st:Stmt}{f:Addr}{fd:FuncData}{a0 a1 a2:Str}(F:bW K x q st f fd) (h:∀eV es kh l5 kO mZ lu gG gu,bindArgs (PySem.W.fnOf x q (ph st) (iQ st) (cR st) .none eV es kh l5 kO mZ) ⟨[lu,gG,gu],[]⟩=pure [(a0,lu),(a1,gG),(a2,gu)]:=by intros;rfl):Binds K fd [a0,a1,a2] [] :=
 F.binds fun _ _ _ _ _ _ us aE=>match us,aE with | [_,_,_],_=>h ..
theorem sa {K:PySem.W.Frag}{x q:Str}{st:Stmt}{f:Addr}{fd:FuncData}{a0 a1 a2 kS:Str}(F:bW K x q st f fd) (h:∀eV es kh l5 kO mZ lu gG gu w9,bindArgs (PySem.W.fnOf x q (ph st) (iQ st) (cR st) .none eV es kh l5 kO mZ) ⟨[lu,gG,gu,w9],[]⟩=pure [(a0,lu),(a1,gG),(a2,gu),(kS,w9)]:=by intros;rfl):Binds K fd [a0,a1,a2,kS] [] :=
 F.binds fun _ _ _ _ _ _ us aE=>match us,aE with | [_,_,_,_],_=>h ..
theorem aal {K:PySem.W.Frag}{x q:Str}{st:Stmt}{f:Addr}{fd:FuncData}{a0 a1 a2 kS rg:Str}(F:bW K x q st f fd) (h:∀eV es kh l5 kO mZ lu gG gu w9 Qq,bindArgs (PySem.W.fnOf x q (ph st) (iQ st) (cR st) .none eV es kh l5 kO mZ) ⟨[lu,gG,gu,w9,Qq],[]⟩=pure [(a0,lu),(a1,gG),(a2,gu),(kS,w9),(rg,Qq)]:=by intros;rfl):Binds K fd [a0,a1,a2,kS,rg] [] :=
 F.binds fun _ _ _ _ _ _ us aE=>match us,aE with | [_,_,_,_,_],_=>h ..
theorem all_mk {P:Program}{w:World}{K:PySem.W.Frag}{mg:Str→Option Value}{fU fY d7 i7 iJ hN i6 f1 f2 fy f4 gk QX QW f8 QV PA Pz Py Px Pw Pu Pr Pq Pp Po Pn Pk Pj Ph Pg Pf Pe Pd Pc Pb Pa O_ O9 O8 O7 O6 O5 O4 O3 O2 O1 O0 OZ OY OX OW OV OU OT OS OR OQ OP OO:Addr}(ZS:mg "law"=some (.ref fU))
  (PX:mg "Cellar"=some (.ref fY))
  (PW:mg "House"=some (.ref d7))
  (PV:mg "NoDealing"=some (.ref i7))
  (PU:mg "NoPage"=some (.ref iJ))
  (PT:mg "Taken"=some (.ref hN))
  (PS:mg "NoRoom"=some (.ref i6))
  (cn:Meth K fY "__init__" f1)
  (gy:∃d,bW K "__init__" "Cellar.__init__" CX f1 d)
  (cu:Meth K fY "do_stroke" f2)
  (iE:∃d,bW K "do_stroke" "Cellar.do_stroke" Eb f2 d)
  (fb:Meth K d7 "__init__" fy)
  (p3:∃d,bW K "__init__" "House.__init__" CS fy d)
  (gj:Meth K d7 "begin" f4)
  (l7:∃d,bW K "begin" "House.begin" CZ f4 d)
  (i0:Meth K d7 "put" gk)
  (m5:∃d,bW K "put" "House.put" DH gk d)
  (xq:Meth K d7 "end" QX)
  (sy:∃d,bW K "end" "House.end" DJ QX d)
  (QC:Meth K d7 "drop" QW)
  (QH:∃d,bW K "drop" "House.drop" Dj QW d)
  (QB:Meth K d7 "look" f8)
  (QG:∃d,bW K "look" "House.look" Df f8 d)
  (Gq:Meth K d7 "carry" QV)
  (QF:∃d,bW K "carry" "House.carry" CW QV d)
  (Ez:Meth K d7 "cut" PA)
  (Of:∃d,bW K "cut" "House.cut" DK PA d)
  (Ae:Meth K d7 "ask_dealing" Pz)
  (Oe:∃d,bW K "ask_dealing" "House.ask_dealing" Dp Pz d)
  (Ad:Meth K d7 "ask_page" Py)
  (Od:∃d,bW K "ask_page" "House.ask_page" Dm Py d)
  (Nq:Meth K d7 "ask_free" Px)
  (Af:∃d,bW K "ask_free" "House.ask_free" Dn Px d)
  (Ey:Meth K d7 "ask_room" Pw)
  (Oc:∃d,bW K "ask_room" "House.ask_room" Dl Pw d)
  (Np:Meth K d7 "has_room" Pu)
  (Ob:∃d,bW K "has_room" "House.has_room" Dh Pu d)
  (Nn:Meth K d7 "make_room" Pr)
  (Oa:∃d,bW K "make_room" "House.make_room" CP Pr d)
  (Ex:Meth K d7 "write_put" Pq)
  (N_:∃d,bW K "write_put" "House.write_put" Cn Pq d)
  (wh:Meth K d7 "make_stroke" Pp)
  (N9:∃d,bW K "make_stroke" "House.make_stroke" CO Pp d)
  (Nm:mg "wanted"=some (.ref Po))
  (N8:∃d,bW K "wanted" "wanted" Dd Po d)
  (Nl:mg "up"=some (.ref Pn))
  (N7:∃d,bW K "up" "up" Ea Pn d)
  (Nk:mg "needed_from"=some (.ref Pk))
  (N6:∃d,bW K "needed_from" "needed_from" CN Pk d)
  (Nj:mg "last_put_places"=some (.ref Pj))
  (N5:∃d,bW K "last_put_places" "last_put_places" CQ Pj d)
  (Ni:mg "strokes_of"=some (.ref Ph))
  (N4:∃d,bW K "strokes_of" "strokes_of" BA Ph d)
  (Nh:mg "answer"=some (.ref Pg))
  (N3:∃d,bW K "answer" "answer" yN Pg d)
  (Ng:mg "do_deed"=some (.ref Pf))
  (N2:∃d,bW K "do_deed" "do_deed" Cs Pf d)
  (Nf:mg "_law_draw"=some (.ref Pe))
  (N1:∃d,bW K "_law_draw" "_law_draw" Dk Pe d)
  (wg:mg "_law_whole"=some (.ref Pd))
  (NZ:∃d,bW K "_law_whole" "_law_whole" vf Pd d)
  (Nd:mg "_law_at"=some (.ref Pc))
  (NY:∃d,bW K "_law_at" "_law_at" Ec Pc d)
  (Nc:mg "_law_alike"=some (.ref Pb))
  (NX:∃d,bW K "_law_alike" "_law_alike" C0 Pb d)
  (Nb:mg "_law_one_stroke"=some (.ref Pa))
  (NW:∃d,bW K "_law_one_stroke" "_law_one_stroke" DI Pa d)
  (Na:mg "_law_replayed"=some (.ref O_))
  (NV:∃d,bW K "_law_replayed" "_law_replayed" DG O_ d)
  (M_:mg "_law_is_line"=some (.ref O9))
  (NU:∃d,bW K "_law_is_line" "_law_is_line" Cr O9 d)
  (M9:mg "_law_is_stroke"=some (.ref O8))
  (NT:∃d,bW K "_law_is_stroke" "_law_is_stroke" BN O8 d)
  (M8:mg "_law_are_strokes"=some (.ref O7))
  (NS:∃d,bW K "_law_are_strokes" "_law_are_strokes" DL O7 d)
  (M7:mg "_law_deeds"=some (.ref O6))
  (NR:∃d,bW K "_law_deeds" "_law_deeds" kx O6 d)
  (M6:mg "_law_pages_of"=some (.ref O5))
  (NQ:∃d,bW K "_law_pages_of" "_law_pages_of" CM O5 d)
  (M5:mg "_law_room_of"=some (.ref O4))
  (NP:∃d,bW K "_law_room_of" "_law_room_of" De O4 d)
  (M4:mg "_law_taker"=some (.ref O3))
  (NO:∃d,bW K "_law_taker" "_law_taker" CK O3 d)
  (M3:mg "_law_refusal"=some (.ref O2))
  (NN:∃d,bW K "_law_refusal" "_law_refusal" B0 O2 d)
  (M1:mg "_law_bound"=some (.ref O1))
  (NL:∃d,bW K "_law_bound" "_law_bound" CY O1 d)
  (M0:mg "_law_put_again"=some (.ref O0))
  (NK:∃d,bW K "_law_put_again" "_law_put_again" C1 O0 d)
  (MZ:mg "_law_needed"=some (.ref OZ))
  (NJ:∃d,bW K "_law_needed" "_law_needed" Cp OZ d)
  (MY:mg "_law_house_of"=some (.ref OY))
  (NI:∃d,bW K "_law_house_of" "_law_house_of" CR OY d)
  (we:mg "_law_stroke_in"=some (.ref OX))
  (NH:∃d,bW K "_law_stroke_in" "_law_stroke_in" Co OX d)
  (Ew:mg "_law_cut_in"=some (.ref OW))
  (NG:∃d,bW K "_law_cut_in" "_law_cut_in" CU OW d)
  (Eu:mg "_law_carry_in"=some (.ref OV))
  (NF:∃d,bW K "_law_carry_in" "_law_carry_in" B1 OV d)
  (MX:mg "_law_full"=some (.ref OU))
  (ND:∃d,bW K "_law_full" "_law_full" Di OU d)
  (Et:mg "_law_put_in"=some (.ref OT))
  (NC:∃d,bW K "_law_put_in" "_law_put_in" CL OT d)
  (MW:mg "_law_end_in"=some (.ref OS))
  (NB:∃d,bW K "_law_end_in" "_law_end_in" CT OS d)
  (MV:mg "_law_answered"=some (.ref OR))
  (Nz:∃d,bW K "_law_answered" "_law_answered" BO OR d)
  (MU:mg "_law_kept_by"=some (.ref OQ))
  (Ny:∃d,bW K "_law_kept_by" "_law_kept_by" Dg OQ d)
  (MT:mg "_law_count_by"=some (.ref OP))
  (Nx:∃d,bW K "_law_count_by" "_law_count_by" CV OP d)
  (MS:mg "law"=some (.ref OO))
  (Nv:∃d,bW K "law" "law" rL OO d)
  (LR:PySem.W.plainGet K fY Str.empty=true)
  (Mc:PySem.W.hasDictIn K fY=true)
  (LP:PySem.W.plainOver K fY=true)
  (LJ:findIn K (.ref fY) "__setattr__"=some (some (.builtin "object.__setattr__")))
  (L5:PySem.W.makesIn K fY=true)
  (L7:keepIn K (.ref fY)=true)
  (IE:findIn K (.ref fY) "pages"=some none)
  (JY:findIn K (.ref fY) "log"=some none)
  (LQ:PySem.W.plainGet K d7 Str.empty=true)
  (Mb:PySem.W.hasDictIn K d7=true)
  (LO:PySem.W.plainOver K d7=true)
  (LI:findIn K (.ref d7) "__setattr__"=some (some (.builtin "object.__setattr__")))
  (L4:PySem.W.makesIn K d7=true)
  (L6:keepIn K (.ref d7)=true)
  (HV:findIn K (.ref d7) "cellar"=some none)
  (Jk:findIn K (.ref d7) "desk"=some none)
  (Ji:findIn K (.ref d7) "room"=some none)
  (HC:findIn K (.ref d7) "strokes"=some none)
  (HW:findIn K (.ref d7) "begins"=some none)
  (Jj:findIn K (.ref d7) "puts"=some none)
  (HU:findIn K (.ref d7) "takers"=some none)
  (ID:findIn K (.ref d7) "bound"=some none)
  (Ms:excIn K i7 q1 "ValueError.__new__"=true)
  (Mr:excIn K iJ q1 "ValueError.__new__"=true)
  (Mq:excIn K hN q1 "ValueError.__new__"=true)
  (Mp:excIn K i6 q1 "ValueError.__new__"=true)
  (Lr:exmOne K (.ref i7) (.ref i7)=some true)
  (Lq:exmOne K (.ref i7) (.ref iJ)=some false)
  (Lp:exmOne K (.ref i7) (.ref hN)=some false)
  (Lo:exmOne K (.ref i7) (.ref i6)=some false)
  (Ln:exmOne K (.ref iJ) (.ref i7)=some false)
  (Lm:exmOne K (.ref iJ) (.ref iJ)=some true)
  (Ll:exmOne K (.ref iJ) (.ref hN)=some false)
  (Lk:exmOne K (.ref iJ) (.ref i6)=some false)
  (Lj:exmOne K (.ref hN) (.ref i7)=some false)
  (Li:exmOne K (.ref hN) (.ref iJ)=some false)
  (Lh:exmOne K (.ref hN) (.ref hN)=some true)
  (Lg:exmOne K (.ref hN) (.ref i6)=some false)
  (Lf:exmOne K (.ref i6) (.ref i7)=some false)
  (Le:exmOne K (.ref i6) (.ref iJ)=some false)
  (Ld:exmOne K (.ref i6) (.ref hN)=some false)
  (Lc:exmOne K (.ref i6) (.ref i6)=some true)
  (Kd:mg "list"=none)
  (Jx:mg "tuple"=none)
  (KZ:mg "int"=none)
  (KX:mg "str"=none)
  (Kf:mg "bool"=none)
  (Hf:mg "isinstance"=none)
  (KY:mg "len"=none)
  (Jy:mg "range"=none)
  (Ht:mg "enumerate"=none)
  (Ke:mg "dict"=none)
  (KW:mg "sum"=none)
  (Bw:mg "reversed"=none)
  : ∃fd:FuncData,(∀(s:Shared) (v:Value),BindsTo s fd ⟨[v],[]⟩ [("_law_script",v)])∧∀base:Heap,K.In base→base.Ns mainGlobals mg→br P w K mg base bX 10 fU fd zw (y9 K):=by
 cases ZS.symm.trans MS
 obtain⟨fV,Rn⟩:=gy
 obtain⟨e2,Rm⟩:=iE
 obtain⟨ad4,Rl⟩:=p3
 obtain⟨Q6,Rk⟩:=l7
 obtain⟨A0,Rj⟩:=m5
 obtain⟨ad3,G1⟩:=sy
 obtain⟨ad2,Ri⟩:=QH
 obtain⟨ad1,Rh⟩:=QG
 obtain⟨ad0,G0⟩:=QF
 obtain⟨adO,Ga⟩:=Of
 obtain⟨adN,AF⟩:=Oe
 obtain⟨adM,AE⟩:=Od
 obtain⟨adL,Qh⟩:=Af
 obtain⟨adK,F_⟩:=Oc
 obtain⟨adJ,Qg⟩:=Ob
 obtain⟨adI,Qf⟩:=Oa
 obtain⟨adH,F9⟩:=N_
 obtain⟨adG,w4⟩:=N9
 obtain⟨adF,F8⟩:=N8
 obtain⟨adE,F7⟩:=N7
 obtain⟨adD,F6⟩:=N6
 obtain⟨adC,F5⟩:=N5
 obtain⟨adB,F4⟩:=N4
 obtain⟨adA,F3⟩:=N3
 obtain⟨adz,F2⟩:=N2
 obtain⟨ady,F1⟩:=N1
 obtain⟨adx,oT⟩:=NZ
 obtain⟨adw,F0⟩:=NY
 obtain⟨adv,FZ⟩:=NX
 obtain⟨adu,FY⟩:=NW
 obtain⟨adt,FW⟩:=NV
 obtain⟨ads,FU⟩:=NU
 obtain⟨adq,FT⟩:=NT
 obtain⟨adp,FQ⟩:=NS
 obtain⟨ado,FP⟩:=NR
 obtain⟨adn,FO⟩:=NQ
 obtain⟨adm,FN⟩:=NP
 obtain⟨adl,FL⟩:=NO
 obtain⟨adk,FJ⟩:=NN
 obtain⟨adj,FI⟩:=NL
 obtain⟨adi,FH⟩:=NK
 obtain⟨adh,FG⟩:=NJ
 obtain⟨adg,FF⟩:=NI
 obtain⟨adf,pV⟩:=NH
 obtain⟨ade,w3⟩:=NG
 obtain⟨adb,w2⟩:=NF
 obtain⟨ada,FE⟩:=ND
 obtain⟨ac9,w1⟩:=NC
 obtain⟨ac8,FD⟩:=NB
 obtain⟨ac7,FA⟩:=Nz
 obtain⟨ac6,Fz⟩:=Ny
 obtain⟨ac5,Fy⟩:=Nx
 obtain⟨aak,Qe⟩:=Nv
 have sb:qo K mg fY:=⟨⟨LR,Mc,LP,LJ⟩,IE,JY,  PX⟩
 have aaq:uF K fY f1:=⟨L5,cn.1,cn.2,L7⟩
 have ji:iN K mg d7:=⟨⟨LQ,Mb,LO,LI⟩,HV,Jk,Ji,HC,HW,Jj,HU,ID,  PW⟩
 have aap:uF K d7 fy:=⟨L4,fb.1,fb.2,L6⟩
 have xU:sf K mg i7 iJ hN i6:=⟨PV,PU,PT,PS,Ms,Mr,Mq,Mp⟩
 have abF:vS K mg i7 iJ hN i6:=Wb xU Lr Lq Lp Lo Ln Lm Ll Lk Lj Li Lh Lg Lf Le Ld Lc
 have B:eY mg:=⟨Kd,Jx,KZ,KX,Kf,Hf,KY,Jy,Ht,Ke⟩
 have od:zU mg:=⟨KW,Bw⟩
 obtain⟨_,_,_,_,_,_,_,_,_,e,_,_⟩:=Qe.ex
 refine⟨aak,fun s v=>by rw[e];exact .of_eq rfl,fun base _ _=>?_⟩
 have aaP:=U_ (P:=P) (w:=w) (mg:=mg) (base:=base) F1
 have Ft:=TZ (P:=P) (w:=w) (mg:=mg) (base:=base) oT B
 have aaO:=WK (P:=P) (w:=w) (mg:=mg) (base:=base) F0 B
 have aaB:=Uh (P:=P) (w:=w) (mg:=mg) (base:=base) FH
 have AB:=SP (P:=P) (w:=w) (mg:=mg) (base:=base) pV B
 have aaC:=Ud (P:=P) (w:=w) (mg:=mg) (base:=base) FI B od
 have aaE:=T3 (P:=P) (w:=w) (mg:=mg) (base:=base) FL B
 have aaz:=T6 (P:=P) (w:=w) (mg:=mg) (base:=base) FF B
 have aaG:=T5 (P:=P) (w:=w) (mg:=mg) (base:=base) FO B
 have aaF:=U3 (P:=P) (w:=w) (mg:=mg) (base:=base) FN B
 have ab4:br P w K mg base _ _ _ _ _ (Cg fY):=Ub Rn B sb
 have ab3:br P w K mg base _ _ _ _ _ (DD fY):=WI Rm sb
 have aaY:br P w K mg base _ _ _ _ _ (CG fY d7):=WH Qg B ji sb
 have Fv:br P w K mg base _ _ _ _ _ (vc fY d7 iJ):=WM AE B ji xU
 have Fw:br P w K mg base _ _ _ _ _ (vd fY d7 i7):=WO AF ji xU
 have aaZ:br P w K mg base _ _ _ _ _ (CI fY d7 hN):=WN Qh ji xU
 have aaT:=U5 (P:=P) (w:=w) (mg:=mg) (base:=base) F5 B
 have aaW:=U1 (P:=P) (w:=w) (mg:=mg) (base:=base) F8 B od
 have aaM:=VR (P:=P) (w:=w) (mg:=mg) (base:=base) FY
 have aau:=Ua (P:=P) (w:=w) (mg:=mg) (base:=base) Fy B
 have aaN:=Ug FZ B Ft (lp oT) oT.bD wg
 have aaA:=SQ FG B aaB (ey FH) FH.bD M0
 have P9:=Sd w2 B AB (ey pV) pV.bD we
 have P8:=T4 w1 B AB (ey pV) pV.bD we
 have aaD:=Sb FJ B aaE (ey FL) FL.bD M4
 have AD:br P w K mg base _ _ _ _ _ (tF fY d7):=WE w4 ji sb ab3 (ey Rm) cu
 have aaU:=U8 F6 B aaT (lp F5) F5.bD Nj
 have abY:br P w K mg base _ _ _ _ _ (CF fY d7 i7 iJ hN i6):=U4 Rh ji Fv (ey AE) Ad
 have aaH:=T9 FP B aaP (qZ F1) F1.bD Nf
 have aaV:=WD F7 B aaW (ey F8) F8.bD Nm
 have aaK:=SR FU B Ft (lp oT) oT.bD wg
 have aaL:=VP FW aaM (qZ FY) FY.bD Nb
 have aav:=U6 (P:=P) (w:=w) (mg:=mg) (base:=base) Fz B oT (lp oT) oT.bD wg
 have P_:=T_ w3 B aaA (sa FG) FG.bD MZ AB (ey pV) pV.bD we
 have aax:=T8 FD B od AB (ey pV) pV.bD we P8 (sa w1) w1.bD Et
 have Qa:br P w K mg base _ _ _ _ _ (zp fY d7):=WC F9 ji AD (ey w4) wh
 have Qd:br P w K mg base _ _ _ _ _ (za fY d7):=VU Ga B ji sb AD (ey w4) wh aaU (sa F6) F6.bD Nk
 have Rf:br P w K mg base _ _ _ _ _ (yM fY d7 iJ):=Uc G0 ji sb AD (ey w4) wh Fv (ey AE) Ad
 have Rg:br P w K mg base _ _ _ _ _ (y_ fY d7 i7 iJ hN i6):=VT G1 B ji Fw (ey AF) Ae AD (ey w4) wh
 have ab2:br P w K mg base _ _ _ _ _ (Ce fY d7):=T7 Rl B ji sb aaq ab4 (qZ Rn)
 have aaJ:=RV FT B Ft (lp oT) oT.bD wg aaK (ey FU) FU.bD M_
 have aay:=U7 FE B aaC (lp FI) FI.bD M1 P9 (ey w2) w2.bD Eu P_ (lp w3) w3.bD Ew
 have aaX:br P w K mg base _ _ _ _ _ (Cd fY d7):=WG Qf B ji Rf (ey G0) Gq Qd (lp Ga) Ez
 have abZ:br P w K mg base _ _ _ _ _ (CH fY d7 i7 iJ hN i6):=U9 Ri B Bw ji Fw (ey AF) Ae Qa (sa F9) Ex Rg (ey G1) xq
 have aaI:=VV FQ B aaJ (ey FT) FT.bD M9
 have aaw:=RW FA B aay (ey FE) FE.bD MX aaD (qZ FJ) FJ.bD M3 P8 (sa w1) w1.bD Et aax (ey FD) FD.bD MW P9 (ey w2) w2.bD Eu P_ (lp w3) w3.bD Ew
 have Qc:br P w K mg base _ _ _ _ _ (yR fY d7 i6):=WL F_ ji xU aaY (ey Qg) Np aaX (lp Qf) Nn
 have ab1:br P w K mg base _ _ _ _ _ (Ci fY d7 i7 iJ hN i6):=Ue Rk ji Qc (ey F_) Ey
 have ab0:br P w K mg base _ _ _ _ _ (Dc fY d7 i7 iJ hN i6):=VQ Rj ji Fw (ey AF) Ae Fv (ey AE) Ad aaZ (qZ Qh) Nq Qc (ey F_) Ey Qa (sa F9) Ex
 have aaQ:br P w K mg base _ _ _ _ _ (BY fY d7 i7 iJ hN i6):=WJ F2 ji ab1 (lp Rk) gj abY (ey Rh) QB ab0 (sa Rj) i0 Rg (ey G1) xq abZ (ey Ri) QC Rf (ey G0) Gq Qd (lp Ga) Ez
 have aaR:br P w K mg base _ _ _ _ _ (BZ fY d7):=SS F3 abF aaQ (ey F2) F2.bD Ng
 have aaS:=RM F4 B ji aap ab2 (qZ Rl) aaR (ey F3) F3.bD Nh
 exact VS Qe B aaO (ey F0) F0.bD Nd aau (lp Fy) Fy.bD MT aaF (lp FN) FN.bD M5 aaG (ey FO) FO.bD M6 aaH (ey FP) FP.bD M7 aaz (ey FF) FF.bD MY aaw (ey FA) FA.bD MV aaS (qZ F4) F4.bD Ni aaN (ey FZ) FZ.bD Nc aaL (qZ FW) FW.bD Na aaV (ey F7) F7.bD Nl aaI (ey FQ) FQ.bD M8 aav (aal Fz) Fz.bD MU
theorem walk {l:PySem.W.OpenLaw}{q:Program}{loose:List Str}{uD:(Str→Option Value)→Heap→Prop}{ri:World→Heap→Prop}{d:DefRec}{K:Params→PySem.W.Frag}(aP:l.most=some 63) (wH:d.params.defaults=[])
  (Gy:∀(w:World) (h:Heap),ri w h→(K w.params).In h)
  (F:∀(w:World) (mg:Str→Option Value) (fU:Addr) (h:Heap),(K w.params).In h→h.Ns mainGlobals mg→mg d.name=some (.ref fU) →
   ∃fd:FuncData,(∀(s:Shared) (u:Value),BindsTo s fd ⟨[u],[]⟩ [("_law_script",u)])∧∀base:Heap,(K w.params).In base→base.Ns mainGlobals mg→br l.prog w (K w.params) mg base bX 10 fU fd zw (y9 (K w.params))) :
  PySem.W.WalkO q loose uD ri l.row.toRowW d [] (fun f vs=>PySem.call f vs) :=
 L2.UC (n:=63) (k:=10) (x:="_law_script") (fe:=fun _=>bX) (sp:=fun w=>y9 (K w.params)) aP (by decide) wH ⟨rfl,by decide,by decide⟩ Gy F (fun _ _ a ns aE xD l8=>⟨a,ns,rfl,l8,aE,fun _=>rfl⟩) fun _ _ _ _ _ z=>z
end Fl
open PySem PySem.W PyProof.Rows
namespace PySem.W.Fast
def tw10651724044031192199:=0
def tw16148577017515483420:=0
def tw1059460065740333218:=0
def tw16005285727777548890:=0
def tw7901280085360895558:=0
def tw90287784368406346:=0
def tw11212521638978567500:=0
def tw2624582350332491853:=0
def tw16171413082371709101:=0
def tw8644170776046336798:=0
def tw16483399758718117531:=0
def tw18372102165796118625:=0
def tw10547519695676325182:=0
def tw10659967368011052625:=0
def tw3826121356079332238:=0
def tw4895870148526761026:=0
def tw13827677574603353071:=0
def tw3719304059254701237:=0
def tw16665793605764865022:=0
def tw11524941599388381979:=0
def tw14521225622974923334:=0
def tw16043023711901463139:=0
def tw13886804233144086570:=0
def tw3413119564298865575:=0
def tw14484179468406625854:=0
def tw1809463410960400343:=0
def tw1827066283497001520:=0
def tw14033452757547001992:=0
def tw9267403859476269721:=0
def tw9056411498359760587:=0
def tw16840901591622593006:=0
def tw4365707011247448834:=0
def tw12407760489918221410:=0
def tw2761444610933618132:=0
def tw1805861777361719428:=0
def tw12732544898150881662:=0
def tw13612357890473286757:=0
def tw482329205933495962:=0
def tw8822489494814724639:=0
def tw4798203324776526968:=0
def tw3444371813170887809:=0
def tw2118573788638734171:=0
def tw7791821489694062734:=0
def tw6624234985527654108:=0
def tw5031311235353654416:=0
def tw9918512321416264412:=0
def tw6992077463902407671:=0
def tw12583167920961049180:=0
def tw10500876091041637190:=0
def tw14312121479715754759:=0
def tw6318201983049660753:=0
def tw12995507557665706016:=0
def tw16903136008225937963:=0
def tw11196749708696018967:=0
def tw11679415375922793320:=0
def tw5395808914341810076:=0
def tw18411479635581462714:=0
def tw17873545709987077237:=0
def tw6008222916481583261:=0
def tw6809703608582890017:=0
def tw3046268826952759239:=0
def tw9109040640303920074:=0
def tw393247918037619962:=0
def tw13539334152847052687:=0
def tw12788169428542034716:=0
def tw11104430345551265234:=0
def tw9609730943783528465:=0
def tw1883628334653402609:=0
def tw3580629392622106661:=0
def tw7801237053297773270:=0
def tw16823809312868274078:=0
def tw17820842734631254261:=0
def tw1357752591916432319:=0
def tw4796712553708041513:=0
def tw1544103234443603897:=0
def tw13755084024441890486:=0
def tw18376993681613514197:=0
def tw11875778121163968714:=0
def tw11081534804216901733:=0
def tw16273181094876994818:=0
def tw18288892523543216106:=0
def tw5047310511847738620:=0
def tw6771633953448752404:=0
def tw12631801976190232641:=0
def tw11694507202724191015:=0
def tw11471537665349327730:=0
def tw2065169293181480250:=0
def tw6635122544660594221:=0
def tw1982249931605774952:=0
def tw18325521550797736825:=0
def tw11618098252309965938:=0
def tw18193562588797511847:=0
def tw7222852585556213316:=0
def tw6403764026928137308:=0
def tw12483702056537075356:=0
def tw5356706946615047531:=0
def tw3688555621062398763:=0
def tw2088333925886397656:=0
def tw441941846227824494:=0
def tw9347637403103956487:=0
def tw11712607699694353036:=0
def tw15056871167780587495:=0
def tw11171809962049324361:=0
def tw3161150634130059837:=0
def tw4512928047137891508:=0
def tw559780165488110679:=0
def tw8976486835266075818:=0
def tw2693279088637823558:=0
def tw1643627793772737343:=0
def tw3882355234869074184:=0
def tw9877173719366941667:=0
def tw15029507149009180889:=0
def tw6933376114529279084:=0
def tw17378027086486939508:=0
def tw8166969126731362258:=0
def tw15998154127129749329:=0
def tw2962517128503142478:=0
def tw4573500345157471466:=0
def tw12703085107705587396:=0
def tw179728622268346663:=0
def tw195529138690558565:=0
def tw684376022970275524:=0
def tw6032614967676125608:=0
def tw5302351889965869412:=0
def tw12423551368399770713:=0
def tw6566549345642796803:=0
def tw5125479034218390619:=0
def tw10828071021614921253:=0
def tw17212752516244474794:=0
def tw13580424132603912428:=0
def tw11888814051418477521:=0
def tw2058694718794877447:=0
def tw4232036361642662410:=0
def tw14367978068818399034:=0
def tw17107637306177314571:=0
def tw25008570143452540:=0
def tw10975489470680120172:=0
def tw4300739675771142243:=0
def tw15541414443004041155:=0
def tw14867998777179791715:=0
def tw14245546385575998214:=0
def tw16618058918862483903:=0
def tw6924327428139117075:=0
def tw8400074583816286558:=0
def tw2457176001386951339:=0
def tw13999823375558456946:=0
def tw6670334439553661167:=0
def tw14071912232825557683:=0
def tw11655508842647837348:=0
def tw9810746722642726483:=0
def tw12731022479789130485:=0
def tw12372428936159459955:=0
def tw8260669229291790969:=0
def tw15906684479212002694:=0
def tw16530890122006332408:=0
def tw3977227823923937807:=0
def tw14784992966871764882:=0
def tw6220086212428446081:=0
def tw11392634681505373203:=0
def tw15972629602769352955:=0
def tw15761063209174101036:=0
def tw6463498359192276859:=0
def tw5335377276604849125:=0
def tw14112159642779092671:=0
def tw6715633211163681433:=0
def tw18039984750495711916:=0
def tw18239235455555198829:=0
def tw14076777815582442698:=0
def tw1032337454306882947:=0
def tw1819202042801655450:=0
def tw6113477137973441392:=0
def tw8314537255861655379:=0
def tw1046544296928477674:=0
def tw16765458485270151752:=0
def tw11611612259598488113:=0
def tw4132362304220104535:=0
def tw6888997249555877595:=0
def tw17205575345914351376:=0
def tw14333388658649140337:=0
def tw13721053074991664590:=0
def tw8700315199211812400:=0
def tw11437311280867276968:=0
def tw3662461645694814408:=0
def tw2545143105306588079:=0
def tw13780058235683348567:=0
def tw13257935074792266476:=0
def tw12571292690434848454:=0
def tw12168812004062262336:=0
def tw12282605985175084182:=0
def tw6606987461619333222:=0
def tw10963753731784036114:=0
def tw6946289069441979575:=0
def tw6270882655007075057:=0
def tw4295778016716608462:=0
def tw2228208539443204403:=0
def tw8802651018530852194:=0
def tw11200060399477871815:=0
def tw6900172858778141781:=0
def tw11092320950627923431:=0
def tw8783592152090133675:=0
def tw3764213952641625241:=0
def tw1586003162763403325:=0
def tw10450861019691107817:=0
def tw16956302479580719333:=0
def tw6836592597857517106:=0
def tw1198409345754957639:=0
def tw3445391372043194689:=0
def tw6177967559987355823:=0
def tw10511837002429528008:=0
def tw13851634652598970896:=0
def tw12916075885749271613:=0
def tw5091084317374265965:=0
def tw8998305799827787508:=0
def tw1203542353404387795:=0
def tw2985104226458629510:=0
def tw5004240935781821216:=0
def tw10016579314624101592:=0
def tw5037482656157770418:=0
def tw8555467678211952394:=0
def tw1313580769601737244:=0
def tw2718675173273900419:=0
def tw7685402901192359314:=0
def tw5218611689238773968:=0
def tw16019291801692248827:=0
def tw12945528287673565771:=0
def tw14743522467391068473:=0
def tw9941591100228420138:=0
def tw283552328142795654:=0
def tw9668465138571966438:=0
def tw6371116628387200067:=0
def tw2460242969834318196:=0
def tw13895946980161597781:=0
def tw14297522422596311476:=0
def tw11525895336077567989:=0
def tw3218958135610675451:=0
def tw13884901827403575455:=0
def tw8937925329841508663:=0
def tw7164108086297816366:=0
def tw5649047861831606572:=0
def tw18231260705909450475:=0
def tw18146963363894190090:=0
def tw10855313161181391938:=0
def tw15412762583938635388:=0
def tw1002969936955366437:=0
def tw6071555306756706952:=0
def tw4308588255917261648:=0
def tw5981306804964408026:=0
def tw1666361328771726578:=0
def tw16690924672629180212:=0
def tw15653865313354107382:=0
def tw6081248472530153496:=0
def tw9341661539774211210:=0
def tw6570695804244208862:=0
def tw4504435081128470098:=0
def tw9433225248147023150:=0
def tw14210433072795739988:=0
def tw64999972216675415:=0
def tw6463285242694405875:=0
def tw4250983250645469083:=0
def tw93536061425011094:=0
def tw16005518481033320799:=0
def tw51021483910348361:=0
def tw6105843637437958659:=0
def tw18356096963232278807:=0
def tw5631049247375094672:=0
def tw1639344374008400064:=0
def tw1009569399874276099:=0
def tw4501610899299184673:=0
def tw17161890404331312499:=0
def tw12904129002090363527:=0
def tw7674710844825954585:=0
def tw13131135712645265519:=0
def tw981446807906366671:=0
def tw13045939541547855610:=0
def tw17697007586196666457:=0
def tw8539362170920215450:=0
def tw10533097395281774604:=0
def tw9654698857034666406:=0
def tw17548277172790106138:=0
def tw3443134181366390735:=0
def tw13444226743352683916:=0
def tw2692553038846082921:=0
def tw11260463562572948115:=0
def tw10051191771440693317:=0
def tw16975519064827792095:=0
def tw2469130242955366955:=0
def tw7597295661668245125:=0
def tw8589552414096811408:=0
def tw13159769023246034493:=0
def tw16427312182103074059:=0
def tw9461009750182658234:=0
def tw6915365902230875355:=0
def tw16518573666129526779:=0
def tw12332852770911563226:=0
def tw17449194454124280865:=0
def tw17341030551395082325:=0
def tw7064703195140058235:=0
def tw3765699933762244508:=0
def tw13662980158830746822:=0
def tw7708582892958281048:=0
def tw6785796326710596668:=0
def tw13987907278981403014:=0
def tw6165923376990116432:=0
def tw9076555590656058258:=0
def tw7603947929173606383:=0
def tw4615354784839034039:=0
def tw3554940977048544903:=0
def tw2738734844191953316:=0
def tw14303408505679879316:=0
def tw1076740086908636576:=0
def tw1931179450792694662:=0
def tw9588654626050027611:=0
def tw15917764564488781031:=0
def tw14644820803526838340:=0
def tw1889688427437416376:=0
def tw11219657703672064751:=0
def tw4384262969944212466:=0
def tw7087105860396702195:=0
def tw3402770431172038065:=0
def tw16548854603546824699:=0
def tw18403102927485243115:=0
def tw1520387200626058937:=0
def tw2424281437986449255:=0
def tw15423081428445897104:=0
def tw587942665235535720:=0
def tw7508734584879856109:=0
def tw4146153038987286942:=0
def tw6606553738293224727:=0
def tw7529561051412075170:=0
def tw13372717658644908394:=0
def tw11915981604846678317:=0
def tw77072308730805712:=0
def tw9603412812642180045:=0
def tw14820050963338638527:=0
def tw13842288886508576125:=0
def tw7867002750697952002:=0
def tw17160963792905922344:=0
def tw4237182402282445899:=0
def tw6051868549984128432:=0
def tw9928910780482882409:=0
def tw17287767882075791391:=0
def tw6356210156729155770:=0
def tw1424592885795127029:=0
def tw299009971765032641:=0
def tw13614243771954852561:=0
def tw7402684562415448585:=0
def tw16888723435582441571:=0
def tw13023705977293072161:=0
def tw13472326306694465732:=0
def tw5715571092055352114:=0
def tw12022073048394509958:=0
def tw15854069843710033655:=0
def tw7863237445156673751:=0
def tw17043070888108717434:=0
def tw14426288941689047315:=0
def tw11646928163855534121:=0
def tw3565571737836436800:=0
def tw32174818806862460:=0
def tw6792520037942614087:=0
def tw11326331616876873735:=0
def tw4258397697216626598:=0
def tw18365907866162478933:=0
def tw14577427235913408175:=0
def tw17882689279611124690:=0
def tw5650925497687389051:=0
def tw15707737356521232625:=0
def tw9456429898359719868:=0
def tw11071488771976621065:=0
def tw3106187497715971327:=0
def tw5447832426798066497:=0
def tw13592895442199478101:=0
def tw16273799249036558450:=0
def tw3893430884197777232:=0
def tw9739201006648448483:=0
def tw6399201424875966735:=0
def tw11328510688515867249:=0
def tw586133272454563108:=0
def tw13990106151509614465:=0
def tw4231604300431862497:=0
def tw10074529023496019354:=0
def tw16142777101770044322:=0
def tw5943064850905327085:=0
def tw5923351418052777399:=0
def tw2446628565781795755:=0
def tw10956939135111521453:=0
def tw12174297735871264776:=0
def tw17849326118727018816:=0
def tw15211286150171548117:=0
def tw16616338251223533502:=0
def tw5152945246874497266:=0
def tw9995774080202412762:=0
def tw16969859652783832940:=0
def tw11252744266869687958:=0
def tw16554530257851304082:=0
def tw12983129461916666476:=0
def tw926302618148568932:=0
def tw6230398707606156741:=0
def tw1306104503780151615:=0
def tw10963968958376427571:=0
def tw443490051497905693:=0
end PySem.W.Fast
set_option maxRecDepth 100000 in
set_option maxHeartbeats 0 in
theorem PySem.Challenge.cw_quillhouse_k06_whole_stopped_anywhere_holds : PySem.Challenge.rw_quillhouse_k06_whole_stopped_anywhere.Holds := by
 w_on;o_law;k_head;(case hw=>w_witness2)
 k_fill
 refine Fl.walk (l:=PySem.Challenge.rw_quillhouse_k06_whole_stopped_anywhere) rfl rfl (fun w h Y=>PySem.W.kIn_of Y) ?F
 case F =>
  intro w mg fU h ob G wB
  refine' Fl.all_mk wB ?PX ?PW ?PV ?PU ?PT ?PS ?cn ?gy ?cu ?iE ?fb ?p3 ?gj ?l7 ?i0 ?m5 ?xq ?sy ?QC ?QH ?QB ?QG ?Gq ?QF ?Ez ?Of ?Ae ?Oe ?Ad ?Od ?Nq ?Af ?Ey ?Oc ?Np ?Ob ?Nn ?Oa ?Ex ?N_ ?wh ?N9 ?Nm ?N8 ?Nl ?N7 ?Nk ?N6 ?Nj ?N5 ?Ni ?N4 ?Nh ?N3 ?Ng ?N2 ?Nf ?N1 ?wg ?NZ ?Nd ?NY ?Nc ?NX ?Nb ?NW ?Na ?NV ?M_ ?NU ?M9 ?NT ?M8 ?NS ?M7 ?NR ?M6 ?NQ ?M5 ?NP ?M4 ?NO ?M3 ?NN ?M1 ?NL ?M0 ?NK ?MZ ?NJ ?MY ?NI ?we ?NH ?Ew ?NG ?Eu ?NF ?MX ?ND ?Et ?NC ?MW ?NB ?MV ?Nz ?MU ?Ny ?MT ?Nx ?MS ?Nv ?LR ?Mc ?LP ?LJ ?L5 ?L7 ?IE ?JY ?LQ ?Mb ?LO ?LI ?L4 ?L6 ?HV ?Jk ?Ji ?HC ?HW ?Jj ?HU ?ID ?Ms ?Mr ?Mq ?Mp ?Lr ?Lq ?Lp ?Lo ?Ln ?Lm ?Ll ?Lk ?Lj ?Li ?Lh ?Lg ?Lf ?Le ?Ld ?Lc ?Kd ?Jx ?KZ ?KX ?Kf ?Hf ?KY ?Jy ?Ht ?Ke ?KW ?Bw
  all_goals first | k_is | exact PySem.W.mg_of ob G (by k_is) | exact PySem.W.mg_none_of ob G (by k_is) | exact⟨by k_is,by k_is,by k_is⟩ | exact⟨_,L2.Wa (by k_is) (by k_is) (by k_is)⟩ | skip
  all_goals first | k_exc | kts_exm | skip
