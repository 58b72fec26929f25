import PyProof.Rows.All
import Wide.All
import OpenK.AllK
import Wide.FinOn
import Lean
import PyProof.EqAt
import PyProof.EqKinds
import PyProof.TupleCall
import PyProof.NeKinds
import KE.KTryMore
import PySem.Challenge.RW_quillhouse_k09_whole_room
set_option Elab.async false
set_option linter.all false
set_option maxRecDepth 100000
set_option maxHeartbeats 0
open List (any_append any_cons any_eq_true append_nil drop_zero filter_cons filter_sublist find?_cons find?_cons_of_neg foldl_append foldl_cons getD_eq_getElem?_getD getElem?_append_left getElem?_append_right getElem?_eq_getElem getElem?_map getElem?_of_mem getElem?_reverse length_append length_cons length_drop length_filter_le length_map length_nil length_reverse length_set length_singleton length_take lookup_cons map_append map_congr_left map_cons map_map map_nil mem_append mem_append_left mem_append_right mem_cons mem_cons_of_mem mem_cons_self mem_filter mem_map mem_of_getElem? mem_reverse mem_singleton nodup_append nodup_cons nodup_nil not_mem_nil of_mem_zip size_toArray sum_append sum_cons take_add_one take_length)
open Nat (le_of_ble_eq_true le_of_eq le_of_lt le_refl le_succ le_succ_of_le le_trans lt_irrefl lt_of_le_of_lt lt_of_lt_of_le ne_of_gt ne_of_lt not_lt_zero sub_self zero_add zero_le)
open PySem.W (emptyDict excIn exmOne findIn hideAll instObj keepIn kia_one kitOne)
open PySem.F (excBase_ValueError plainAttrs_list slot_dict_get)
open PySem.Heap (get?_push_of_some get?_push_size get?_update_other get?_update_self lt_size size_push)
open Bool (and_eq_true)
namespace L2
open PySem PySem.Spec PyProof.Rows
abbrev Key:=Sum Int Str
def tR:Key→Value→Bool
 | .inl k,v=>Value.isInt k v
 | .inr x,v=>Value.isStrOf x v
def ab8 (w:World):Key→Int
 | .inl k=>hashInt k
 | .inr x=>hashStr w x
theorem nt:∀{k:Key}{v:Value},tR k v=true→(∃i t,k=Sum.inl i∧v=Value.int i t)∨(∃x t,k=Sum.inr x∧v=Value.str x t)
 | .inl i,v,h=>by
  obtain⟨t,e⟩:=Value.isInt_shape (k:=i) (v:=v) h
  exact .inl ⟨i,t,rfl,e⟩
 | .inr x,v,h=>by
  obtain⟨t,e⟩:=Value.isStrOf_shape (x:=x) (v:=v) h
  exact .inr ⟨x,t,rfl,e⟩
theorem US (i:Int) (t:Tok):tR (.inl i) (.int i t)=true:=by simp[tR,Value.isInt]
theorem UR (x:Str) (t:Tok):tR (.inr x) (.str x t)=true:=by simp[tR,Value.isStrOf]
theorem Xp (a b:Int):decide ((Sum.inl a:Key)=Sum.inl b)=(a == b):=by
 by_cases e:a=b
 ·subst e;simp
 ·have h:¬(Sum.inl a:Key)=Sum.inl b:=fun q=>e (Sum.inl.inj q)
  rw[decide_eq_false h]
  exact (beq_eq_false_iff_ne.mpr e).symm
theorem Xm (a b:Str):decide ((Sum.inr a:Key)=Sum.inr b)=decide (a=b):=by
 by_cases e:a=b
 ·subst e;simp
 ·have h:¬(Sum.inr a:Key)=Sum.inr b:=fun q=>e (Sum.inr.inj q)
  rw[decide_eq_false h,decide_eq_false e]
theorem Xo (a:Int) (b:Str):decide ((Sum.inl a:Key)=Sum.inr b)=false:=decide_eq_false (fun q=>nomatch q)
theorem Xn (a:Str) (b:Int):decide ((Sum.inr a:Key)=Sum.inl b)=false:=decide_eq_false (fun q=>nomatch q)
def hy (prog:Program) (w:World):PySem.KeyKind prog w Key where
 is:=tR
 hash:=ab8 w
 inj:=fun v a b aX aa=>by
  rcases nt aX with ⟨i,t,rfl,rfl⟩ | ⟨x,t,rfl,rfl⟩
  ·rcases nt aa with ⟨j,u,rfl,e⟩ | ⟨y,u,rfl,e⟩
   ·injection e with aJ _;rw[aJ]
   ·exact nomatch e
  ·rcases nt aa with ⟨j,u,rfl,e⟩ | ⟨y,u,rfl,e⟩
   ·exact nomatch e
   ·injection e with aJ _;rw[aJ]
 byValue:=fun k v h=>by
  rcases nt h with ⟨i,t,rfl,rfl⟩ | ⟨x,t,rfl,rfl⟩ <;> rfl
 pyHash:=fun br h=>by
  rcases nt br with ⟨i,t,rfl,rfl⟩ | ⟨x,t,rfl,rfl⟩
  ·exact wpAny_pyHash_int h
  ·exact wpAny_pyHash_str h
 eqBool:=fun a7 br h=>by
  rcases nt a7 with ⟨i,t,rfl,rfl⟩ | ⟨x,t,rfl,rfl⟩
  ·rcases nt br with ⟨j,u,rfl,rfl⟩ | ⟨y,u,rfl,rfl⟩
   ·rw[Xp]at h;exact wpAny_eqBool_int h
   ·rw[Xo]at h;exact SeqAt.EqAt.int_str i t y u _ _ _ _ h
  ·rcases nt br with ⟨j,u,rfl,rfl⟩ | ⟨y,u,rfl,rfl⟩
   ·rw[Xn]at h;exact SeqAt.EqAt.str_int x t j u _ _ _ _ h
   ·rw[Xm]at h;exact wpAny_eqBool_str h
 «strs» := fun k x t v h=>by
  rcases nt h with ⟨i,u,rfl,e⟩ | ⟨y,u,rfl,e⟩
  ·exact nomatch e
  ·injection e with aJ _
   subst aJ
   cases v <;> rfl
theorem TS (prog:Program) (w:World) (i:Int) (t:Tok):(hy prog w).is (.inl i) (.int i t)=true:=US i t
theorem TR (prog:Program) (w:World) (x:Str) (t:Tok):(hy prog w).is (.inr x) (.str x t)=true:=UR x t
inductive V where
 | cE | bV (b:Bool) | int (i:Int) | str (x:Str) | l9 (b:Array UInt8) | ql (b:UInt64) | ref (a:Addr) | ty (n:String)
 deriving DecidableEq
def RelV:V→Value→Prop
 | .cE,u=>u=Value.none
 | .bV b,u=>u=Value.bool b
 | .int i,u=>∃t,u=Value.int i t
 | .str x,u=>∃t,u=Value.str x t
 | .l9 b,u=>∃t,u=Value.bytes b t
 | .ql b,u=>∃t,u=Value.float b t
 | .ref a,u=>u=Value.ref a
 | .ty n,u=>u=Value.type n
abbrev Vals:List V→List Value→Prop:=Paired RelV
theorem Vals.length {xs:List V}{us:List Value}(r:Vals xs us):xs.length=us.length:=Paired.length r
theorem Vals.get:∀{xs:List V}{us:List Value}{i:Nat}{x:V},Vals xs us→xs[i]?=some x→∃u,us[i]?=some u∧RelV x u
 | _,_,_,_,.nil,e=>by simp at e
 | _,_,0,_,.cons r _,e=>by simp at e;subst e;exact⟨_,rfl,r⟩
 | _,_,i+1,x,.cons _ t,e=>by
  obtain⟨u,ay,aG⟩:=Vals.get (i:=i) (x:=x) t (by simpa using e)
  exact⟨u,by simpa using ay,aG⟩
theorem Vals.set {x:V}{u:Value}(r:RelV x u):∀{xs:List V}{us:List Value}(i:Nat),Vals xs us→Vals (xs.set i x) (us.set i u)
 | _,_,_,.nil=>.nil
 | _,_,0,.cons _ t=>.cons r t
 | _,_,i+1,.cons q t=>.cons q (Vals.set r i t)
theorem Vals.append:∀{xs ys:List V}{us ws:List Value},Vals xs us→Vals ys ws→Vals (xs++ys) (us++ws)
 | _,_,_,_,.nil,s=>s
 | _,_,_,_,.cons r t,s=>.cons r (Vals.append t s)
theorem Vals.take:∀{xs:List V}{us:List Value}(n:Nat),Vals xs us→Vals (xs.take n) (us.take n)
 | _,_,0,_=>.nil
 | _,_,_+1,.nil=>.nil
 | _,_,n+1,.cons r t=>.cons r (Vals.take n t)
theorem Vals.drop:∀{xs:List V}{us:List Value}(n:Nat),Vals xs us→Vals (xs.drop n) (us.drop n)
 | _,_,0,r=>r
 | _,_,_+1,.nil=>.nil
 | _,_,n+1,.cons _ t=>Vals.drop n t
def ig:Option V→Option Value→Prop
 | some v,some u=>RelV v u
 | none,none=>True
 | _,_=>False
def fD {κ:Type}:List (κ × V)→List (κ × Value)→Prop:=Paired fun (p:κ × V) (q:κ × Value)=>p.1=q.1∧RelV p.2 q.2
def d9:Key→V
 | .inl i=>.int i
 | .inr x=>.str x
inductive fh where
 | lst (xs:List V)
 | tup (xs:List V)
 | bQ (kvs:List (Key × V)) | hu (kvs:List (List Key × V))
 | set (S:Int→Bool) (n:Nat)
 | ins (C dx:Addr) (bL:List (Str × V))
 | own (x:Addr)
 | Bu (bL:List (Str × V))
 | met (f x:Addr)
 | l0 (lo aL:Int)
 | jc (o:Obj) (u:fh)
 | p9 (ps:Array Value)
 | ext (φ:Heap→Prop)
abbrev ao:=Addr→Option fh
def upd (H:ao) (a:Addr) (o:fh):ao:=fun b=>if b=a then some o else H b
theorem aQ {H:ao}{a:Addr}{o:fh}:upd H a o a=some o:=by unfold upd;rw[if_pos rfl]
theorem aA {H:ao}{a b:Addr}{o:fh}(h:b≠a):upd H a o b=H b:=by unfold upd;rw[if_neg h]
theorem qT {H:ao}{a:Addr}{o u:fh}:upd (upd H a o) a u=upd H a u:=by
 funext b;unfold upd;split <;> rfl
theorem dK {H:ao}{a b:Addr}{o u:fh}(h:H a=some o) (h':H b=some u) (d:o≠u):a≠b:=by
 intro e;subst e;rw[h]at h';exact d (Option.some.inj h')
theorem cD {H:ao}{a b:Addr}{o:fh}(h:H a=some o) (h':H b=none):a≠b:=by
 intro e;subst e;rw[h]at h';cases h'
section
variable (P:Program) (w:World)
def fx (H:ao) (h:Heap) (a:Addr):fh→Prop
 | .lst xs=>xs.length≤sizeLine∧∃(its:List Value) (n:Nat),Vals xs its∧h.get? a=some { cls:=.type "list",data:=.seq its.toArray n }
 | .tup xs=>xs.length≤sizeLine∧∃its:List Value,Vals xs its∧IsTup h a its.toArray
 | .bQ kvs=>kvs.length≤sizeLine∧(a == sysModules)=false∧∃vs,fD kvs vs∧h.DictOf (hy P w) a vs
 | .hu kvs=>kvs.length≤sizeLine∧(a == sysModules)=false∧∃xs:List (List Key × Addr × Value),
   Paired (fun (p:List Key × V) (q:List Key × Addr × Value)=>p.1=q.1∧H q.2.1=some (.tup (p.1.map d9))∧RelV p.2 q.2.2) kvs xs ∧
   ∃o aE b7,h.get? a=some o∧o.ExactDict∧o.data=.dict aE b7∧aE.toList=xs.map (entryOfKey (tupleKind (hy P w)))∧(xs.map (·.1)).Nodup
 | .set S n=>h.SetOf (intKind P w) a S n
 | .ins C dx bL=>H dx=some (.own a)∧bL.length≤1000∧dx≠a∧h.get? a=some (instObj C dx) ∧
   ∃d1,h.Ns1 dx d1∧(∀f,ig (bL.lookup f) (d1 f))∧PySem.Within d1 (bL.map (·.1))
 | .own _=>∃o,h.get? a=some o
 | .Bu bL=>∃d1,h.Ns1 a d1∧∀f,ig (bL.lookup f) (d1 f)
 | .l0 lo aL=>∃t u v,h.get? a=some { cls:=.type "range",data:=.fields #[.int lo t,.int aL u,.int 1 v] }
 | .jc o u=>h.get? a=some o∧fx H h a u
 | .p9 ps=>h.get? a=some { cls:=.none,data:=.fields ps }
 | .met f x=>h.get? a=some (PySem.W.methodObj (.ref f) (.ref x))
 | .ext φ=>φ h∧(∃o,h.get? a=some o)∧∀ay aG:Heap,φ ay→(∀o,ay.get? a=some o→aG.get? a=some o)→φ aG
def eT (H:ao) (h:Heap):Prop:=∀a o,H a=some o→fx P w H h a o
end
section
variable {P:Program}{w:World}{H ah:ao}{h h':Heap}{a:Addr}{o:fh}
theorem fx.lt (x:fx P w H h a o):a<h.objs.size:=by
 cases o with
 | lst xs=>obtain⟨_,_,_,_,e⟩:=x;exact lt_size e
 | tup xs=>obtain⟨_,_,_,p⟩:=x;exact p.lt
 | bQ kvs=>obtain⟨_,_,_,_,o,_,_,e,_⟩:=x;exact lt_size e
 | hu kvs=>obtain⟨_,_,_,_,o,_,_,e,_⟩:=x;exact lt_size e
 | set S n=>obtain⟨o,_,_,_,e,_⟩:=x;exact lt_size e
 | ins C dx bL=>obtain⟨_,_,_,e,_⟩:=x;exact lt_size e
 | own y=>obtain⟨_,e⟩:=x;exact lt_size e
 | Bu bL=>obtain⟨_,⟨_,_,_,e,_⟩,_⟩:=x;exact lt_size e
 | l0 lo aL=>obtain⟨_,_,_,e⟩:=x;exact lt_size e
 | jc bR u=>obtain⟨e,_⟩:=x;exact lt_size e
 | p9 ps=>exact lt_size (show h.get? a=some _ from x)
 | met f y=>exact lt_size (show h.get? a=some _ from x)
 | ext φ=>obtain⟨_,⟨_,e⟩,_⟩:=x;exact lt_size e
theorem Paired.D0 {α β:Type}{F G:α→β→Prop}:∀{Sb:List α}{Sa:List β},Paired F Sb Sa→(∀a b,F a b→G a b)→Paired G Sb Sa
 | _,_,.nil,_=>.nil
 | _,_,.cons r t,f=>.cons (f _ _ r) (Paired.D0 t f)
theorem fx.jA (x:fx P w H h a o) (k:∀b u,(b=a∨H b=some (.own a))→h.get? b=some u→h'.get? b=some u)
  (aH:∀b,H b=some (.own a)→ah b=some (.own a)) (a6:∀b xs,H b=some (.tup xs)→ah b=some (.tup xs)):fx P w ah h' a o:=by
 induction o with
 | lst xs=>obtain⟨z,its,n,r,e⟩:=x;exact⟨z,its,n,r,k _ _ (.inl rfl) e⟩
 | tup xs=>obtain⟨z,its,r,bR,e,c⟩:=x;exact⟨z,its,r,bR,k _ _ (.inl rfl) e,c⟩
 | bQ kvs=>obtain⟨z,y,vs,r,bR,aE,b7,e,c⟩:=x;exact⟨z,y,vs,r,bR,aE,b7,k _ _ (.inl rfl) e,c⟩
 | hu kvs =>
  obtain⟨z,y,xs,r,bR,aE,b7,e,c⟩:=x
  exact⟨z,y,xs,Paired.D0 r fun p q z=>⟨z.1,a6 _ _ z.2.1,z.2.2⟩,bR,aE,b7,k _ _ (.inl rfl) e,c⟩
 | set S n=>obtain⟨bR,aE,b7,t,e,c⟩:=x;exact⟨bR,aE,b7,t,k _ _ (.inl rfl) e,c⟩
 | ins C dx bL =>
  obtain⟨d,z,ne,e,d1,⟨fq,aE,b7,aN,c⟩,r⟩:=x
  exact⟨aH _ d,z,ne,k _ _ (.inl rfl) e,d1,⟨fq,aE,b7,k _ _ (.inr d) aN,c⟩,r⟩
 | own y=>obtain⟨bR,e⟩:=x;exact⟨bR,k _ _ (.inl rfl) e⟩
 | Bu bL=>obtain⟨d1,⟨fq,aE,b7,e,c⟩,r⟩:=x;exact⟨d1,⟨fq,aE,b7,k _ _ (.inl rfl) e,c⟩,r⟩
 | l0 lo aL=>obtain⟨t,u,v,e⟩:=x;exact⟨t,u,v,k _ _ (.inl rfl) e⟩
 | jc bR u c6=>obtain⟨e,q⟩:=x;exact⟨k _ _ (.inl rfl) e,c6 q⟩
 | p9 ps =>
  have e:h.get? a=some { cls:=.none,data:=.fields ps }:=x
  show h'.get? a=some { cls:=.none,data:=.fields ps }
  exact k a _ (.inl rfl) e
 | met f y =>
  have e:h.get? a=some (PySem.W.methodObj (.ref f) (.ref y)):=x
  show h'.get? a=some (PySem.W.methodObj (.ref f) (.ref y))
  exact k a _ (.inl rfl) e
 | ext φ=>obtain⟨p,⟨o,e⟩,st⟩:=x;exact⟨st _ _ p fun o q=>k _ _ (.inl rfl) q,⟨o,k _ _ (.inl rfl) e⟩,st⟩
theorem eT.lt (x:eT P w H h) (e:H a=some o):a<h.objs.size:=(x a o e).lt
theorem eT.fresh (x:eT P w H h) (e:h.objs.size≤a):H a=none:=by
 cases q:H a with
 | none=>rfl
 | some u=>exact absurd (lt_of_lt_of_le (x.lt q) e) (lt_irrefl _)
theorem eT.kept (x:eT P w H h) (k:∀b u,h.get? b=some u→h'.get? b=some u):eT P w H h':=fun a o e =>
 (x a o e).jA (fun b u _ q=>k b u q) (fun _ q=>q) fun _ _ q=>q
theorem eT.laid (x:eT P w H h) (k:∀b u,h.get? b=some u→h'.get? b=some u) (aI:h.objs.size≤a) (new:fx P w (upd H a o) h' a o):eT P w (upd H a o) h':=fun b u e=>by
 have aS:=x.fresh aI
 by_cases aa:b=a
 ·subst aa;rw[aQ]at e;cases e;exact new
 ·rw[aA aa]at e
  exact (x b u e).jA (fun c v _ q=>k c v q) (fun c q=>by rw[aA (cD q aS)];exact q) fun c xs q=>by rw[aA (cD q aS)];exact q
end
def ni (H:ao) (a:Addr) (u:fh):Prop:=H a=some u∨∃o,H a=some (.jc o u)
theorem ni.ok {P:Program}{w:World}{H:ao}{h:Heap}{a:Addr}{u:fh}(r:ni H a u) (x:eT P w H h):fx P w H h a u:=by
 rcases r with r | ⟨o,r⟩
 ·exact x a u r
 ·obtain⟨_,q⟩:=x a _ r
  exact q
def xA:Option fh→Prop
 | some (.lst _)=>True
 | some (.bQ _)=>True
 | some (.hu _)=>True
 | some (.set _ _)=>True
 | some (.ins _ _ _)=>True
 | some (.ext _)=>True
 | _=>False
section
variable {P:Program}{w:World}{H:ao}{h h':Heap}{x e:Addr}{fB:fh}
theorem eT.write (ok:eT P w H h) (kL:xA (H x)) (he:e=x∨H e=some (.own x)) (k:∀b u,b≠e→h.get? b=some u→h'.get? b=some u) (qg:∃u,h'.get? e=some u)
  (new:fx P w (upd H x fB) h' x fB):eT P w (upd H x fB) h':=fun b u q=>by
 have Lc:∀c y,H c=some (.own y)→c≠x:=fun c y r z=>by subst z;rw[r]at kL;exact kL
 have ab3:∀c xs,H c=some (.tup xs)→c≠x:=fun c xs r z=>by subst z;rw[r]at kL;exact kL
 by_cases aa:b=x
 ·subst aa;rw[aQ]at q;cases q;exact new
 ·rw[aA aa]at q
  by_cases hbe:b=e
  ·have n8:H b=some (.own x):=by
    rcases he with z | z
    ·exact absurd (hbe.trans z) aa
    ·rw[hbe];exact z
   rw[q]at n8;cases n8
   obtain⟨v,br⟩:=qg
   exact⟨v,by rw[hbe];exact br⟩
  ·refine (ok b u q).jA (fun c v aj r=>k c v ?_ r) (fun c r=>by rw[aA (Lc c b r)];exact r) fun c xs r=>by rw[aA (ab3 c xs r)];exact r
   rcases aj with rfl | aj
   ·exact hbe
   ·rintro rfl
    rcases he with z | z
    ·exact Lc c b aj z
    ·rw[aj]at z;cases z;exact aa rfl
end
structure g0 (bL ex:List Addr) (H ah:ao) (h h':Heap):Prop where
 keep:∀b o,h.get? b=some o→H b=none→b∉bL→b∉ex→h'.get? b=some o
 slot:∀b o,h.get? b=some o→H b=none→b∈bL→b∉ex→∃dc,h'.get? b=some { o with slots:=dc }
 free:∀b o,h.get? b=some o→H b=none→b∉ex→ah b=none
 there:∀b o,h.get? b=some o→b∉ex→∃fB,h'.get? b=some fB
 oM:∀b xs,H b=some (.tup xs)→ah b=some (.tup xs)
 nH:∀b o u,H b=some (.jc o u)→ah b=some (.jc o u)
 oN:∀b ps,H b=some (.p9 ps)→∃more,ah b=some (.p9 (ps++more))
section
variable {bL uN ex ami:List Addr}{H H1 au:ao}{h ay aG h':Heap}{a x e:Addr}{o:fh}
theorem g0.any (u:g0 bL ex H H1 h ay) {b:Addr}{bR:Obj}(q:h.get? b=some bR) (n:H b=none) (bg:b∉ex):∃dc,ay.get? b=some { bR with slots:=dc }:=by
 by_cases aa:b∈bL
 ·exact u.slot b bR q n aa bg
 ·exact⟨bR.slots,u.keep b bR q n aa bg⟩
theorem g0.kept (k:∀b u,h.get? b=some u→h'.get? b=some u):g0 bL ex H H h h' :=
 ⟨fun b bR q _ _ _=>k b bR q,fun b bR q _ _ _=>⟨bR.slots,k b bR q⟩,fun _ _ _ n _=>n,fun b bR q _=>⟨bR,k b bR q⟩,fun _ _ q=>q,fun _ _ _ q=>q,fun _ ps q=>⟨#[],by rw[q];simp⟩⟩
theorem g0.refl:g0 bL ex H H h h:=g0.kept fun _ _ q=>q
theorem g0.laid (k:∀b u,h.get? b=some u→h'.get? b=some u) (aI:h.objs.size≤a) (aS:H a=none):g0 bL ex H (upd H a o) h h' where
 keep:=fun b u q _ _ _=>k b u q
 slot:=fun b u q _ _ _=>⟨u.slots,k b u q⟩
 free:=fun b u q n _=>by rw[aA (ne_of_lt (lt_of_lt_of_le (lt_size q) aI))];exact n
 there:=fun b u q _=>⟨u,k b u q⟩
 oM:=fun b xs q=>by rw[aA (cD q aS)];exact q
 nH:=fun b u xs q=>by rw[aA (cD q aS)];exact q
 oN:=fun b ps q=>⟨#[],by rw[aA (cD q aS),q];simp⟩
theorem g0.write (kL:xA (H x)) (he:e=x∨H e=some (.own x)) (k:∀b u,b≠e→h.get? b=some u→h'.get? b=some u) (qg:∃u,h'.get? e=some u):g0 bL ex H (upd H x o) h h':=by
 have bg:∀b,H b=none→b≠x:=fun b n z=>by subst z;rw[n]at kL;exact kL
 have aa:∀b,H b=none→b≠e:=fun b n z=>by
  subst z
  rcases he with r | r
  ·exact bg b n r
  ·rw[n]at r;cases r
 have hm:∀b u,H b=some u→¬xA (some u)→b≠x:=fun b u q nm z=>by subst z;rw[q]at kL;exact nm kL
 refine⟨fun b u q n _ _=>k b u (aa b n) q,fun b u q n _ _=>⟨u.slots,k b u (aa b n) q⟩,fun b u q n _=>by rw[aA (bg b n)];exact n,fun b u q _=>?_,
  fun b xs q=>by rw[aA (hm b _ q fun z=>z)];exact q,fun b u xs q=>by rw[aA (hm b _ q fun z=>z)];exact q,fun b ps q=>⟨#[],by rw[aA (hm b _ q fun z=>z),q];simp⟩⟩
 by_cases hbe:b=e
 ·subst hbe;exact qg
 ·exact⟨u,k b u hbe q⟩
end
def z1 (h:Heap) (H:ao):List Addr:=(List.range h.objs.size).filter fun a=>(H a).isSome
def oT (h:Heap) (H:ao):Heap:=hideAll h (z1 h H)
theorem UY (h:Heap) (H:ao):(oT h H).objs.size=h.objs.size:=PySem.W.hideAll_size _ _
theorem VU {h:Heap}{H:ao}{b:Addr}{o:Obj}(e:h.get? b=some o) (n:H b=none):(oT h H).get? b=some o :=
 PySem.W.hideAll_get _ e fun hm=>by
  have q:(H b).isSome=true:=(mem_filter.mp hm).2
  rw[n]at q;simp at q
theorem Wt {h:Heap}{H:ao}{b:Addr}{o:Obj}(e:(oT h H).get? b=some o):h.get? b=some o∧H b=none:=by
 have cV:h.get? b=some o:=PySem.W.of_hideAll (z1 h H) e
 refine⟨cV,?_⟩
 cases q:H b with
 | none=>rfl
 | some x =>
  have hm:b∈z1 h H:=mem_filter.mpr ⟨List.mem_range.mpr (lt_size cV),by simp[q]⟩
  have z:(oT h H).get? b=none:=PySem.W.hideAll_none (z1 h H) hm
  rw[z]at e;cases e
structure Mod (K:PySem.W.Frag) (ai:Str→Option Value) (base:Heap):Prop where
 uA:K.In base
 glob:base.Ns mainGlobals ai
 blt:∃mh,base.Ns builtinsNs mh∧∀x:Str,x≠"__name__"→mh x=bootBuiltins x
 nolimit:base.NoLimit
structure bE where
 prog:Program
 w:World
 K:PySem.W.Frag
 ai:Str→Option Value
 base:Heap
 A:Around
 N:List Str
 fJ:Shared
 yi:ao
 env:Env
 outer:List Env
 stack:List Env
 ex:List Addr
 fn:Str→Bool
 calm:Bool
 bz:List (Addr × Obj)
 dF:Value→Shared→Prop
def gC (l:List Env):List Addr:=l.filterMap (·.frame)
abbrev bE.bL (X:bE):List Addr:=gC X.outer
def F3 (sc:Scope) (x:Str):Prop:=sc.names.lookup x=some .local∨sc.names.lookup x=some .cell∨sc.names.lookup x=some .free
def Loc (sc:Scope) (x:Str):Prop:=sc.names.lookup x=some .local∨sc.names.lookup x=some .cell
def Look (env:Env) (h:Heap) (m:Str→Option Value) (x:Str) (u:Value):Prop :=
 (env.kindOf x=some .local∧m x=some u)∨((env.kindOf x=some .cell∨env.kindOf x=some .free)∧∃c,env.cells.lookup x=some c∧h.IsCell c (some u))
structure bE.Ok (X:bE):Prop where
 mod:Mod X.K X.ai X.base
 kind:X.env.scope.kind=.function
 glob:X.env.globals=mainGlobals
 blt:X.env.builtins=builtinsNs
 above:X.fJ.heap.objs.size≤X.env.locals
 inj:∀x y c,X.env.cells.lookup x=some c→X.env.cells.lookup y=some c→x=y
 has:∀x,(X.env.kindOf x=some .cell∨X.env.kindOf x=some .free)→∃c,X.env.cells.lookup x=some c
 o9:∀x c,X.fn x=true→X.env.cells.lookup x=some c→X.fJ.heap.objs.size≤c
 hd:X.calm=true→X.A.handled=none
 frames:X.A.frames=some X.stack
 mL:X.stack=X.outer∨(X.stack=X.env::X.outer∧X.env.frame=some X.env.locals)
 qm:∀b∈X.ex,b≠X.env.locals∧∀x c,X.env.cells.lookup x=some c→c≠b
 bs:∀b o,X.base.get? b=some o→X.fJ.heap.get? b=some o∧X.yi b=none
 lr:X.base.objs.size≤X.fJ.heap.objs.size
 nE:∀b o,X.base.get? b=some o→b∉X.ex
 p5:∀b∈X.ex,b∉X.bL
 jB:X.fJ.heap.FunFrames X.base X.outer
 mX:∀b∈X.bL,X.yi b=none
structure Inv (X:bE) (pins:List (Addr × Obj)) (σ:List (Option V)) (H:ao) (s:Shared):Prop where
 ok:X.Ok
 os:s.os=X.fJ.os
 bare:AllBare s.gens
 base:g0 X.bL X.ex X.yi H X.fJ.heap s.heap
 loc:∃m,s.heap.Ns X.env.locals m∧∀(i:Nat) (x:Str) (v:V),X.N[i]?=some x→σ[i]?=some (some v)→F3 X.env.scope x→∃u,RelV v u∧Look X.env s.heap m x u
 cell:∀x c,X.env.cells.lookup x=some c→∃v,s.heap.IsCell c v
 free:H X.env.locals=none
 jz:∀x c,X.env.cells.lookup x=some c→H c=none
 pin:∀p∈X.bz++pins,s.heap.get? p.1=some p.2∧H p.1=none∧p.1≠X.env.locals∧p.1∉X.bL∧∀v,p.2.data≠.cell v
 bD:eT X.prog X.w H s.heap
 len:σ.length=X.N.length
section
variable {X:bE}{pins:List (Addr × Obj)}{σ:List (Option V)}{H ah:ao}{s:Shared}{h':Heap}
theorem bE.Ok.ab5 (ok:X.Ok) {b:Addr}{o:Obj}(e:X.base.get? b=some o):b∉X.bL:=fun aa=>by
 have:=(ok.jB.mem aa).1
 rw[e]at this;cases this
theorem Inv.bs (I:Inv X pins σ H s):∀b o,X.base.get? b=some o→s.heap.get? b=some o∧H b=none:=fun b o e =>
 ⟨I.base.keep b o (I.ok.bs b o e).1 (I.ok.bs b o e).2 (I.ok.ab5 e) (I.ok.nE b o e),I.base.free b o (I.ok.bs b o e).1 (I.ok.bs b o e).2 (I.ok.nE b o e)⟩
theorem Inv.hv (I:Inv X pins σ H s):∀b o,X.base.get? b=some o→s.heap.get? b=some o:=fun b o e=>(I.bs b o e).1
theorem Inv.mod (I:Inv X pins σ H s):Mod X.K X.ai X.base:=I.ok.mod
theorem Inv.gn (I:Inv X pins σ H s):X.K.In s.heap:=I.ok.mod.uA.keeps I.hv
theorem Inv.lt (I:Inv X pins σ H s):X.env.locals<s.heap.objs.size:=let ⟨_,aS,_⟩:=I.loc;aS.lt
theorem Inv.e9 (I:Inv X pins σ H s):X.fJ.heap.objs.size≤s.heap.objs.size:=le_trans I.ok.above (le_of_lt I.lt)
theorem Inv.ab4 (I:Inv X pins σ H s) {a:Addr}(h:s.heap.objs.size≤a):a∉X.bL:=fun aa=>by
 obtain⟨_,o,aH,_⟩:=I.ok.jB.mem aa
 exact absurd (lt_of_lt_of_le (lt_size aH) (le_trans I.e9 h)) (lt_irrefl _)
theorem Inv.rQ (I:Inv X pins σ H s):∀x c,X.env.cells.lookup x=some c→c≠X.env.locals:=fun x c e z=>by
 obtain⟨v,o,aH,hd⟩:=I.cell x c e
 obtain⟨m,⟨fB,aE,b7,mT,FD,_⟩,_⟩:=I.loc
 rw[z,mT]at aH;cases aH;rw[FD]at hd;cases hd
theorem Inv.jB (I:Inv X pins σ H s):s.heap.FunFrames X.base X.outer:=by
 have all:∀(l:List Env),(∀b∈gC l,b∈X.bL)→X.fJ.heap.FunFrames X.base l→s.heap.FunFrames X.base l:=by
  intro l
  induction l with
  | nil=>intro _ _;trivial
  | cons env r c6 =>
   intro a5 az
   obtain⟨a8,⟨L,o,hf,aS,aH,hd⟩,aC⟩:=az
   have fY:L∈X.bL:=a5 L (by unfold gC;rw[List.filterMap_cons,hf];exact mem_cons_self)
   obtain⟨dc,e⟩:=I.base.slot L o aH (I.ok.mX L fY) fY fun z=>I.ok.p5 L z fY
   exact⟨a8,⟨L,_,hf,aS,e,hd⟩,c6 (fun b aa=>a5 b (by unfold gC;rw[List.filterMap_cons,hf];exact mem_cons_of_mem _ aa)) aC⟩
 exact all X.outer (fun _ aa=>aa) I.ok.jB
theorem Inv.stack (I:Inv X pins σ H s):s.heap.FunFrames X.base X.stack:=by
 rcases I.ok.mL with e | ⟨e,hf⟩
 ·rw[e];exact I.jB
 ·rw[e]
  obtain⟨m,aS,_⟩:=I.loc
  refine .cons (by rw[I.ok.kind];decide) hf aS ?_ I.jB
  exact Heap.get?_none_of_le (le_trans I.ok.lr I.ok.above)
theorem Inv.v_ (I:Inv X pins σ H s):∀b∈gC X.stack,b∈X.env.locals::X.bL:=fun b aa=>by
 rcases I.ok.mL with e | ⟨e,hf⟩
 ·rw[e]at aa;exact mem_cons_of_mem _ aa
 ·rw[e]at aa
  unfold gC at aa
  rw[List.filterMap_cons,hf]at aa
  exact aa
theorem Inv.yZ (I:Inv X pins σ H s):∀b∈gC X.stack,H b=none:=fun b aa=>by
 rcases mem_cons.mp (I.v_ b aa) with e | aa
 ·rw[e];exact I.free
 ·obtain⟨_,o,aH,_⟩:=I.ok.jB.mem aa
  exact I.base.free b o aH (I.ok.mX b aa) fun z=>I.ok.p5 b z aa
theorem Inv.step {g':Array GenState}{t':Nat}{d':Drawn}{ch:List Addr}(I:Inv X pins σ H s)
  (j5:∀b∈ch,(b∈X.ex∨X.fJ.heap.objs.size≤b)∧b≠X.env.locals∧(∀x c,X.env.cells.lookup x=some c→c≠b)∧∀p∈X.bz++pins,p.1≠b)
  (keep:∀b o,b≠X.env.locals→b∉X.bL→b∉ch→s.heap.get? b=some o→H b=none→h'.get? b=some o)
  (slot:∀b o,b≠X.env.locals→b∈X.bL→b∉ch→s.heap.get? b=some o→H b=none→∃dc,h'.get? b=some { o with slots:=dc }) (free:∀b o,b∉ch→s.heap.get? b=some o→H b=none→ah b=none)
  (there:∀b o,b∉ch→s.heap.get? b=some o→∃fB,h'.get? b=some fB)
  (oM:∀b xs,H b=some (.tup xs)→ah b=some (.tup xs)) (nH:∀b o u,H b=some (.jc o u)→ah b=some (.jc o u)) (oN:∀b ps,H b=some (.p9 ps)→∃more,ah b=some (.p9 (ps++more)))
  (ns:∀m,s.heap.Ns X.env.locals m→h'.Ns X.env.locals m) (bD:eT X.prog X.w ah h') (cA:AllBare g') :
  Inv X pins σ ah { s with heap:=h',gens:=g',drawn:=d',toks:=t' }:=by
 have Ah:∀b o,X.fJ.heap.get? b=some o→b≠X.env.locals:=fun b o e=>ne_of_lt (lt_of_lt_of_le (lt_size e) I.ok.above)
 have Ai:∀b o,X.fJ.heap.get? b=some o→b∉X.ex→b∉ch:=fun b o e bg aa=>by
  rcases (j5 b aa).1 with z | z
  ·exact bg z
  ·exact absurd (lt_of_lt_of_le (lt_size e) z) (lt_irrefl _)
 have cellK:∀x c,X.env.cells.lookup x=some c→∀v,s.heap.IsCell c v→h'.IsCell c v:=fun x c e v ⟨o,aH,hd⟩=>by
  have l2:c∉ch:=fun z=>(j5 c z).2.2.1 x c e rfl
  by_cases aj:c∈X.bL
  ·obtain⟨dc,q⟩:=slot c o (I.rQ x c e) aj l2 aH (I.jz x c e)
   exact⟨_,q,hd⟩
  ·exact⟨o,keep c o (I.rQ x c e) aj l2 aH (I.jz x c e),hd⟩
 refine⟨I.ok,I.os,cA,⟨fun b o e n aa bg=>?_,fun b o e n aa bg=>?_,fun b o e n bg=>?_,fun b o e bg=>?_,fun b xs e=>oM b xs (I.base.oM b xs e),fun b o xs e=>nH b o xs (I.base.nH b o xs e),fun b ps e=>?_⟩,?_,fun x c e=>?_,?_,fun x c e=>?_,fun p aI=>?_,bD,I.len⟩
 ·exact keep b o (Ah b o e) aa (Ai b o e bg) (I.base.keep b o e n aa bg) (I.base.free b o e n bg)
 ·obtain⟨dc,aJ⟩:=I.base.slot b o e n aa bg
  obtain⟨Em,aN⟩:=slot b _ (Ah b o e) aa (Ai b o e bg) aJ (I.base.free b o e n bg)
  exact⟨Em,aN⟩
 ·obtain⟨fB,aJ⟩:=I.base.there b o e bg
  exact free b fB (Ai b o e bg) aJ (I.base.free b o e n bg)
 ·obtain⟨fB,aJ⟩:=I.base.there b o e bg
  exact there b fB (Ai b o e bg) aJ
 ·obtain⟨fM,aJ⟩:=I.base.oN b ps e
  obtain⟨fb,aN⟩:=oN b _ aJ
  exact⟨fM++fb,by rw[aN,Array.append_assoc]⟩
 ·obtain⟨m,aS,az⟩:=I.loc
  refine⟨m,ns m aS,fun i x v aJ aN b2=>?_⟩
  obtain⟨u,r,l⟩:=az i x v aJ aN b2
  refine⟨u,r,?_⟩
  rcases l with l | ⟨k,c,e,z⟩
  ·exact .inl l
  ·exact .inr ⟨k,c,e,cellK x c e _ z⟩
 ·obtain⟨v,z⟩:=I.cell x c e
  exact⟨v,cellK x c e v z⟩
 ·obtain⟨m,⟨o,_,_,aH,_⟩,_⟩:=I.loc
  exact free _ o (fun z=>(j5 _ z).2.1 rfl) aH I.free
 ·obtain⟨v,o,aH,hd⟩:=I.cell x c e
  exact free c o (fun z=>(j5 c z).2.2.1 x c e rfl) aH (I.jz x c e)
 ·obtain⟨e,n,ne,lB,d⟩:=I.pin p aI
  have l2:p.1∉ch:=fun z=>(j5 p.1 z).2.2.2 p aI rfl
  exact⟨keep p.1 p.2 ne lB l2 e n,free p.1 p.2 l2 e n,ne,lB,d⟩
theorem Inv.un {t':Nat}(I:Inv X pins σ H s) (u:g0 X.bL [] H ah s.heap h') (bD:eT X.prog X.w ah h'):Inv X pins σ ah { s with heap:=h',toks:=t' }:=by
 obtain⟨m,⟨o,aE,b7,aH,r⟩,_⟩:=id I.loc
 obtain⟨dc,fY⟩:=u.any aH I.free (by simp)
 exact I.step (g':=s.gens) (d':=s.drawn) (ch:=[]) (fun _ z=>nomatch z) (fun b o _ aa _ e n=>u.keep b o e n aa (by simp)) (fun b o _ aa _ e n=>u.slot b o e n aa (by simp)) (fun b o _ e n=>u.free b o e n (by simp)) (fun b o _ e=>u.there b o e (by simp)) u.oM u.nH u.oN (fun fS hm=>by
  obtain⟨fB,xu,FQ,mT,fz⟩:=hm
  rw[aH]at mT;cases mT
  exact⟨_,xu,FQ,fY,fz⟩) bD I.bare
theorem Inv.call {g':Array GenState}{t':Nat}{d':Drawn}{ch:List Addr}(I:Inv X pins σ H s) (u:g0 (gC X.stack) ch H ah s.heap h') (bD:eT X.prog X.w ah h') (cA:AllBare g')
  (j5:∀b∈ch,(b∈X.ex∨X.fJ.heap.objs.size≤b)∧b≠X.env.locals∧(∀x c,X.env.cells.lookup x=some c→c≠b)∧∀p∈X.bz++pins,p.1≠b) :
  Inv X pins σ ah { s with heap:=h',gens:=g',drawn:=d',toks:=t' }:=by
 obtain⟨m,⟨o,aE,b7,aH,r⟩,_⟩:=id I.loc
 obtain⟨dc,fY⟩:=u.any aH I.free fun z=>(j5 _ z).2.1 rfl
 exact I.step (ch:=ch) j5 (fun b o fY aa aj e n=>u.keep b o e n (fun z=>(mem_cons.mp (I.v_ b z)).elim fY aa) aj) (fun b o _ _ aj e n=>u.any e n aj) (fun b o aj e n=>u.free b o e n aj) (fun b o aj e=>u.there b o e aj) u.oM u.nH u.oN (fun fS hm=>by
  obtain⟨fB,xu,FQ,mT,fz⟩:=hm
  rw[aH]at mT;cases mT
  exact⟨_,xu,FQ,fY,fz⟩) bD cA
theorem Inv.turned {t':Nat}{it:Addr}(I:Inv X pins σ H s) (k:∀b o,b≠it→s.heap.get? b=some o→h'.get? b=some o) (aS:H it=none) (fY:it≠X.env.locals)
  (ay:it∈X.ex∨X.fJ.heap.objs.size≤it) (aG:∀x c,X.env.cells.lookup x=some c→c≠it) (ct:∀p∈X.bz++pins,p.1≠it):Inv X pins σ H { s with heap:=h',toks:=t' }:=by
 have MF:∀b u,H b=some u→b≠it:=fun b u e z=>by rw[z,aS]at e;cases e
 refine I.step (g':=s.gens) (d':=s.drawn) (ch:=[it]) (fun b aa=>?_) (fun b o _ _ aj e _=>k b o (fun z=>aj (by simp[z])) e) (fun b o _ _ aj e _=>⟨o.slots,k b o (fun z=>aj (by simp[z])) e⟩) (fun _ _ _ _ n=>n)
  (fun b o aj e=>⟨o,k b o (fun z=>aj (by simp[z])) e⟩) (fun _ _ e=>e) (fun _ _ _ e=>e) (fun b ps e=>⟨#[],by rw[e];simp⟩) (fun m hm=>?_) (fun b u e=>?_) I.bare
 ·have e:b=it:=by simpa using aa
  subst e
  exact⟨ay,fY,aG,ct⟩
 ·obtain⟨o,aE,b7,aH,r⟩:=hm
  exact⟨o,aE,b7,k _ o (Ne.symm fY) aH,r⟩
 ·refine (I.bD b u e).jA (fun c v aj q=>k c v ?_ q) (fun _ q=>q) fun _ _ q=>q
  rcases aj with z | z
  ·rw[z];exact MF b u e
  ·exact MF c _ z
theorem Inv.tok (I:Inv X pins σ H s) (t:Nat):Inv X pins σ H { s with toks:=t }:=I.un (h':=s.heap) (t':=t) g0.refl I.bD
theorem Inv.kept {t':Nat}(I:Inv X pins σ H s) (k:∀b u,s.heap.get? b=some u→h'.get? b=some u):Inv X pins σ H { s with heap:=h',toks:=t' }:=I.un (g0.kept k) (I.bD.kept k)
theorem Inv.laid {a:Addr}{o:fh}{t':Nat}(I:Inv X pins σ H s) (k:∀b u,s.heap.get? b=some u→h'.get? b=some u) (aI:s.heap.objs.size≤a) (new:fx X.prog X.w (upd H a o) h' a o) :
  Inv X pins σ (upd H a o) { s with heap:=h',toks:=t' }:=I.un (g0.laid k aI (I.bD.fresh aI)) (I.bD.laid k aI new)
theorem Inv.write {x e:Addr}{o:fh}{t':Nat}(I:Inv X pins σ H s) (kL:xA (H x)) (he:e=x∨H e=some (.own x)) (k:∀b u,b≠e→s.heap.get? b=some u→h'.get? b=some u) (qg:∃u,h'.get? e=some u)
  (new:fx X.prog X.w (upd H x o) h' x o):Inv X pins σ (upd H x o) { s with heap:=h',toks:=t' }:=I.un (g0.write kL he k qg) (I.bD.write kL he k qg new)
theorem Inv.Jw {Kl:List (Addr × Obj)}(I:Inv X pins σ H s) (h:∀p∈Kl,s.heap.get? p.1=some p.2∧H p.1=none∧p.1≠X.env.locals∧p.1∉X.bL∧∀v,p.2.data≠.cell v):Inv X Kl σ H s :=
 ⟨I.ok,I.os,I.bare,I.base,I.loc,I.cell,I.free,I.jz,fun p aI=>(mem_append.mp aI).elim (fun z=>I.pin p (mem_append_left _ z)) (h p),I.bD,I.len⟩
theorem I6 {N:List Str}(gP:N.Nodup) {i j:Nat}{x:Str}(a:N[i]?=some x) (b:N[j]?=some x):i=j:=by
 obtain⟨ay,aJ⟩:=List.getElem?_eq_some_iff.mp a
 obtain⟨aG,aN⟩:=List.getElem?_eq_some_iff.mp b
 exact (List.getElem_inj gP).mp (aJ.trans aN.symm)
theorem Ig {M:Model}{A:Around}{E:Value→Shared→Prop}{i:Nat}{x:Str}{v:V}{u:Value}{Q:Unit→Shared→Prop}(I:Inv X pins σ H s) (gP:X.N.Nodup) (aL:X.N[i]?=some x) (bg:Loc X.env.scope x) (r:RelV v u)
  (h:∀aM,Inv X pins (σ.set i (some v)) H aM→(∃a,Heap.SameBut a s.heap aM.heap∧(a=X.env.locals∨X.env.cells.lookup x=some a))→Q () aM) (hf:X.fn x=true∨X.env.scope.names.lookup x=some .local:=by first | exact .inl rfl | exact .inr rfl | assumption):wpAny M A (storeName X.env x u) Q E s:=by
 obtain⟨m,aS,az⟩:=id I.loc
 have adf:(X.env.scope.kind == .class || (X.env.scope.kind == .module && X.env.locals != X.env.globals))=false:=by rw[I.ok.kind];rfl
 have N7:i<σ.length:=by rw[I.len];exact (List.getElem?_eq_some_iff.mp aL).1
 have rQ:=I.rQ
 have tracked:∀{a:Addr} {h':Heap},(∃o,s.heap.get? a=some o∧H a=none)→Heap.SameBut a s.heap h'→eT X.prog X.w H h':=fun {a h'} aX a5 b bR e=>by
  obtain⟨_,_,lS⟩:=aX
  refine (I.bD b bR e).jA (fun c eb aj q=>(a5.2 c ?_).trans q) (fun _ q=>q) fun _ _ q=>q
  rintro rfl
  rcases aj with rfl | aj
  ·rw[lS]at e;cases e
  ·rw[lS]at aj;cases aj
 rcases bg with a8 | a8
 ·refine wpAny_storeName_local a8 aS (fun h' ah5 a5=>?_) adf
  obtain⟨Gs,_,_,ah0,_⟩:=id aS
  refine h _ ⟨I.ok,I.os,I.bare,⟨fun b o e n aa bg=>?_,fun b o e n aa bg=>?_,I.base.free,fun b o e bg=>?_,I.base.oM,I.base.nH,I.base.oN⟩,⟨_,ah5,fun j y Gi aJ aN b2=>?_⟩,fun y c e=>?_,I.free,I.jz,fun p aI=>?_,tracked ⟨Gs,ah0,I.free⟩ a5,by simpa using I.len⟩ ⟨_,a5,.inl rfl⟩
  ·exact (a5.2 b (ne_of_lt (lt_of_lt_of_le (lt_size e) I.ok.above))).trans (I.base.keep b o e n aa bg)
  ·obtain⟨dc,aJ⟩:=I.base.slot b o e n aa bg
   exact⟨dc,(a5.2 b (ne_of_lt (lt_of_lt_of_le (lt_size e) I.ok.above))).trans aJ⟩
  ·obtain⟨fB,aJ⟩:=I.base.there b o e bg
   exact⟨fB,(a5.2 b (ne_of_lt (lt_of_lt_of_le (lt_size e) I.ok.above))).trans aJ⟩
  ·by_cases de:j=i
   ·subst de
    rw[aL]at aJ;cases aJ
    rw[List.getElem?_set_self N7]at aN
    cases aN
    exact⟨u,r,.inl ⟨a8,by simp⟩⟩
   ·rw[List.getElem?_set_ne (Ne.symm de)]at aN
    obtain⟨n3,fz,q⟩:=az j y Gi aJ aN b2
    refine⟨n3,fz,?_⟩
    rcases q with ⟨k,e⟩ | ⟨k,c,e,z⟩
    ·refine .inl ⟨k,?_⟩
     have:y≠x:=fun e=>de (I6 gP aJ (e ▸ aL))
     simp[this,e]
    ·exact .inr ⟨k,c,e,z.sameBut a5 (rQ y c e)⟩
  ·obtain⟨eb,z⟩:=I.cell y c e
   exact⟨eb,z.sameBut a5 (rQ y c e)⟩
  ·obtain⟨e,n,ne,lB,d⟩:=I.pin p aI
   exact⟨(a5.2 p.1 ne).trans e,n,ne,lB,d⟩
 ·have Fz:X.fn x=true:=by
   rcases hf with z | z
   ·exact z
   ·rw[z]at a8;cases a8
  obtain⟨c,aj⟩:=I.ok.has x (.inl a8)
  obtain⟨eb,z⟩:=I.cell x c aj
  refine wpAny_storeName_cell I.ok.kind a8 aj z (fun h' Og a5=>?_)
  obtain⟨mc,N4,ac4⟩:=id z
  refine h { s with heap:=h' } ⟨I.ok,I.os,I.bare,⟨fun b o e n aa bg=>?_,fun b o e n aa bg=>?_,I.base.free,fun b o e bg=>?_,I.base.oM,I.base.nH,I.base.oN⟩,⟨m,aS.sameBut a5 (Ne.symm (rQ x c aj)),fun j y Gi aJ aN b2=>?_⟩,fun y gv e=>?_,I.free,I.jz,fun p aI=>?_,tracked ⟨mc,N4,I.jz x c aj⟩ a5,by simpa using I.len⟩ ⟨c,a5,.inr aj⟩
  ·exact (a5.2 b (ne_of_lt (lt_of_lt_of_le (lt_size e) (I.ok.o9 x c Fz aj)))).trans (I.base.keep b o e n aa bg)
  ·obtain⟨dc,aJ⟩:=I.base.slot b o e n aa bg
   exact⟨dc,(a5.2 b (ne_of_lt (lt_of_lt_of_le (lt_size e) (I.ok.o9 x c Fz aj)))).trans aJ⟩
  ·obtain⟨fB,aJ⟩:=I.base.there b o e bg
   exact⟨fB,(a5.2 b (ne_of_lt (lt_of_lt_of_le (lt_size e) (I.ok.o9 x c Fz aj)))).trans aJ⟩
  ·by_cases de:j=i
   ·subst de
    rw[aL]at aJ;cases aJ
    rw[List.getElem?_set_self N7]at aN
    cases aN
    exact⟨u,r,.inr ⟨.inl a8,c,aj,Og⟩⟩
   ·rw[List.getElem?_set_ne (Ne.symm de)]at aN
    obtain⟨n3,fz,q⟩:=az j y Gi aJ aN b2
    refine⟨n3,fz,?_⟩
    rcases q with q | ⟨k,gv,e,iv⟩
    ·exact .inl q
    ·refine .inr ⟨k,gv,e,iv.sameBut a5 ?_⟩
     rintro rfl
     exact de (I6 gP aJ (I.ok.inj _ _ _ e aj ▸ aL))
  ·by_cases Of:gv=c
   ·subst Of;exact⟨_,Og⟩
   ·obtain⟨eU,dU⟩:=I.cell y gv e
    exact⟨eU,dU.sameBut a5 Of⟩
  ·obtain⟨e,n,ne,lB,d⟩:=I.pin p aI
   refine⟨(a5.2 p.1 ?_).trans e,n,ne,lB,d⟩
   intro q
   rw[q,N4]at e
   have n8:mc=p.2:=Option.some.inj e
   exact d eb (by rw[←n8];exact ac4)
theorem I0 {M:Model}{A:Around}{E:Value→Shared→Prop}{i:Nat}{x:Str}{v:V}{u:Value}{Q:Unit→Shared→Prop}(I:Inv X pins σ H s) (gP:X.N.Nodup) (aL:X.N[i]?=some x) (bg:Loc X.env.scope x) (r:RelV v u)
  (h:∀aM,Inv X pins (σ.set i (some v)) H aM→Q () aM) (hf:X.fn x=true∨X.env.scope.names.lookup x=some .local:=by first | exact .inl rfl | exact .inr rfl | assumption):wpAny M A (storeName X.env x u) Q E s :=
 Ig I gP aL bg r (fun aM gc _=>h aM gc) hf
theorem Inv.DP {aM:Shared}{ch:List Addr}(I:Inv X pins σ H s) (aH:aM.os=s.os) (u:g0 (gC X.stack) ch H ah s.heap aM.heap) (bD:eT X.prog X.w ah aM.heap) (cA:AllBare aM.gens)
  (j5:∀b∈ch,(b∈X.ex∨X.fJ.heap.objs.size≤b)∧b≠X.env.locals∧(∀x c,X.env.cells.lookup x=some c→c≠b)∧∀p∈X.bz++pins,p.1≠b):Inv X pins σ ah aM:=by
 obtain⟨h',g',d',t',fB⟩:=aM
 have e:fB=s.os:=aH
 subst e
 exact I.call (g':=g') (t':=t') (d':=d') u bD cA j5
end
abbrev gR:=Value→Option Addr→ao→Prop
abbrev St:=List (Option V)
abbrev cC:=V→ao→Prop
abbrev TE:=St→ao→cC→Prop
abbrev TT:=St→ao→(Bool→ao→Prop)→Prop
abbrev h5:=St→ao→(List V→ao→Prop)→Prop
structure Ends where
 c4:St→ao→Prop
 n6:cC
 hv:St→ao→Prop:=fun _ _=>False
 ff:St→ao→Prop:=fun _ _=>False
abbrev fU:=Ends→St→ao→Prop
def hk (X:bE) (pins:List (Addr × Obj)) (σ:St) (Q:cC) (u:Value) (aM:Shared):Prop:=∃v ah,Inv X pins σ ah aM∧RelV v u∧Q v ah
def SN (X:bE) (pins:List (Addr × Obj)) (σ:St) (Q:Bool→ao→Prop) (b:Bool) (aM:Shared):Prop:=∃ah,Inv X pins σ ah aM∧Q b ah
def alC (X:bE) (pins:List (Addr × Obj)) (σ:St) (Q:List V→ao→Prop) (us:List Value) (aM:Shared):Prop:=∃vs ah,Inv X pins σ ah aM∧Vals vs us∧Q vs ah
def sl (X:bE) (pins:List (Addr × Obj)) (D:Ends) (f:Flow) (aM:Shared):Prop :=
 match f with
 | .next=>∃bK ah,Inv X pins bK ah aM∧D.c4 bK ah
 | .brk=>∃bK ah,Inv X pins bK ah aM∧D.hv bK ah
 | .cont=>∃bK ah,Inv X pins bK ah aM∧D.ff bK ah
 | .ret u=>∃v bK ah,Inv X pins bK ah aM∧RelV v u∧D.n6 v ah
def b3 (X:bE) (e:Expr) (t:TE):Prop :=
 ∀(pins:List (Addr × Obj)) (s:Shared) (σ:St) (H:ao) (Q:cC),Inv X pins σ H s→t σ H Q→wpAny (model X.prog X.w) X.A (eval e X.env) (hk X pins σ Q) X.dF s
def g4 (X:bE) (e:Expr) (t:TT):Prop :=
 ∀(pins:List (Addr × Obj)) (s:Shared) (σ:St) (H:ao) (Q:Bool→ao→Prop),Inv X pins σ H s→t σ H Q→wpAny (model X.prog X.w) X.A (isTrue e X.env (eval e X.env)) (SN X pins σ Q) X.dF s
def qG (X:bE) (e:Expr) (t:TT):Prop :=
 ∀(whole:Sem Value) (pins:List (Addr × Obj)) (s:Shared) (σ:St) (H:ao) (Q:Bool→ao→Prop),Inv X pins σ H s→t σ H Q→wpAny (model X.prog X.w) X.A (isTrue e X.env whole) (SN X pins σ Q) X.dF s
theorem qG.pt {X:bE}{e:Expr}{t:TT}(h:qG X e t):g4 X e t:=h _
def lG (X:bE) (aE:List Expr) (t:h5):Prop :=
 ∀(pos:Pos) (pins:List (Addr × Obj)) (s:Shared) (σ:St) (H:ao) (Q:List V→ao→Prop),Inv X pins σ H s→t σ H Q→wpAny (model X.prog X.w) X.A (spliced (backTo pos (starEach aE X.env))) (alC X pins σ Q) X.dF s
def kh (X:bE) (st:Stmt) (t:fU):Prop :=
 ∀(pins:List (Addr × Obj)) (s:Shared) (σ:St) (H:ao) (D:Ends),Inv X pins σ H s→t D σ H→wpAny (model X.prog X.w) X.A (exec st X.env) (sl X pins D) X.dF s
def gW (X:bE) (st:List Stmt) (t:fU):Prop :=
 ∀(pins:List (Addr × Obj)) (s:Shared) (σ:St) (H:ao) (D:Ends),Inv X pins σ H s→t D σ H→wpAny (model X.prog X.w) X.A (execs st X.env) (sl X pins D) X.dF s
theorem bS {α:Type}{t:Sem α}{Q vu:α→Shared→Prop}{M:Model}{A:Around}{E:Value→Shared→Prop}{s:Shared}(h:wpAny M A t Q E s) (pk:∀a s,Q a s→vu a s):wpAny M A t vu E s:=wpAny_mono h pk fun _ _ x=>x
section
variable {X:bE}
theorem bin {a b:Expr}{c1 dG:TE}(aX:b3 X a c1) (aa:b3 X b dG) {pins:List (Addr × Obj)}{s:Shared}{σ:St}{H:ao}{R:V→V→ao→Prop}(I:Inv X pins σ H s) (h:c1 σ H fun x H1=>dG σ H1 fun y au=>R x y au)
  {α:Type} {Q:α→Shared→Prop} {f:Value→Value→Sem α}
  (hf:∀v u s2 x y au,Inv X pins σ au s2→RelV x v→RelV y u→R x y au→wpAny (model X.prog X.w) X.A (f v u) Q X.dF s2) :
  wpAny (model X.prog X.w) X.A (eval a X.env) (fun v c5=>wpAny (model X.prog X.w) X.A (eval b X.env) (fun u hW=>wpAny (model X.prog X.w) X.A (f v u) Q X.dF hW) X.dF c5) X.dF s:=by
 refine bS (aX pins s σ H _ I h) fun v s1 ⟨x,H1,aY,a4,bu⟩=>?_
 refine bS (aa pins s1 σ H1 _ aY bu) fun u s2 ⟨y,au,cH,bH,aV⟩=>?_
 exact hf v u s2 x y au cH a4 bH aV
def KN (i:Nat):TE:=fun σ H Q=>∃v,σ[i]?=some (some v)∧Q v H
def By (v:V):TE:=fun _ H Q=>Q v H
theorem W6 {i:Nat}{x:Str}{pos:Pos}(gP:X.N[i]?=some x) (br:F3 X.env.scope x) (hd:(x == ("__debug__":Str))=false:=by decide) (kG:(x == ("__classdict__":Str))=false:=by decide):b3 X (.Name x pos) (KN i):=by
 intro pins s σ H Q I h
 obtain⟨v,e,h⟩:=h
 obtain⟨m,aS,az⟩:=I.loc
 obtain⟨u,r,l⟩:=az i x v gP e br
 have fin:hk X pins σ Q u s:=⟨v,H,I,r,h⟩
 rcases l with ⟨a8,hm⟩ | ⟨a8,c,aj,tS⟩
 ·exact wpAny_Name (wpAny_loadName_local I.ok.kind a8 aS hm fin) hd
 ·rcases a8 with a8 | a8
  ·exact wpAny_Name (wpAny_loadName_cell I.ok.kind a8 aj tS fin) hd
  ·exact wpAny_Name (wpAny_loadName_free I.ok.kind a8 aj tS fin kG) hd
theorem aW {i j pos}:b3 X (.Constant (.int i) j pos) (By (.int i)):=fun _ _ _ H _ I h=>wpAny_Constant_int ⟨.int i,H,I.tok _,⟨_,rfl⟩,h⟩
theorem fF {b j pos}:b3 X (.Constant (.bool b) j pos) (By (.bV b)):=fun _ _ _ H _ I h=>Constant_bool ⟨.bV b,H,I,rfl,h⟩
theorem bw {x j pos}:b3 X (.Constant (.str x) j pos) (By (.str x)):=fun _ _ _ H _ I h=>Calls.Constant_str ⟨.str x,H,I.tok _,⟨_,rfl⟩,h⟩
def kX (X:bE) (x:Str):Prop:=X.env.kindOf x=some .globalImplicit
theorem y_ {E:Value→Shared→Prop}{pins:List (Addr × Obj)}{s:Shared}{σ:St}{H:ao}{x:Str}{u:Value}{pos:Pos}{Q:Value→Shared→Prop}(I:Inv X pins σ H s) (cA:kX X x) (hm:X.ai x=some u) (h:Q u s)
  (hd:(x == ("__debug__":Str))=false:=by decide):wpAny (model X.prog X.w) X.A (eval (.Name x pos) X.env) Q E s :=
 Calls.Name_function_global I.ok.kind cA (Calls.loadGlobal_global (by rw[I.ok.glob];exact I.mod.glob.keeps I.hv) hm h) hd
theorem pV {E:Value→Shared→Prop}{pins:List (Addr × Obj)}{s:Shared}{σ:St}{H:ao}{x:Str}{u:Value}{pos:Pos}{Q:Value→Shared→Prop}(I:Inv X pins σ H s) (cA:kX X x) (hm:X.ai x=none) (br:bootBuiltins x=some u) (h:Q u s)
  (aS:x≠"__name__":=by decide) (hd:(x == ("__debug__":Str))=false:=by decide):wpAny (model X.prog X.w) X.A (eval (.Name x pos) X.env) Q E s:=by
 obtain⟨mh,ay,aG⟩:=I.mod.blt
 exact Calls.Name_function_global I.ok.kind cA (Calls.loadGlobal_builtin (by rw[I.ok.glob];exact I.mod.glob.keeps I.hv) hm (by rw[I.ok.blt];exact ay.keeps I.hv) ((aG x aS).trans br) h) hd
theorem iL {x:Str}{v:V}{u:Value}{pos:Pos}(cA:kX X x) (hm:X.ai x=none) (br:bootBuiltins x=some u) (r:RelV v u) (aS:x≠"__name__":=by decide) (hd:(x == ("__debug__":Str))=false:=by decide):b3 X (.Name x pos) (By v) :=
 fun _ _ _ H _ I h=>pV I cA hm br ⟨v,H,I,r,h⟩ aS hd
variable {a b:Expr}{c1 dG:TE}{pos:Pos}
def G5 (X:bE) (op:CmpOp) (a b:Expr) (t:TE):Prop :=
 ∀(pins:List (Addr × Obj)) (s:Shared) (σ:St) (H:ao) (Q:cC),Inv X pins σ H s→t σ H Q →
  wpAny (model X.prog X.w) X.A (eval a X.env) (fun v c5=>wpAny (model X.prog X.w) X.A (eval b X.env) (fun u hW=>wpAny (model X.prog X.w) X.A (compareOp op v u) (hk X pins σ Q) X.dF hW) X.dF c5) X.dF s
def R3 (t:TE):TT:=fun σ H Q=>t σ H fun x H1=>∃c,x=.bV c∧Q c H1
theorem we {op:CmpOp}{t:TE}(h:G5 X op a b t) (ay:behindInMarks op b=false:=by first | exact alG _ (by decide) (by decide) | rfl):g4 X (.Compare a [op] [b] pos) (R3 t):=by
 intro pins s σ H Q I hw
 refine wpAny_isTrue_Compare1 (bS (h pins s σ H _ I hw) fun v s1 ay=>bS ay fun u s2 aG=>bS aG fun c s3 ⟨x,H1,aY,a4,bu⟩=>?_) ay
 obtain⟨d,rfl,q⟩:=bu
 cases a4
 exact wpAny_truthy_bool ⟨H1,aY,q⟩
theorem gy {e:Expr}{t:TE}(h:b3 X e t) (he:∀whole,isTrue e X.env whole=(do let v ← whole;standAt e.pos;holding [v] (truthy v)):=by intro _;rfl):g4 X e (R3 t):=by
 intro pins s σ H Q I hw
 refine isTrue_plain (bS (h pins s σ H _ I hw) fun v s1 ⟨x,H1,aY,a4,bu⟩=>?_) (he _)
 obtain⟨d,rfl,q⟩:=bu
 cases a4
 exact wpAny_truthy_bool ⟨H1,aY,q⟩
variable {j9 oX:TT}{rest:List Expr}
def KQ (t u:TT):TT:=fun σ H Q=>t σ H fun c H1=>if c=true then u σ H1 Q else Q false H1
def z2 (t u:TT):TT:=fun σ H Q=>t σ H fun c H1=>if c=true then Q true H1 else u σ H1 Q
def Yx (t:TT):TT:=fun σ H Q=>t σ H fun c H1=>Q (!c) H1
theorem pw_and1 (aX:g4 X a j9):qG X (.BoolOp .And [a] pos) j9:=by
 intro xN pins s σ H Q I h
 refine isTrue_and (bS (aX pins s σ H Q I h) fun c s1 e=>?_)
 cases c with
 | true=>exact isTrue_and_nil e
 | false=>exact e
theorem pw_or1 (aX:g4 X a j9):qG X (.BoolOp .Or [a] pos) j9:=by
 intro xN pins s σ H Q I h
 refine isTrue_or (bS (aX pins s σ H Q I h) fun c s1 e=>?_)
 cases c with
 | false=>exact isTrue_or_nil e
 | true=>exact e
theorem pw_and (aX:g4 X a j9) (aa:qG X (.BoolOp .And (b::rest) pos) oX):qG X (.BoolOp .And (a::b::rest) pos) (KQ j9 oX):=by
 intro xN pins s σ H Q I h
 refine isTrue_and (bS (aX pins s σ H _ I h) fun c s1 ⟨H1,aY,bu⟩=>?_)
 cases c with
 | true=>exact aa xN pins s1 σ H1 Q aY bu
 | false=>exact⟨H1,aY,bu⟩
theorem pw_or (aX:g4 X a j9) (aa:qG X (.BoolOp .Or (b::rest) pos) oX):qG X (.BoolOp .Or (a::b::rest) pos) (z2 j9 oX):=by
 intro xN pins s σ H Q I h
 refine isTrue_or (bS (aX pins s σ H _ I h) fun c s1 ⟨H1,aY,bu⟩=>?_)
 cases c with
 | true=>exact⟨H1,aY,bu⟩
 | false=>exact aa xN pins s1 σ H1 Q aY bu
theorem hM (aX:g4 X a j9):g4 X (.UnaryOp .Not a pos) (Yx j9):=by
 intro pins s σ H Q I h
 exact isTrue_not (aX pins s σ H (fun c H1=>Q (!c) H1) I h)
def XQ (c1 dG:TE):TE:=fun σ H Q=>c1 σ H fun x H1=>∃c,x=.bV c∧if c=true then dG σ H1 Q else Q (.bV false) H1
def XG (c1:TE):TE:=fun σ H Q=>c1 σ H fun x H1=>∃c,x=.bV c∧Q (.bV (!c)) H1
theorem tA {op} {t:TE}(h:b3 X a t):b3 X (.BoolOp op [a] pos) t:=fun pins s σ H Q I hw=>BoolOp_one (h pins s σ H Q I hw)
theorem nB (aX:b3 X a c1) (aa:b3 X (.BoolOp .And (b::rest) pos) dG):b3 X (.BoolOp .And (a::b::rest) pos) (XQ c1 dG):=by
 intro pins s σ H Q I h
 refine BoolOp_and (bS (aX pins s σ H _ I h) fun v s1 ⟨x,H1,aY,a4,bu⟩=>?_)
 obtain⟨c,rfl,bu⟩:=bu
 cases a4
 refine wpAny_truthy_bool ?_
 cases c with
 | true=>exact aa pins s1 σ H1 Q aY bu
 | false=>exact⟨.bV false,H1,aY,rfl,bu⟩
theorem W7 (aX:b3 X a c1):b3 X (.UnaryOp .Not a pos) (XG c1):=by
 intro pins s σ H Q I h
 refine UnaryOp_ (bS (aX pins s σ H _ I h) fun v s1 ⟨x,H1,aY,a4,bu⟩=>?_)
 obtain⟨c,rfl,bu⟩:=bu
 cases a4
 exact not_of (wpAny_truthy_bool ⟨.bV (!c),H1,aY,rfl,bu⟩)
end
def aR (K:PySem.W.Frag) (H:ao) (a:Addr) (xs:List V):Prop :=
 ni H a (.lst xs) ∨
  ∃(o:Obj) (its:Array Value) (n:Nat),K.lookup a=some o∧o.cls=.type "list"∧o.dict=none∧o.data=.seq its n∧its.size≤sizeLine∧Vals xs its.toList
def aF (K:PySem.W.Frag) (H:ao) (a:Addr) (xs:List V):Prop :=
 ni H a (.tup xs) ∨
  ∃(o:Obj) (its:Array Value) (n:Nat),K.lookup a=some o∧o.cls=.type "tuple"∧o.data=.seq its n∧its.size≤sizeLine∧Vals xs its.toList
def afz:Value→Option V
 | .none=>some .cE
 | .bool b=>some (.bV b)
 | .int i _=>some (.int i)
 | .str x _=>some (.str x)
 | .bytes b _=>some (.l9 b)
 | .float b _=>some (.ql b)
 | .ref a=>some (.ref a)
 | .type n=>some (.ty n)
 | _=>none
theorem RelV.abs {x:V}{u:Value}(r:RelV x u):afz u=some x:=by
 cases x with
 | cE=>cases r;rfl
 | bV _=>cases r;rfl
 | int _=>obtain⟨t,rfl⟩:=r;rfl
 | str _=>obtain⟨t,rfl⟩:=r;rfl
 | l9 _=>obtain⟨t,rfl⟩:=r;rfl
 | ql _=>obtain⟨t,rfl⟩:=r;rfl
 | ref _=>cases r;rfl
 | ty _=>cases r;rfl
theorem RelV.inj {x y:V}{u:Value}(r:RelV x u) (q:RelV y u):x=y:=Option.some.inj (r.abs.symm.trans q.abs)
theorem Vals.inj:∀{xs ys:List V}{us:List Value},Vals xs us→Vals ys us→xs=ys
 | _,_,_,.nil,.nil=>rfl
 | _,_,_,.cons r t,.cons fz t'=>by rw[r.inj fz,Vals.inj t t']
section
variable {X:bE}{pins:List (Addr × Obj)}{σ:St}{H:ao}{s:Shared}{a:Addr}{xs ys:List V}
theorem aR.of {K:PySem.W.Frag}(h:H a=some (.lst xs)):aR K H a xs:=.inl (.inl h)
theorem aF.of {K:PySem.W.Frag}(h:H a=some (.tup xs)):aF K H a xs:=.inl (.inl h)
theorem Inv.list (I:Inv X pins σ H s) (h:aR X.K H a xs):∃its:List Value,Vals xs its∧PlainL s.heap a its.toArray∧xs.length≤sizeLine:=by
 rcases h with h | ⟨o,its,n,a8,aj,hd,a5,hz,r⟩
 ·obtain⟨z,its,n,r,e⟩:=h.ok I.bD
  exact⟨its,r,⟨_,n,e,rfl,rfl,rfl⟩,z⟩
 ·refine⟨its.toList,r,⟨o,n,I.gn a o a8,aj,hd,by simpa using a5⟩,?_⟩
  have e:=r.length
  simp only[Array.length_toList]at e
  omega
theorem Inv.tuple (I:Inv X pins σ H s) (h:aF X.K H a xs):∃its:List Value,Vals xs its∧IsTup s.heap a its.toArray∧xs.length≤sizeLine:=by
 rcases h with h | ⟨o,its,n,a8,aj,a5,hz,r⟩
 ·obtain⟨z,its,r,p⟩:=h.ok I.bD
  exact⟨its,r,p,z⟩
 ·refine⟨its.toList,r,⟨o,I.gn a o a8,aj,n,by simpa using a5⟩,?_⟩
  have e:=r.length
  simp only[Array.length_toList]at e
  omega
theorem Inv.CF (I:Inv X pins σ H s) (h:aR X.K H a xs) (h':aR X.K H a ys):xs=ys:=by
 obtain⟨its,r,⟨o,n,e,_,_,d⟩,_⟩:=I.list h
 obtain⟨its',fz,⟨fB,xS,cV,_,_,d'⟩,_⟩:=I.list h'
 rw[e]at cV;cases cV
 rw[d]at d'
 injection d' with fs _
 have:its=its':=by simpa using congrArg Array.toList fs
 subst this
 exact r.inj fz
theorem Inv.Us (I:Inv X pins σ H s) (h:aF X.K H a xs) (h':aF X.K H a ys):xs=ys:=by
 obtain⟨its,r,⟨o,e,_,n,d⟩,_⟩:=I.tuple h
 obtain⟨its',fz,⟨fB,cV,_,xS,d'⟩,_⟩:=I.tuple h'
 rw[e]at cV;cases cV
 rw[d]at d'
 injection d' with fs _
 have:its=its':=by simpa using congrArg Array.toList fs
 subst this
 exact r.inj fz
end
abbrev bE.lT (X:bE) (E:Value→Shared→Prop):bE:={ X with dF:=E }
abbrev bE.k_ (X:bE):bE:=X.lT fun _ _=>False
theorem bE.Ok.lT {X:bE}(ok:X.Ok) (E:Value→Shared→Prop):(X.lT E).Ok :=
 ⟨ok.mod,ok.kind,ok.glob,ok.blt,ok.above,ok.inj,ok.has,ok.o9,ok.hd,ok.frames,ok.mL,ok.qm,ok.bs,ok.lr,ok.nE,ok.p5,ok.jB,ok.mX⟩
theorem bE.Ok.oG {X:bE}{E:Value→Shared→Prop}(ok:(X.lT E).Ok):X.Ok :=
 ⟨ok.mod,ok.kind,ok.glob,ok.blt,ok.above,ok.inj,ok.has,ok.o9,ok.hd,ok.frames,ok.mL,ok.qm,ok.bs,ok.lr,ok.nE,ok.p5,ok.jB,ok.mX⟩
section
variable {X:bE}{pins:List (Addr × Obj)}{σ:St}{H:ao}{s:Shared}{E:Value→Shared→Prop}
theorem Inv.lT (I:Inv X pins σ H s) (E:Value→Shared→Prop):Inv (X.lT E) pins σ H s:=⟨I.ok.lT E,I.os,I.bare,I.base,I.loc,I.cell,I.free,I.jz,I.pin,I.bD,I.len⟩
theorem Inv.oG (I:Inv (X.lT E) pins σ H s):Inv X pins σ H s:=⟨I.ok.oG,I.os,I.bare,I.base,I.loc,I.cell,I.free,I.jz,I.pin,I.bD,I.len⟩
theorem sl.oG {D:Ends}{f:Flow}{aM:Shared}(h:sl (X.lT E) pins D f aM):sl X pins D f aM:=by
 cases f with
 | next=>obtain⟨bK,ah,I,q⟩:=h;exact⟨bK,ah,I.oG,q⟩
 | brk=>obtain⟨bK,ah,I,q⟩:=h;exact⟨bK,ah,I.oG,q⟩
 | cont=>obtain⟨bK,ah,I,q⟩:=h;exact⟨bK,ah,I.oG,q⟩
 | ret u=>obtain⟨v,bK,ah,I,r,q⟩:=h;exact⟨v,bK,ah,I.oG,r,q⟩
theorem gW.k_ {st:List Stmt}{t:fU}(h:gW X.k_ st t):gW X st t:=fun pins s σ H D I hw =>
 wpAny_mono (h pins s σ H D (I.lT _) hw) (fun _ _ q=>q.oG) fun _ _ z=>False.elim z
end
section
variable {X:bE}{st:Stmt}{rest:List Stmt}{t u:fU}{e:Expr}{b8:TE}{pos:Pos}
def XH:fU:=fun D σ H=>D.c4 σ H
def Yv (t u:fU):fU:=fun D σ H=>t { D with c4:=u D } σ H
theorem cZ:gW X [] XH:=fun _ _ σ H _ I h=>wpAny_execs_nil ⟨σ,H,I,h⟩
theorem bh (ay:kh X st t) (aG:gW X rest u):gW X (st::rest) (Yv t u):=by
 intro pins s σ H D I h
 refine wpAny_execs_cons (bS (ay pins s σ H { D with c4:=u D } I h) fun f s1 q=>?_)
 cases f with
 | next =>
  obtain⟨bK,ah,gc,q⟩:=q
  exact aG pins s1 bK ah D gc q
 | ret v=>exact q
 | brk=>exact q
 | cont=>exact q
theorem aZ (ay:kh X st t):gW X [st] t:=by
 intro pins s σ H D I h
 refine wpAny_execs_cons (bS (ay pins s σ H D I h) fun f s1 q=>?_)
 cases f with
 | next=>exact wpAny_execs_nil q
 | ret v=>exact q
 | brk=>exact q
 | cont=>exact q
theorem Inv.quiet {pins:List (Addr × Obj)}{σ:St}{H:ao}{s:Shared}(I:Inv X pins σ H s):interactive X.env=false:=by simp[interactive,I.ok.kind]
def XJ (b8:TE):fU:=fun D σ H=>b8 σ H fun _ H1=>D.c4 σ H1
theorem dz (he:b3 X e b8) (a5:swapsWith e none pos.line X.env=pure false:=by rfl):kh X (.Expr e pos) (XJ b8):=by
 intro pins s σ H D I h
 exact wpAny_Expr_any (bS (he pins s σ H _ I h) fun v s1 ⟨x,H1,aY,a4,bu⟩=>⟨σ,H1,aY,bu⟩) I.quiet a5
def Yw (b8:TE):fU:=fun D σ H=>b8 σ H D.n6
theorem cF (he:b3 X e b8):kh X (.Return (some e) pos) (Yw b8):=by
 intro pins s σ H D I h
 exact wpAny_Return_some (bS (he pins s σ H _ I h) fun v s1 ⟨x,H1,aY,a4,bu⟩=>⟨x,σ,H1,aY,a4,bu⟩)
def Yz (c:TT) (t u:fU):fU:=fun D σ H=>c σ H fun b H1=>if b=true then t D σ H1 else u D σ H1
theorem b_ {c:Expr}{a b:List Stmt}{n4:TT}(aj:g4 X c n4) (aX:gW X a t) (aa:gW X b u):kh X (.If c a b pos) (Yz n4 t u):=by
 intro pins s σ H D I h
 refine wpAny_If (bS (aj pins s σ H _ I h) fun d s1 ⟨H1,aY,bu⟩=>?_)
 cases d with
 | true=>exact aX pins s1 σ H1 D aY bu
 | false=>exact aa pins s1 σ H1 D aY bu
end
abbrev jU:=V→St→ao→(St→ao→Prop)→Prop
abbrev rR:=List V→St→ao→(St→ao→Prop)→Prop
def vv (X:bE) (target:Expr) (t:jU):Prop :=
 ∀(pins:List (Addr × Obj)) (s:Shared) (σ:St) (H:ao) (v:V) (u:Value) (Q:St→ao→Prop),Inv X pins σ H s→RelV v u→t v σ H Q →
  wpAny (model X.prog X.w) X.A (assign target X.env u) (fun _ aM=>∃bK ah,Inv X pins bK ah aM∧Q bK ah) X.dF s
def Bo (X:bE) (aO:List Expr) (t:rR):Prop :=
 ∀(pins:List (Addr × Obj)) (s:Shared) (σ:St) (H:ao) (vs:List V) (us:List Value) (Q:St→ao→Prop),Inv X pins σ H s→Vals vs us→t vs σ H Q →
  wpAny (model X.prog X.w) X.A (assignInOrder ((assignEach aO X.env).map (·.2)) us) (fun _ aM=>∃bK ah,Inv X pins bK ah aM∧Q bK ah) X.dF s
abbrev D9:=V→V→V→ao→(ao→Prop)→Prop
def Ml (X:bE) (t:D9):Prop :=
 ∀(pins:List (Addr × Obj)) (s:Shared) (σ:St) (H:ao) (o i v:V) (bT iC u:Value) (Q:ao→Prop),Inv X pins σ H s→RelV o bT→RelV i iC→RelV v u→t o i v H Q →
  wpAny (model X.prog X.w) X.A (setItem bT iC u) (fun _ aM=>∃ah,Inv X pins σ ah aM∧Q ah) X.dF s
section
variable {X:bE}{pos:Pos}
def Ko (i:Nat):jU:=fun v σ H Q=>Q (σ.set i (some v)) H
theorem fj {i:Nat}{x:Str}(gP:X.N.Nodup) (aL:X.N[i]?=some x) (bg:Loc X.env.scope x) (hf:X.fn x=true∨X.env.scope.names.lookup x=some .local:=by first | exact .inl rfl | exact .inr rfl | assumption):vv X (.Name x pos) (Ko i):=by
 intro pins s σ H v u Q I r h
 exact wpAny_assign_Name (I0 I gP aL bg r (fun aM gc=>⟨_,H,gc,h⟩) hf)
def adi:rR:=fun vs σ H Q=>vs=[]∧Q σ H
def Yn (t:jU) (u:rR):rR:=fun vs σ H Q=>∃v r,vs=v::r∧t v σ H fun bK ah=>u r bK ah Q
theorem pQ:Bo X [] adi:=by
 intro pins s σ H vs us Q I r h
 obtain⟨e,h⟩:=h
 subst e
 cases r
 exact assignInOrder_nil ⟨σ,H,I,h⟩
theorem jr {e:Expr}{aE:List Expr}{t:jU}{u:rR}(ay:vv X e t) (aG:Bo X aE u)
  (a5:(assignEach (e::aE) X.env).map (·.2)=assign e X.env::(assignEach aE X.env).map (·.2):=by rfl):Bo X (e::aE) (Yn t u):=by
 intro pins s σ H vs us Q I r h
 obtain⟨v,amv,aJ,h⟩:=h
 subst aJ
 cases r with
 | cons r pd =>
  rw[a5]
  refine assignInOrder_cons (bS (ay pins s σ H _ _ _ I r h) fun _ s1 ⟨jd,H1,aY,bu⟩=>?_)
  exact aG pins s1 jd H1 _ _ Q aY pd bu
def adg (K:PySem.W.Frag) (n:Nat) (t:rR):jU:=fun v σ H Q=>∃a xs,v=.ref a∧aF K H a xs∧xs.length=n∧t xs σ H Q
theorem pU {aE:List Expr}{k:Nat}{t:rR}{n:Nat}(aj:X.calm=true) (h:Bo X aE t)
  (aS:(assignEach aE X.env).length=n:=by rfl) (ja:(assignEach aE X.env).findIdx? (·.1)=none:=by rfl):vv X (.Tuple aE k pos) (adg X.K n t):=by
 intro pins s σ H v u Q I r hw
 obtain⟨a,xs,aJ,bN,az,hw⟩:=hw
 subst aJ
 cases r
 obtain⟨its,bp,a6,hz⟩:=I.tuple bN
 refine assign_Tuple_tuple (I.ok.hd aj) a6 (by simp[aS,←az,bp.length]) ja fun h' bg=>?_
 have aY:Inv X pins σ H { s with heap:=h' }:=I.kept (t':=s.toks) fun b o e=>bg b o (ne_of_lt (lt_size e)) e
 exact h pins _ σ H xs _ Q aY (by simpa using bp) hw
def adh (to Bw:TE) (t:D9):jU:=fun v σ H Q=>to σ H fun o H1=>Bw σ H1 fun i au=>t o i v au fun a9=>Q σ a9
theorem tx {o i:Expr}{to Bw:TE}{t:D9}(aH:b3 X o to) (aL:b3 X i Bw) (a5:Ml X t)
  (aX:∀v,assign (.Subscript o i pos) X.env v=(do
   let bT ← holding [v] (eval o X.env)
   let iC ← holding [v,bT] (eval i X.env)
   standAt pos
   holding [v,bT,iC] (setItem bT iC v)
   release [v,bT,iC] []):=by intro _;rfl):vv X (.Subscript o i pos) (adh to Bw t):=by
 intro pins s σ H v u Q I r h
 rw[aX]
 refine wpAny_bind (wpAny_holding (bS (aH pins s σ H _ I h) fun bT s1 ⟨x,H1,aY,a4,bu⟩=>?_))
 refine wpAny_bind (wpAny_holding (bS (aL pins s1 σ H1 _ aY bu) fun iC s2 ⟨y,au,cH,bH,aV⟩=>?_))
 refine wpAny_bind (wpAny_standAt (wpAny_bind (wpAny_holding (bS (a5 pins s2 σ au x y v bT iC u _ cH a4 bH r aV) fun _ s3 ⟨a9,cQ,eV⟩=>?_))))
 exact wpAny_release ⟨σ,a9,cQ,eV⟩
def KP (b8:TE) (g:jU):fU:=fun D σ H=>b8 σ H fun x H1=>g x σ H1 D.c4
theorem oH {fp e:Expr}{b8:TE}{g:jU}(he:b3 X e b8) (cA:vv X fp g) (a5:swapsWithSole [fp] e pos.line X.env=pure false:=by rfl) (hw:swappedStores [fp] e X.env=pure none:=by rfl)
  (ay:(assignEach [fp] X.env).map (·.2)=[assign fp X.env]:=by rfl):kh X (.Assign [fp] e pos) (KP b8 g):=by
 intro pins s σ H D I h
 refine wpAny_Assign_stores (bS (he pins s σ H _ I h) fun v s1 ⟨x,H1,aY,a4,bu⟩=>?_) a5 hw
 rw[ay]
 exact bS (cA pins s1 σ H1 x v _ aY a4 bu) fun _ s2 q=>q
theorem dm {i:Nat}{x:Str}{e:Expr}{b8:TE}{pos':Pos}(gP:X.N.Nodup) (aL:X.N[i]?=some x) (bg:Loc X.env.scope x) (he:b3 X e b8) (a5:swapsWith e (some (.Name x pos')) pos.line X.env=pure false:=by rfl) (hf:X.fn x=true∨X.env.scope.names.lookup x=some .local:=by first | exact .inl rfl | exact .inr rfl | assumption) :
  kh X (.Assign [.Name x pos'] e pos) (KP b8 (Ko i)):=by
 intro pins s σ H D I h
 refine wpAny_Assign_Name (bS (he pins s σ H _ I h) fun v s1 ⟨y,H1,aY,a4,bu⟩=>?_) a5
 exact I0 aY gP aL bg a4 (fun s2 cH=>⟨_,H1,cH,bu⟩) hf
end
section
variable {X:bE}{pos:Pos}
def WK (c:TT) (dG:fU):fU:=fun D σ H=>∃W:Nat→St→ao→Prop,(∃m,W m σ H)∧∀m σ H,W m σ H →
 c σ H fun b H1=>if b=true then ∃N:St→ao→Prop,(∀bK ah,N bK ah→∃fS,fS<m∧W fS bK ah)∧dG { D with c4:=N,ff:=N,hv:=D.c4 } σ H1 else D.c4 σ H1
theorem Vn {c:Expr}{body:List Stmt}{n4:TT}{dG:fU}(aI:PassesOwn (model X.prog X.w) X.A X.env X.dF) (aj:g4 X c n4) (aa:gW X body dG):kh X (.While c body [] pos) (WK n4 dG):=by
 intro pins s σ H D I h
 obtain⟨W,⟨m0,rY⟩,turn⟩:=h
 refine wpAny_While (codeAny_whileLoop (fun n aM=>∃bK ah,Inv X pins bK ah aM∧W n bK ah) ?_ m0 ⟨σ,H,I,rY⟩)
 rintro n s1 ⟨jd,H1,aY,fH⟩
 refine wpAny_passesOwn aI (bS (aj pins s1 jd H1 _ aY (turn n jd H1 fH)) fun b s2 ⟨au,cH,aV⟩=>?_)
 cases b with
 | true =>
  obtain⟨N,gP,aV⟩:=aV
  rw[if_pos rfl]
  refine wpAny_passesOwn aI (bS (aa pins s2 jd au _ cH aV) fun f s3 eV=>?_)
  cases f with
  | next =>
   obtain⟨m1,a9,cQ,ej⟩:=eV
   obtain⟨fS,hm,iT⟩:=gP m1 a9 ej
   exact⟨fS,hm,m1,a9,cQ,iT⟩
  | cont =>
   obtain⟨m1,a9,cQ,ej⟩:=eV
   obtain⟨fS,hm,iT⟩:=gP m1 a9 ej
   exact⟨fS,hm,m1,a9,cQ,iT⟩
  | brk=>exact eV
  | ret v=>exact eV
 | false =>
  rw[if_neg Bool.false_ne_true]
  exact wpAny_execs_nil ⟨jd,au,cH,aV⟩
end
structure ki where
 go:Nat→ao→Prop
 oV:Nat→ao→V→ao→Prop
 stop:Nat→ao→Prop
def mK (X:bE) (pins:List (Addr × Obj)) (H:ao) (b:Addr):Prop :=
 H b=none∧b≠X.env.locals∧b∉X.bL∧(b∈X.ex∨X.fJ.heap.objs.size≤b)∧(∀x c,X.env.cells.lookup x=some c→c≠b)∧∀p∈X.bz++pins,p.1≠b
theorem Inv.rr {X:bE}{pins:List (Addr × Obj)}{σ:St}{H ah:ao}{s:Shared}{b:Addr}(I:Inv X pins σ H s) (aa:s.heap.objs.size≤b) (aS:ah b=none):mK X pins ah b:=by
 refine⟨aS,ne_of_gt (lt_of_lt_of_le I.lt aa),I.ab4 aa,.inr (le_trans I.e9 aa),fun x c e z=>?_,fun p aI z=>?_⟩
 ·obtain⟨v,q⟩:=I.cell x c e
  exact absurd (lt_of_lt_of_le q.lt (by rw[z];exact aa)) (lt_irrefl _)
 ·exact absurd (lt_of_lt_of_le (lt_size (I.pin p aI).1) (by rw[z];exact aa)) (lt_irrefl _)
structure Turn (P:Program) (w:World) (K:PySem.W.Frag) (fp:Expr) (J:ki) (b5:List Addr) (it:Addr) (gD:Nat→Heap→Prop):Prop where
 mem:it∈b5
 obj:∀i h,gD i h→∀b∈b5,∃o,h.get? b=some o∧∀v,o.data≠.cell v
 keep:∀i h h',gD i h→(∀b∈b5,∀o,h.get? b=some o→h'.get? b=some o)→gD i h'
 item:∀(X:bE),X.prog=P→X.w=w→X.K=K→X.calm=true→∀(i:Nat) (pins:List (Addr × Obj)) (s:Shared) (σ:St) (H:ao) (E:Value→Shared→Prop),Inv X pins σ H s→(∀b∈b5,mK X pins H b)→gD i s.heap→J.go i H →
  wpAny (model P w) X.A (pyNext (.ref it)) (fun r s1=>∃u,r=some u ∧
   wpAny (model P w) X.A (letOwnedTupleGo fp (.ref it) u) (fun _ s2=>∃x ah,Inv X pins σ ah s2∧RelV x u∧J.oV i H x ah∧gD (i+1) s2.heap∧∀b∈b5,ah b=none) E s1) E s
 done:∀(X:bE),X.prog=P→X.w=w→X.K=K→X.calm=true→∀(i:Nat) (pins:List (Addr × Obj)) (s:Shared) (σ:St) (H:ao) (E:Value→Shared→Prop),Inv X pins σ H s→(∀b∈b5,mK X pins H b)→gD i s.heap→J.stop i H →
  wpAny (model P w) X.A (pyNext (.ref it)) (fun r s1=>r=none∧Inv X pins σ H s1) E s
 self:∀(A:Around) (i:Nat) (s:Shared) (Q:Value→Shared→Prop) (E:Value→Shared→Prop),gD i s.heap→Q (.ref it) s→wpAny (model P w) A (pyIter (.ref it)) Q E s
abbrev TI:=St→ao→(ki→ao→Prop)→Prop
def QN (X:bE) (pins:List (Addr × Obj)) (σ:St) (fp:Expr) (R:ki→ao→Prop) (Ay:Value) (s2:Shared):Prop :=
 ∃(it:Addr) (b5:List Addr) (gD:Nat→Heap→Prop) (J:ki) (ah:ao),Ay=.ref it∧Inv X pins σ ah s2∧Turn X.prog X.w X.K fp J b5 it gD∧gD 0 s2.heap∧(∀b∈b5,mK X pins ah b)∧R J ah
def qH (X:bE) (fp iter:Expr) (hp:TI):Prop :=
 ∀(pins:List (Addr × Obj)) (s:Shared) (σ:St) (H:ao) (R:ki→ao→Prop),Inv X pins σ H s→hp σ H R →
  wpAny (model X.prog X.w) X.A (eval iter X.env) (fun v s1=>wpAny (model X.prog X.w) X.A (pyIter v) (QN X pins σ fp R) X.dF s1) X.dF s
theorem zI {M:Model}{A:Around}{E:Value→Shared→Prop}{s:Shared}{fp:Expr}{it:Addr}{u:Value}{o:Obj}{n:String}{vs:Array Value}{Q:Unit→Shared→Prop}(aH:s.heap.get? it=some o) (aj:o.cls=.type n) (hd:o.data=.fields vs)
  (aS:["enumerate","zip","dict_itemiterator","dict_reverseitemiterator","odict_iterator","itertools.zip_longest","itertools.pairwise"].contains n=false) (pk:Q () s):wpAny M A (letOwnedTupleGo fp (.ref it) u) Q E s:=by
 unfold letOwnedTupleGo
 cases fp <;> first
  | exact wpAny_pure pk
  | (cases u <;> first
    | exact wpAny_pure pk
    | (refine wpAny_bind (wpAny_load aH ?_);rw[aj,hd];show wpAny M A (if (["enumerate","zip","dict_itemiterator","dict_reverseitemiterator","odict_iterator","itertools.zip_longest","itertools.pairwise"].contains n && vs[0]? == some (rawInt _))=true then _ else _) Q E s;rw[if_neg (by intro h;rw[aS,Bool.false_and]at h;cases h)];exact wpAny_pure pk))
def o_ (K:PySem.W.Frag) (a:Addr):ki :=
 ⟨fun i H=>∃xs x,aR K H a xs∧xs[i]?=some x,fun i H x ah=>ah=H∧∀xs,aR K H a xs→xs[i]?=some x,fun i H=>∃xs,aR K H a xs∧xs.length≤i⟩
def xD (K:PySem.W.Frag) (a:Addr):ki :=
 ⟨fun i H=>∃xs x,aF K H a xs∧xs[i]?=some x,fun i H x ah=>ah=H∧∀xs,aF K H a xs→xs[i]?=some x,fun i H=>∃xs,aF K H a xs∧xs.length≤i⟩
def rT (lo:Int) (n:Nat):ki:=⟨fun i _=>i<n,fun i H x ah=>ah=H∧x=.int (lo+i),fun i _=>n≤i⟩
theorem Uq {P:Program}{w:World}{K:PySem.W.Frag}{fp:Expr}(a it:Addr):Turn P w K fp (o_ K a) [it] it (fun i h=>h.IsListIter it a i) where
 mem:=by simp
 obj:=fun i h st b aa=>by
  have e:b=it:=by simpa using aa
  subst e
  obtain⟨o,e,c,d⟩:=st
  exact⟨o,e,fun v z=>by rw[d]at z;cases z⟩
 keep:=fun i h h' st k=>st.at fun o e=>k it (by simp) o e
 item:=by
  intro X gs hw hF aj i pins s σ H E I hf st cA
  subst gs hw hF
  obtain⟨xs,x,bN,bg⟩:=cA
  obtain⟨its,bp,p,hz⟩:=I.list bN
  obtain⟨u,a7,eg⟩:=bp.get bg
  obtain⟨f0,f1,f2,eL,f4,e6⟩:=hf it (by simp)
  refine wpAny_pyNext_list_item st p.isList (x:=u) (by simpa using a7) fun h' g7 lx=>?_
  have aY:Inv X pins σ H { s with heap:=h' }:=I.turned (t':=s.toks) (fun b o aa e=>(lx.2 b aa).trans e) f0 f1 eL f4 e6
  obtain⟨o,e,c,d⟩:=id g7
  exact⟨u,rfl,zI (s:={ s with heap:=h' }) e c d (by decide) ⟨x,H,aY,eg,⟨rfl,fun ys cg=>by rw[I.CF cg bN];exact bg⟩,g7,fun b aa=>(hf b aa).1⟩⟩
 done:=by
  intro X gs hw hF aj i pins s σ H E I hf st cA
  subst gs hw hF
  obtain⟨xs,bN,bg⟩:=cA
  obtain⟨its,bp,p,hz⟩:=I.list bN
  obtain⟨f0,f1,f2,eL,f4,e6⟩:=hf it (by simp)
  have az:=bp.length
  exact wpAny_pyNext_list_end (I.ok.hd aj) st p.isList (by simp;omega) fun h' dT=>⟨rfl,I.turned (t':=s.toks) (fun b o aa e=>dT b o aa e) f0 f1 eL f4 e6⟩
 self:=fun _ _ _ _ _ st h=>wpAny_pyIter_listiter st h
theorem T5 {P:Program}{w:World}{K:PySem.W.Frag}{fp:Expr}(a it:Addr):Turn P w K fp (xD K a) [it] it (fun i h=>h.IsTupleIter it a i) where
 mem:=by simp
 obj:=fun i h st b aa=>by
  have e:b=it:=by simpa using aa
  subst e
  obtain⟨o,e,c,d⟩:=st
  exact⟨o,e,fun v z=>by rw[d]at z;cases z⟩
 keep:=fun i h h' st k=>st.at fun o e=>k it (by simp) o e
 item:=by
  intro X gs hw hF aj i pins s σ H E I hf st cA
  subst gs hw hF
  obtain⟨xs,x,bN,bg⟩:=cA
  obtain⟨its,bp,p,hz⟩:=I.tuple bN
  obtain⟨u,a7,eg⟩:=bp.get bg
  obtain⟨f0,f1,f2,eL,f4,e6⟩:=hf it (by simp)
  refine wpAny_pyNext_tuple_item st (show s.heap.IsTuple a its.toArray from p) (x:=u) (by simpa using a7) fun h' g7 lx=>?_
  have aY:Inv X pins σ H { s with heap:=h' }:=I.turned (t':=s.toks) (fun b o aa e=>(lx.2 b aa).trans e) f0 f1 eL f4 e6
  obtain⟨o,e,c,d⟩:=id g7
  exact⟨u,rfl,zI (s:={ s with heap:=h' }) e c d (by decide) ⟨x,H,aY,eg,⟨rfl,fun ys cg=>by rw[I.Us cg bN];exact bg⟩,g7,fun b aa=>(hf b aa).1⟩⟩
 done:=by
  intro X gs hw hF aj i pins s σ H E I hf st cA
  subst gs hw hF
  obtain⟨xs,bN,bg⟩:=cA
  obtain⟨its,bp,p,hz⟩:=I.tuple bN
  obtain⟨f0,f1,f2,eL,f4,e6⟩:=hf it (by simp)
  have az:=bp.length
  exact wpAny_pyNext_tuple_end (I.ok.hd aj) st (show s.heap.IsTuple a its.toArray from p) (by simp;omega) fun h' dT=>⟨rfl,I.turned (t':=s.toks) (fun b o aa e=>dT b o aa e) f0 f1 eL f4 e6⟩
 self:=fun _ _ _ _ _ st h=>wpAny_pyIter_tupleiter st h
theorem T6 {P:Program}{w:World}{K:PySem.W.Frag}{fp:Expr}(it:Addr) (lo:Int) (n:Nat):Turn P w K fp (rT lo n) [it] it (fun i h=>IsRangeIter h it (lo+(i:Nat) * 1) ((n:Int) - (i:Nat)) 1) where
 mem:=by simp
 obj:=fun i h st b aa=>by
  have e:b=it:=by simpa using aa
  subst e
  exact⟨_,st,fun v z=>by
   have iv:Data.fields _=Data.cell v:=z
   cases iv⟩
 keep:=fun i h h' st k=>k it (by simp) _ st
 item:=by
  intro X gs hw hF aj i pins s σ H E I hf st cA
  subst gs hw hF
  obtain⟨f0,f1,f2,eL,f4,e6⟩:=hf it (by simp)
  have W:=Walks.range (prog:=X.prog) (w:=X.w) (I.ok.hd aj) it lo 1 n
  refine W.item i s _ _ cA st fun v h' bG br g7 qz=>?_
  obtain⟨t,rfl⟩:=br
  have aY:Inv X pins σ H { s with heap:=h',toks:=bG }:=I.turned (fun b o aa e=>qz b o (by simpa using aa) e) f0 f1 eL f4 e6
  refine⟨_,rfl,zI (s:={ s with heap:=h',toks:=bG }) (n:="range_iterator") g7 rfl rfl (by decide) ⟨.int (lo+i),H,aY,⟨t,?_⟩,⟨rfl,rfl⟩,g7,fun b aa=>(hf b aa).1⟩⟩
  rw[Int.mul_one]
 done:=by
  intro X gs hw hF aj i pins s σ H E I hf st cA
  subst gs hw hF
  obtain⟨f0,f1,f2,eL,f4,e6⟩:=hf it (by simp)
  exact wpAny_pyNext_range_end (I.ok.hd aj) st (by have:n≤i:=cA;omega) fun h' dT=>⟨rfl,I.turned (t':=s.toks) (fun b o aa e=>dT b o aa e) f0 f1 eL f4 e6⟩
 self:=fun _ _ _ _ _ st h=>wpAny_pyIter_rangeiter st h
section
variable {X:bE}{fp:Expr}
def Yd (K:PySem.W.Frag) (hD:TE):TI:=fun σ H R=>hD σ H fun x H1=>∃a,x=.ref a∧(∃xs,aR K H1 a xs)∧R (o_ K a) H1
def acY (K:PySem.W.Frag) (hD:TE):TI:=fun σ H R=>hD σ H fun x H1=>∃a,x=.ref a∧(∃xs,aF K H1 a xs)∧R (xD K a) H1
theorem ks {l:Expr}{hD:TE}(az:b3 X l hD):qH X fp l (Yd X.K hD):=by
 intro pins s σ H R I h
 refine bS (az pins s σ H _ I h) fun v s1 ⟨x,H1,aY,a4,bu⟩=>?_
 obtain⟨a,e,⟨xs,bN⟩,q⟩:=bu
 subst e
 cases a4
 obtain⟨its,bp,p,hz⟩:=aY.list bN
 refine wpAny_pyIter_list p.isList ?_
 refine⟨s1.heap.objs.size,[s1.heap.objs.size],_,_,H1,rfl,aY.kept (t':=s1.toks) fun b o e=>get?_push_of_some _ e,Uq a _,⟨_,get?_push_size _ rfl,rfl,rfl⟩,fun b aa=>?_,q⟩
 have e:b=s1.heap.objs.size:=by simpa using aa
 subst e
 exact aY.rr (le_refl _) (aY.bD.fresh (le_refl _))
theorem JX {l:Expr}{hD:TE}(az:b3 X l hD):qH X fp l (acY X.K hD):=by
 intro pins s σ H R I h
 refine bS (az pins s σ H _ I h) fun v s1 ⟨x,H1,aY,a4,bu⟩=>?_
 obtain⟨a,e,⟨xs,bN⟩,q⟩:=bu
 subst e
 cases a4
 obtain⟨its,bp,p,hz⟩:=aY.tuple bN
 refine wpAny_pyIter_tuple (show s1.heap.IsTuple a its.toArray from p) ?_
 refine⟨s1.heap.objs.size,[s1.heap.objs.size],_,_,H1,rfl,aY.kept (t':=s1.toks) fun b o e=>get?_push_of_some _ e,T5 a _,⟨_,get?_push_size _ rfl,rfl,rfl⟩,fun b aa=>?_,q⟩
 have e:b=s1.heap.objs.size:=by simpa using aa
 subst e
 exact aY.rr (le_refl _) (aY.bD.fresh (le_refl _))
theorem Vj {pins:List (Addr × Obj)}{σ:St}{H:ao}{s:Shared}{R:ki→ao→Prop}{E:Value→Shared→Prop}{lo aL:Int}{t u v:Tok}{bG:Nat}(I:Inv X pins σ H s) (ay : -(2 ^ 62)≤lo) (aG:lo<2 ^ 62) (ct : -(2 ^ 62)≤aL) (dN:aL<2 ^ 62)
  (q:R (rT lo (aL - lo).toNat) H):wpAny (model X.prog X.w) X.A (pyIter (.ref s.heap.objs.size)) (QN X pins σ fp R) E { s with heap:=s.heap.push { cls:=.type "range",data:=.fields #[.int lo t,.int aL u,.int 1 v] },toks:=bG }:=by
 refine wpAny_pyIter_range (IsRange.new ..) (small_one ay aG ct dN) ?_
 have aY:Inv X pins σ H { s with heap:=s.heap.push { cls:=.type "range",data:=.fields #[.int lo t,.int aL u,.int 1 v] },toks:=bG }:=I.kept fun b o e=>get?_push_of_some _ e
 refine⟨(s.heap.push { cls:=.type "range",data:=.fields #[.int lo t,.int aL u,.int 1 v] }).objs.size,[(s.heap.push { cls:=.type "range",data:=.fields #[.int lo t,.int aL u,.int 1 v] }).objs.size],_,_,H,rfl,
  aY.kept (t':=bG) fun b o e=>get?_push_of_some _ e,T6 _ lo (aL - lo).toNat,?_,fun b aa=>?_,q⟩
 ·have aJ:lo+((0:Nat):Int) * 1=lo:=by simp
  have aN:(((aL - lo).toNat:Nat):Int) - ((0:Nat):Int)=Builtin.Range.rangeSize lo aL 1:=by rw[rangeSize_one];split <;> omega
  show IsRangeIter _ _ (lo+((0:Nat):Int) * 1) ((((aL - lo).toNat:Nat):Int) - ((0:Nat):Int)) 1
  rw[aJ,aN]
  exact get?_push_size _ rfl
 ·have e:b=(s.heap.push { cls:=.type "range",data:=.fields #[.int lo t,.int aL u,.int 1 v] }).objs.size:=by simpa using aa
  subst e
  exact aY.rr (le_refl _) (aY.bD.fresh (le_refl _))
def Yc (c1:h5):TI:=fun σ H R=>c1 σ H fun vs H1=>∃j:Int,vs=[.int j] ∧ -(2 ^ 62)≤j∧j<2 ^ 62∧R (rT 0 j.toNat) H1
theorem qQ {a:Expr}{c1:h5}{p pos:Pos}(cA:kX X "range") (hm:X.ai "range"=none) (aX:lG X [a] c1) (a5:starEach [a] X.env=[(false,eval a X.env)]:=by rfl):qH X fp (.Call (.Name "range" p) [a] [] pos) (Yc c1):=by
 intro pins s σ H R I h
 refine Call_ (pV I cA hm boot_range (PyProof.Rows.callWith_type1 (bS (aX pos pins s σ H _ I h) fun us s1 ⟨vs,H1,aY,a4,bu⟩=>?_) a5 rfl))
 obtain⟨j,e,bu,aV,q⟩:=bu
 subst e
 cases a4 with
 | cons r pd =>
  cases pd
  obtain⟨t,rfl⟩:=r
  exact call_range_1 (Vj aY (by omega) (by omega) bu aV (by simpa using q))
def YA (hp:TI) (g:jU) (dG:fU):fU:=fun D σ H=>hp σ H fun J H1=>∃W:Nat→Nat→St→ao→Prop,(∃m,W 0 m σ H1)∧∀i m σ H,W i m σ H →
 (J.stop i H∧D.c4 σ H)∨(J.go i H∧∃N:St→ao→Prop,(∀bK ah,N bK ah→∃fS,fS<m∧W (i+1) fS bK ah)∧∀x ah,J.oV i H x ah→g x σ ah fun g9 au=>dG { D with c4:=N,ff:=N,hv:=D.c4 } g9 au)
def wg (b5:List Addr) (h:Heap):List (Addr × Obj):=b5.filterMap fun b=>(h.get? b).map fun o=>(b,o)
theorem sC {b5:List Addr}{h:Heap}{b:Addr}{o:Obj}(aa:b∈b5) (e:h.get? b=some o):(b,o)∈wg b5 h:=List.mem_filterMap.mpr ⟨b,aa,by rw[e];rfl⟩
theorem UK {b5:List Addr}{h:Heap}{p:Addr × Obj}(aI:p∈wg b5 h):p.1∈b5∧h.get? p.1=some p.2:=by
 obtain⟨b,aa,e⟩:=List.mem_filterMap.mp aI
 cases q:h.get? b with
 | none=>rw[q]at e;cases e
 | some o =>
  rw[q]at e
  have cV:(b,o)=p:=Option.some.inj e
  subst cV
  exact⟨aa,q⟩
theorem Inv.pinned {pins:List (Addr × Obj)}{σ:St}{H:ao}{s:Shared}{b5:List Addr}(I:Inv X pins σ H s) (hf:∀b∈b5,mK X pins H b) (aH:∀b∈b5,∃o,s.heap.get? b=some o∧∀v,o.data≠.cell v):Inv X (pins++wg b5 s.heap) σ H s :=
 I.Jw fun p aI=>(mem_append.mp aI).elim (fun z=>I.pin p (mem_append_right _ z)) fun z=>by
  obtain⟨aa,e⟩:=UK z
  obtain⟨f0,f1,f2,_⟩:=hf p.1 aa
  obtain⟨o,cV,d⟩:=aH p.1 aa
  rw[e]at cV;cases cV
  exact⟨e,f0,f1,f2,d⟩
theorem Inv.vS {pins pl:List (Addr × Obj)}{σ:St}{H:ao}{s:Shared}(I:Inv X (pins++pl) σ H s):Inv X pins σ H s:=I.Jw fun p aI=>I.pin p (mem_append_right _ (mem_append_left _ aI))
theorem hA {iter:Expr}{body:List Stmt}{hp:TI}{g:jU}{dG:fU}{pos:Pos}(aI:PassesOwn (model X.prog X.w) X.A X.env X.dF) (aj:X.calm=true) (aL:qH X fp iter hp) (cA:vv X fp g) (aa:gW X body dG)
  (a5:∀x,foldedSetIterable iter X.env x=pure x:=by intro _;rfl):kh X (.For fp iter body [] pos) (YA hp g dG):=by
 intro pins s σ H D I h
 refine wpAny_For (bS (aL pins s σ H _ I h) fun v s1 ay=>bS ay fun Ay s2 aG=>?_) a5
 obtain⟨it,b5,gD,J,au,e,cH,T,wQ,f2,W,⟨m0,rY⟩,turn⟩:=aG
 subst e
 have mH:∀{ah:ao},(∀b∈b5,ah b=none)→∀b∈b5,mK X pins ah b:=fun aS b aa=>⟨aS b aa,(f2 b aa).2⟩
 refine codeAny_forLoop_any (fun n aM=>∃i bK ah,Inv X pins bK ah aM∧gD i aM.heap∧(∀b∈b5,ah b=none)∧W i n bK ah) ?_ m0 ⟨0,σ,au,cH,wQ,fun b aa=>(f2 b aa).1,rY⟩
 rintro n s3 ⟨i,m1,a9,cQ,lY,qk,iT⟩
 rcases turn i n m1 a9 iT with ⟨stop,Gn⟩ | ⟨go,N,gP,step⟩
 ·refine wpAny_passesOwn aI (bS (T.done X rfl rfl rfl aj i pins s3 m1 a9 X.dF cQ (mH qk) lY stop) fun r s4 ⟨aC,kk⟩=>?_)
  subst aC
  exact wpAny_execs_nil ⟨m1,a9,kk,Gn⟩
 ·refine wpAny_passesOwn aI (bS (T.item X rfl rfl rfl aj i pins s3 m1 a9 X.dF cQ (mH qk) lY go) fun r s4 ⟨u,aC,dN⟩=>?_)
  subst aC
  refine wpAny_passesOwn aI (bS dN fun _ s5 ⟨x,d4,so,m3,xK,mM,xq⟩=>?_)
  have xF:=so.pinned (mH xq) (T.obj _ _ mM)
  refine wpAny_passesOwn aI (bS (cA _ s5 m1 d4 x u _ xF m3 (step x d4 xK)) fun _ je ⟨Gf,kW,yh,Gp⟩=>?_)
  refine wpAny_passesOwn aI (bS (aa _ je Gf kW _ yh Gp) fun f e_ m4=>?_)
  have again:∀{mZ:St} {fP:ao},Inv X (pins++wg b5 s5.heap) mZ fP e_→N mZ fP→∃m,m<n∧∃i bK ah,Inv X pins bK ah e_∧gD i e_.heap∧(∀b∈b5,ah b=none)∧W i m bK ah:=fun {mZ fP} kj gN=>by
   obtain⟨fS,hm,rW⟩:=gP mZ fP gN
   refine⟨fS,hm,i+1,mZ,fP,kj.vS,T.keep _ _ _ mM fun b aa o e=>(kj.pin (b,o) (mem_append_right _ (mem_append_right _ (sC aa e)))).1,fun b aa=>?_,rW⟩
   obtain⟨o,e,d⟩:=T.obj _ _ mM b aa
   exact (kj.pin (b,o) (mem_append_right _ (mem_append_right _ (sC aa e)))).2.1
  cases f with
  | next=>obtain⟨mZ,fP,kj,gN⟩:=m4;exact again kj gN
  | cont=>obtain⟨mZ,fP,kj,gN⟩:=m4;exact again kj gN
  | brk=>obtain⟨mZ,fP,kj,m4⟩:=m4;exact⟨mZ,fP,kj.vS,m4⟩
  | ret v=>obtain⟨akg,mZ,fP,kj,akn,m4⟩:=m4;exact⟨akg,mZ,fP,kj.vS,akn,m4⟩
end
theorem nx {K:PySem.W.Frag}{a:Addr}{xs:List V}{g:jU}{dG:fU}{D:Ends}{σ:St}{H:ao}(Pv:Nat→St→ao→Prop) (h0:Pv 0 σ H) (az:∀i σ H,i≤xs.length→Pv i σ H→aR K H a xs)
  (a5:∀i x σ H,xs[i]?=some x→Pv i σ H→g x σ H fun g9 au=>dG { D with c4:=Pv (i+1),ff:=Pv (i+1),hv:=D.c4 } g9 au) (hd:∀σ H,Pv xs.length σ H→D.c4 σ H) :
  ∃W:Nat→Nat→St→ao→Prop,(∃m,W 0 m σ H)∧∀i m σ H,W i m σ H →
   ((o_ K a).stop i H∧D.c4 σ H)∨((o_ K a).go i H∧∃N:St→ao→Prop,(∀bK ah,N bK ah→∃fS,fS<m∧W (i+1) fS bK ah)∧∀x ah,(o_ K a).oV i H x ah→g x σ ah fun g9 au=>dG { D with c4:=N,ff:=N,hv:=D.c4 } g9 au):=by
 refine⟨fun i m σ H=>m=xs.length - i∧i≤xs.length∧Pv i σ H,⟨xs.length,by simp,zero_le _,h0⟩,?_⟩
 rintro i m σ H ⟨rfl,aL,p⟩
 have q:=az i σ H aL p
 by_cases dw:i<xs.length
 ·refine .inr ⟨⟨xs,xs[i],q,by simp[dw]⟩,Pv (i+1),fun bK ah ec=>⟨xs.length - (i+1),by omega,rfl,dw,ec⟩,fun x ah y=>?_⟩
  obtain⟨e,y⟩:=y
  subst e
  exact a5 i x σ _ (y xs q) p
 ·have e:i=xs.length:=by omega
  subst e
  exact .inl ⟨⟨xs,q,le_refl _⟩,hd σ H p⟩
theorem zb {K:PySem.W.Frag}{a:Addr}{xs:List V}{g:jU}{dG:fU}{D:Ends}{σ:St}{H:ao}(Pv:Nat→St→ao→Prop) (h0:Pv 0 σ H) (az:∀i σ H,i≤xs.length→Pv i σ H→aF K H a xs)
  (a5:∀i x σ H,xs[i]?=some x→Pv i σ H→g x σ H fun g9 au=>dG { D with c4:=Pv (i+1),ff:=Pv (i+1),hv:=D.c4 } g9 au) (hd:∀σ H,Pv xs.length σ H→D.c4 σ H) :
  ∃W:Nat→Nat→St→ao→Prop,(∃m,W 0 m σ H)∧∀i m σ H,W i m σ H →
   ((xD K a).stop i H∧D.c4 σ H)∨((xD K a).go i H∧∃N:St→ao→Prop,(∀bK ah,N bK ah→∃fS,fS<m∧W (i+1) fS bK ah)∧∀x ah,(xD K a).oV i H x ah→g x σ ah fun g9 au=>dG { D with c4:=N,ff:=N,hv:=D.c4 } g9 au):=by
 refine⟨fun i m σ H=>m=xs.length - i∧i≤xs.length∧Pv i σ H,⟨xs.length,by simp,zero_le _,h0⟩,?_⟩
 rintro i m σ H ⟨rfl,aL,p⟩
 have q:=az i σ H aL p
 by_cases dw:i<xs.length
 ·refine .inr ⟨⟨xs,xs[i],q,by simp[dw]⟩,Pv (i+1),fun bK ah ec=>⟨xs.length - (i+1),by omega,rfl,dw,ec⟩,fun x ah y=>?_⟩
  obtain⟨e,y⟩:=y
  subst e
  exact a5 i x σ _ (y xs q) p
 ·have e:i=xs.length:=by omega
  subst e
  exact .inl ⟨⟨xs,q,le_refl _⟩,hd σ H p⟩
theorem sH {lo:Int}{n:Nat}{g:jU}{dG:fU}{D:Ends}{σ:St}{H:ao}(Pv:Nat→St→ao→Prop) (h0:Pv 0 σ H)
  (a5:∀i σ H,i<n→Pv i σ H→g (.int (lo+i)) σ H fun g9 au=>dG { D with c4:=Pv (i+1),ff:=Pv (i+1),hv:=D.c4 } g9 au) (hd:∀σ H,Pv n σ H→D.c4 σ H) :
  ∃W:Nat→Nat→St→ao→Prop,(∃m,W 0 m σ H)∧∀i m σ H,W i m σ H →
   ((rT lo n).stop i H∧D.c4 σ H)∨((rT lo n).go i H∧∃N:St→ao→Prop,(∀bK ah,N bK ah→∃fS,fS<m∧W (i+1) fS bK ah)∧∀x ah,(rT lo n).oV i H x ah→g x σ ah fun g9 au=>dG { D with c4:=N,ff:=N,hv:=D.c4 } g9 au):=by
 refine⟨fun i m σ H=>m=n - i∧i≤n∧Pv i σ H,⟨n,by simp,zero_le _,h0⟩,?_⟩
 rintro i m σ H ⟨rfl,aL,p⟩
 by_cases dw:i<n
 ·refine .inr ⟨dw,Pv (i+1),fun bK ah ec=>⟨n - (i+1),by omega,rfl,dw,ec⟩,fun x ah y=>?_⟩
  obtain⟨e,y⟩:=y
  subst e y
  exact a5 i σ _ dw p
 ·have e:i=n:=by omega
  subst e
  exact .inl ⟨le_refl _,hd σ H p⟩
abbrev i2:=V→V→ao→cC→Prop
def gX (X:bE) (f:Value→Value→Sem Value) (r:i2):Prop :=
 ∀(pins:List (Addr × Obj)) (s:Shared) (σ:St) (H:ao) (x y:V) (v u:Value) (Q:cC),Inv X pins σ H s→RelV x v→RelV y u→r x y H Q →
  wpAny (model X.prog X.w) X.A (f v u) (hk X pins σ Q) X.dF s
def F4 (X:bE) (f:Value→Sem Value) (r:V→ao→cC→Prop):Prop :=
 ∀(pins:List (Addr × Obj)) (s:Shared) (σ:St) (H:ao) (x:V) (v:Value) (Q:cC),Inv X pins σ H s→RelV x v→r x H Q →
  wpAny (model X.prog X.w) X.A (f v) (hk X pins σ Q) X.dF s
def mG (X:bE) (f:Value) (r:List V→ao→cC→Prop):Prop :=
 ∀(pins:List (Addr × Obj)) (s:Shared) (σ:St) (H:ao) (xs:List V) (us:List Value) (Q:cC),Inv X pins σ H s→Vals xs us→r xs H Q →
  wpAny (model X.prog X.w) X.A (call f us) (hk X pins σ Q) X.dF s
def z3 (r:i2) (c1 dG:TE):TE:=fun σ H Q=>c1 σ H fun x H1=>dG σ H1 fun y au=>r x y au Q
def afI (r:V→ao→cC→Prop) (c1:TE):TE:=fun σ H Q=>c1 σ H fun x H1=>r x H1 Q
def xQ (C:Int→Int→Prop) (g:Int→Int→V):i2:=fun x y H Q=>∃i j,x=.int i∧y=.int j∧C i j∧Q (g i j) H
def qc (g:Int→Int→V):i2:=fun x y H Q=>∃i j,x=.int i∧y=.int j∧Q (g i j) H
def R7 (g:Int→V):V→ao→cC→Prop:=fun x H Q=>∃i,x=.int i∧Q (g i) H
section
variable {X:bE}{a b c:Expr}{c1 dG n4:TE}{pos:Pos}
theorem D8 (aX:b3 X a c1) (aa:b3 X b dG) {pins:List (Addr × Obj)}{s:Shared}{σ:St}{H:ao}{R:V→V→ao→Prop}(I:Inv X pins σ H s)
  (h:c1 σ H fun x H1=>dG σ H1 fun y au=>R x y au) {Q:Value→Shared→Prop} {f:Value→Value→Sem Value}
  (hf:∀v u s2 x y au,Inv X pins σ au s2→RelV x v→RelV y u→R x y au→wpAny (model X.prog X.w) X.A (f v u) Q X.dF s2) :
  wpAny (model X.prog X.w) X.A (eval a X.env) (fun v c5=>wpAny (model X.prog X.w) X.A (eval b X.env) (fun u hW=>wpAny (model X.prog X.w) X.A (f v u) Q X.dF hW) X.dF c5) X.dF s:=by
 refine bS (aX pins s σ H _ I h) fun v s1 ⟨x,H1,aY,a4,bu⟩=>?_
 refine bS (aa pins s1 σ H1 _ aY bu) fun u s2 ⟨y,au,cH,bH,aV⟩=>?_
 exact hf v u s2 x y au cH a4 bH aV
theorem c0 {op:Operator}{r:i2}(aH:gX X (binaryOp op) r) (aX:b3 X a c1) (aa:b3 X b dG):b3 X (.BinOp a op b pos) (z3 r c1 dG):=by
 intro pins s σ H Q I h
 exact wpAny_BinOp (D8 aX aa I h fun v u s2 x y au cH bC bM q=>aH pins s2 σ au x y v u Q cH bC bM q)
theorem tQ {op:UnaryOp}{r:V→ao→cC→Prop}(aH:F4 X (unaryOp op) r) (aX:b3 X a c1):b3 X (.UnaryOp op a pos) (afI r c1):=by
 intro pins s σ H Q I h
 exact UnaryOp_ (bS (aX pins s σ H _ I h) fun v s1 ⟨x,H1,aY,a4,bu⟩=>aH pins s1 σ H1 x v Q aY a4 bu)
theorem Ab {f:Value→Value→Sem Value}{C:Int→Int→Prop}{g:Int→Int→Int}
  (rule:∀(i j:Int) (t u:Tok) (s:Shared) (Q:Value→Shared→Prop) (E:Value→Shared→Prop),C i j→Q (.int (g i j) s.toks) { s with toks:=s.toks+1 }→wpAny (model X.prog X.w) X.A (f (.int i t) (.int j u)) Q E s) :
  gX X f (xQ C fun i j=>.int (g i j)):=by
 intro pins s σ H x y v u Q I bC bM h
 obtain⟨i,j,rfl,rfl,aj,q⟩:=h
 obtain⟨t,rfl⟩:=bC
 obtain⟨t',rfl⟩:=bM
 exact rule i j t t' s _ _ aj ⟨.int (g i j),H,I.tok _,⟨_,rfl⟩,q⟩
theorem K9 {f:Value→Value→Sem Value}{g:Int→Int→Int}
  (rule:∀(i j:Int) (t u:Tok) (s:Shared) (Q:Value→Shared→Prop) (E:Value→Shared→Prop),Q (.int (g i j) s.toks) { s with toks:=s.toks+1 }→wpAny (model X.prog X.w) X.A (f (.int i t) (.int j u)) Q E s) :
  gX X f (qc fun i j=>.int (g i j)):=by
 intro pins s σ H x y v u Q I bC bM h
 obtain⟨i,j,rfl,rfl,q⟩:=h
 obtain⟨t,rfl⟩:=bC
 obtain⟨t',rfl⟩:=bM
 exact rule i j t t' s _ _ ⟨.int (g i j),H,I.tok _,⟨_,rfl⟩,q⟩
theorem zO {f:Value→Value→Sem Value}{g:Int→Int→Bool}
  (rule:∀(i j:Int) (t u:Tok) (s:Shared) (Q:Value→Shared→Prop) (E:Value→Shared→Prop),Q (.bool (g i j)) s→wpAny (model X.prog X.w) X.A (f (.int i t) (.int j u)) Q E s) :
  gX X f (qc fun i j=>.bV (g i j)):=by
 intro pins s σ H x y v u Q I bC bM h
 obtain⟨i,j,rfl,rfl,q⟩:=h
 obtain⟨t,rfl⟩:=bC
 obtain⟨t',rfl⟩:=bM
 exact rule i j t t' s _ _ ⟨.bV (g i j),H,I,rfl,q⟩
def afC (i j:Int):Prop:=0<j∧j<1073741824
def afB (i j:Int):Prop:=0≤j∧j≤1000000∧i.natAbs<2 ^ 64
def Ec (i j:Int):Prop:=(-(2 ^ 64)<i∧i<2 ^ 64)∨(-(2 ^ 64)<j∧j<2 ^ 64)
theorem Ec.ok {i j:Int}(h:Ec i j):IntMulOk i j:=by
 rcases h with ⟨ay,aG⟩ | ⟨ay,aG⟩
 ·exact .of_left (intBits_le_64 ay aG)
 ·exact .of_right (intBits_le_64 ay aG)
theorem gJ:gX X (binaryOp .Add) (qc fun i j=>.int (i+j)):=K9 fun _ _ _ _ _ _ _ q=>add_int q
theorem qZ:gX X (binaryOp .Sub) (qc fun i j=>.int (i - j)):=K9 fun _ _ _ _ _ _ _ q=>sub_int q
theorem zh:gX X (binaryOp .Mult) (xQ Ec fun i j=>.int (i * j)):=Ab fun _ _ _ _ _ _ _ aj q=>mul_int q aj.ok
theorem v5:gX X (binaryOp .FloorDiv) (xQ afC fun i j=>.int (i / j)):=Ab fun i j _ _ _ _ _ aj q=>by
 have ay:(0:Int)<j:=aj.1
 have aG:j<1073741824:=aj.2
 exact floordiv_int (by omega) (by rw[Int.fdiv_eq_ediv_of_nonneg i (by omega)];exact q) (.inl (PyProof.noPylong_small (by omega)))
theorem jv:gX X (binaryOp .Mod) (xQ (fun _ j=>0<j) fun i j=>.int (i % j)):=Ab fun i j _ _ _ _ _ aj q=>by
 have ay:(0:Int)<j:=aj
 exact mod_int' (by omega) (by rw[Int.fmod_eq_emod_of_nonneg i (by omega)];exact q)
theorem Dv:gX X (binaryOp .Pow) (xQ afB fun i j=>.int (i ^ j.toNat)):=Ab fun _ _ _ _ _ _ _ aj q=>pow_int_small aj.1 aj.2.1 aj.2.2 q
theorem afF {f:Value→Sem Value}{g:Int→Int}
  (rule:∀(i:Int) (t:Tok) (s:Shared) (Q:Value→Shared→Prop) (E:Value→Shared→Prop),Q (.int (g i) s.toks) { s with toks:=s.toks+1 }→wpAny (model X.prog X.w) X.A (f (.int i t)) Q E s) :
  F4 X f (R7 fun i=>.int (g i)):=by
 intro pins s σ H x v Q I bC h
 obtain⟨i,rfl,q⟩:=h
 obtain⟨t,rfl⟩:=bC
 exact rule i t s _ _ ⟨.int (g i),H,I.tok _,⟨_,rfl⟩,q⟩
theorem s8:F4 X (unaryOp .USub) (R7 fun i=>.int (-i)):=afF fun _ _ _ _ _ q=>neg_int q
end
def KU:V→V→Bool
 | .cE,.cE=>true | .cE,.int _=>true | .int _,.cE=>true | .cE,.bV _=>true | .bV _,.cE=>true | .cE,.str _=>true | .str _,.cE=>true
 | .int _,.int _=>true | .bV _,.bV _=>true | .str _,.str _=>true | .l9 _,.l9 _=>true
 | .int _,.str _=>true | .str _,.int _=>true | .bV _,.str _=>true | .str _,.bV _=>true
 | _,_=>false
def af3:i2:=fun x y H Q=>KU x y=true∧Q (.bV (decide (x=y))) H
def af2:i2:=fun x y H Q=>KU x y=true∧Q (.bV (!decide (x=y))) H
theorem JE {i j:Int}:decide (V.int i=V.int j)=(i == j):=by
 rw[Bool.eq_iff_iff]
 simp
theorem J6 {i j:Bool}:decide (V.bV i=V.bV j)=(i == j):=by
 rw[Bool.eq_iff_iff]
 simp
theorem JD {i j:Str}:decide (V.str i=V.str j)=(i == j):=by
 rw[Bool.eq_iff_iff]
 simp
theorem JF {i j:Array UInt8}:decide (V.l9 i=V.l9 j)=(i.toList == j.toList):=by
 rw[Bool.eq_iff_iff]
 cases i
 cases j
 simp
section
variable {X:bE}{a b c:Expr}{c1 dG n4:TE}{pos:Pos}
theorem fV {pins:List (Addr × Obj)}{σ:St}{H:ao}{s:Shared}{Q:cC}{k i0:Bool}(I:Inv X pins σ H s) (q:Q (.bV k) H) (e:k=i0):hk X pins σ Q (.bool i0) s:=by
 subst e
 exact⟨.bV k,H,I,rfl,q⟩
theorem dv:gX X (compareOp .Eq) af3:=by
 intro pins s σ H x y v u Q I bC bM h
 obtain⟨a5,q⟩:=h
 cases x with
 | cE =>
  cases bC
  cases y with
  | cE=>cases bM;exact PySem.EqNone.eq_none_none (fV I q (by simp))
  | bV j=>cases bM;exact PySem.EqNone.eq_none_bool (fV I q (by simp))
  | int j=>obtain⟨t',rfl⟩:=bM;exact PySem.EqNone.eq_none_int (fV I q (by simp))
  | str j=>obtain⟨t',rfl⟩:=bM;exact PySem.EqNone.eq_none_str (fV I q (by simp))
  | _=>exact absurd (show false=true from a5) Bool.false_ne_true
 | bV i =>
  cases bC
  cases y with
  | cE=>cases bM;exact PySem.EqNone.eq_bool_none (fV I q (by simp))
  | bV j=>cases bM;exact eq_bool (fV I q J6)
  | str j=>obtain⟨t',rfl⟩:=bM;exact PySem.EqMixed.eq_bool_str (fV I q (by simp))
  | _=>exact absurd (show false=true from a5) Bool.false_ne_true
 | int i =>
  obtain⟨t,rfl⟩:=bC
  cases y with
  | cE=>cases bM;exact PySem.EqNone.eq_int_none (fV I q (by simp))
  | int j=>obtain⟨t',rfl⟩:=bM;exact eq_int (fV I q JE)
  | str j=>obtain⟨t',rfl⟩:=bM;exact PySem.EqMixed.eq_int_str (fV I q (by simp))
  | _=>exact absurd (show false=true from a5) Bool.false_ne_true
 | str i =>
  obtain⟨t,rfl⟩:=bC
  cases y with
  | cE=>cases bM;exact PySem.EqNone.eq_str_none (fV I q (by simp))
  | bV j=>cases bM;exact PySem.EqMixed.eq_str_bool (fV I q (by simp))
  | int j=>obtain⟨t',rfl⟩:=bM;exact PySem.EqMixed.eq_str_int (fV I q (by simp))
  | str j=>obtain⟨t',rfl⟩:=bM;exact eq_str (fV I q JD)
  | _=>exact absurd (show false=true from a5) Bool.false_ne_true
 | l9 i =>
  obtain⟨t,rfl⟩:=bC
  cases y with
  | l9 j=>obtain⟨t',rfl⟩:=bM;exact PySem.W.eq_bytes (fV I q JF)
  | _=>exact absurd (show false=true from a5) Bool.false_ne_true
 | _=>cases y <;> exact absurd (show false=true from a5) Bool.false_ne_true
theorem i5:gX X (compareOp .NotEq) af2:=by
 intro pins s σ H x y v u Q I bC bM h
 obtain⟨a5,q⟩:=h
 cases x with
 | cE =>
  cases bC
  cases y with
  | cE=>cases bM;exact PySem.EqNone.ne_none_none (fV I q (by simp))
  | bV j=>cases bM;exact PySem.EqNone.ne_none_bool (fV I q (by simp))
  | int j=>obtain⟨t',rfl⟩:=bM;exact PySem.EqNone.ne_none_int (fV I q (by simp))
  | str j=>obtain⟨t',rfl⟩:=bM;exact PySem.EqNone.ne_none_str (fV I q (by simp))
  | _=>exact absurd (show false=true from a5) Bool.false_ne_true
 | bV i =>
  cases bC
  cases y with
  | cE=>cases bM;exact PySem.EqNone.ne_bool_none (fV I q (by simp))
  | bV j=>cases bM;exact ne_bool (fV I q (congrArg not J6))
  | str j=>obtain⟨t',rfl⟩:=bM;exact PySem.EqMixed.ne_bool_str (fV I q (by simp))
  | _=>exact absurd (show false=true from a5) Bool.false_ne_true
 | int i =>
  obtain⟨t,rfl⟩:=bC
  cases y with
  | cE=>cases bM;exact PySem.EqNone.ne_int_none (fV I q (by simp))
  | int j=>obtain⟨t',rfl⟩:=bM;exact ne_int (fV I q (congrArg not JE))
  | str j=>obtain⟨t',rfl⟩:=bM;exact PySem.EqMixed.ne_int_str (fV I q (by simp))
  | _=>exact absurd (show false=true from a5) Bool.false_ne_true
 | str i =>
  obtain⟨t,rfl⟩:=bC
  cases y with
  | cE=>cases bM;exact PySem.EqNone.ne_str_none (fV I q (by simp))
  | bV j=>cases bM;exact PySem.EqMixed.ne_str_bool (fV I q (by simp))
  | int j=>obtain⟨t',rfl⟩:=bM;exact PySem.EqMixed.ne_str_int (fV I q (by simp))
  | str j=>obtain⟨t',rfl⟩:=bM;exact ne_str (fV I q (congrArg not JD))
  | _=>exact absurd (show false=true from a5) Bool.false_ne_true
 | l9 i =>
  obtain⟨t,rfl⟩:=bC
  cases y with
  | l9 j=>obtain⟨t',rfl⟩:=bM;exact PySem.W.ne_bytes (fV I q (congrArg not JF))
  | _=>exact absurd (show false=true from a5) Bool.false_ne_true
 | _=>cases y <;> exact absurd (show false=true from a5) Bool.false_ne_true
theorem pW:gX X (compareOp .Lt) (qc fun i j=>.bV (decide (i<j))):=zO fun _ _ _ _ _ _ _ q=>lt_int q
theorem DH:gX X (compareOp .LtE) (qc fun i j=>.bV (decide (i≤j))):=zO fun _ _ _ _ _ _ _ q=>le_int q
theorem pX:gX X (compareOp .Gt) (qc fun i j=>.bV (decide (j<i))):=zO fun _ _ _ _ _ _ _ q=>gt_int q
theorem zD:gX X (compareOp .GtE) (qc fun i j=>.bV (decide (j≤i))):=zO fun _ _ _ _ _ _ _ q=>ge_int q
theorem bY (b:Expr) {op:CmpOp}(h:op≠.In:=by decide) (aG:op≠.NotIn:=by decide):behindInMarks op b=false:=by
 have aJ:(op == CmpOp.In)=false:=by cases op <;> first | rfl | exact absurd rfl h
 have aN:(op == CmpOp.NotIn)=false:=by cases op <;> first | rfl | exact absurd rfl aG
 cases b <;> simp[behindInMarks,aJ,aN]
theorem hx {op:CmpOp}{r:i2}(aH:gX X (compareOp op) r) (aX:b3 X a c1) (aa:b3 X b dG) (hm:behindInMarks op b=false):b3 X (.Compare a [op] [b] pos) (z3 r c1 dG):=by
 intro pins s σ H Q I h
 exact wpAny_Compare1 (D8 aX aa I h fun v u s2 x y au cH bC bM q=>aH pins s2 σ au x y v u Q cH bC bM q) hm
def XE (t:TE):TT:=fun σ H Q=>t σ H fun x ah=>∃k,x=.bV k∧Q k ah
theorem cn {op:CmpOp}{r:i2}(aH:gX X (compareOp op) r) (aX:b3 X a c1) (aa:b3 X b dG) (hm:behindInMarks op b=false):g4 X (.Compare a [op] [b] pos) (XE (z3 r c1 dG)):=by
 intro pins s σ H Q I h
 refine wpAny_isTrue_Compare1 (bS (aX pins s σ H _ I h) fun v s1 ⟨x,H1,aY,a4,bu⟩=>bS (aa pins s1 σ H1 _ aY bu) fun u s2 ⟨y,au,cH,bH,aV⟩ =>
  bS (aH pins s2 σ au x y v u _ cH a4 bH aV) fun c s3 ⟨z,a9,cQ,hq,k,e,eV⟩=>?_) hm
 subst e
 cases hq
 exact wpAny_truthy_bool ⟨a9,cQ,eV⟩
theorem zk:(sizeLine:Nat)<2 ^ 63:=by rw[sizeLine_eq];decide
theorem vals1 {x:V}{us:List Value}(r:Vals [x] us):∃u,us=[u]∧RelV x u:=by
 cases r with
 | cons a4 bH=>cases bH;exact⟨_,rfl,a4⟩
theorem vP:mG X (.type "int") (fun xs H Q=>(∃i,xs=[.int i]∧Q (.int i) H)∨∃k,xs=[.bV k]∧Q (.int (if k then 1 else 0)) H):=by
 intro pins s σ H xs us Q I r h
 rcases h with ⟨i,rfl,q⟩ | ⟨k,rfl,q⟩
 ·obtain⟨u,rfl,t,rfl⟩:=vals1 r
  exact call_int_int ⟨.int i,H,I,⟨_,rfl⟩,q⟩
 ·obtain⟨u,rfl,a4⟩:=vals1 r
  cases a4
  exact call_int_bool ⟨.int (if k then 1 else 0),H,I.tok _,⟨_,rfl⟩,q⟩
end
structure rt (h:Heap) (x dx C:Addr) (d1:Str→Option Value):Prop where
 obj:h.get? x=some (instObj C dx)
 ns:h.Ns1 dx d1
 ne:dx≠x
theorem UP {h:Heap}{dx:Addr}{d1:Str→Option Value}(n:h.Ns1 dx d1):∃fq,h.get? dx=some fq∧∀name,PySem.W.lookIn name fq=some (d1 name):=by
 obtain⟨o,aE,b7,aH,hd,a8,_,hm⟩:=n
 refine⟨o,aH,fun name=>?_⟩
 have e:=hm name
 unfold nsFind findBy at e
 rw[←Array.find?_toList]at e
 unfold PySem.W.lookIn
 rw[hd]
 dsimp only
 split
 ·rename_i y q
  rw[q]at e
  exact congrArg some e
 ·rename_i q
  rw[q]at e
  have a:aE.toList.any (·.refKey)=false:=by
   rw[List.any_eq_false]
   intro y cg
   obtain⟨z,t,ac9⟩:=a8 y (Array.mem_toList_iff.mp cg)
   simp[DictEntry.refKey,ac9]
  have G3:¬aE.toList.any (·.refKey)=true:=by rw[a];exact Bool.false_ne_true
  rw[if_neg G3]
  exact congrArg some e
theorem rt.look {h:Heap}{x dx C:Addr}{d1:Str→Option Value}(I:rt h x dx C d1):∃fq,PySem.W.InstAt h x (instObj C dx) C (some fq)∧∀name,PySem.W.lookIn name fq=some (d1 name) :=
 let ⟨fq,aH,az⟩:=UP I.ns
 ⟨fq,⟨I.obj,rfl,rfl,aH⟩,az⟩
section
variable {prog:Program}{w:World}{A:Around}{E:Value→Shared→Prop}{s:Shared}{K:PySem.W.Frag}{x dx C f:Addr}{d1:Str→Option Value}{name:Str}{v:Value}
theorem get_map {expr:Bool}{Q:Value→Shared→Prop}(X:K.In s.heap) (I:rt s.heap x dx C d1) (cA:PySem.W.plainGet K C name=true) (dD:PySem.W.hasDictIn K C=true)
  (aX:findIn K (.ref C) name=some none) (br:d1 name=some v) (l5:PySem.W.handedIn v=true) (h:Q v { s with toks:=s.toks+1 }) :
  wpAny (model prog w) A (getAttr (.ref x) name expr) Q E s:=by
 obtain⟨fq,J,az⟩:=I.look
 exact PySem.W.get_value X J (PySem.W.plainGet_of cA).1 (PySem.W.findObj_own dD aX rfl (by rw[az,br])) l5 h
theorem VV {pl:Sem Bool}{Q:Value × List Value→Shared→Prop}(X:K.In s.heap) (I:rt s.heap x dx C d1) (cA:PySem.W.plainGet K C name=true)
  (hf:findIn K (.ref C) name=some (some (.ref f))) (a6:PySem.W.isFn K (.ref f)=true) (br:d1 name=none) (h:Q (.ref f,[.ref x]) s) :
  wpAny (model prog w) A (getMethod (.ref x) name pl) Q E s:=by
 obtain⟨fq,J,az⟩:=I.look
 exact PySem.W.method_fn X J (PySem.W.plainGet_of cA).1 (PySem.W.plainGet_of cA).2 hf (beq_iff_eq.mp a6) (by show (PySem.W.lookIn name fq).map (·.isSome)=some false;rw[az,br];rfl) h
theorem V8 {ns:List Str}{Q:Unit→Shared→Prop}(X:K.In s.heap) (I:rt s.heap x dx C d1)
  (a5:findIn K (.ref C) "__setattr__"=some (some (.builtin "object.__setattr__"))) (aI:PySem.W.plainOver K C=true) (a6:PySem.W.takerIn K C name=some none) (dD:PySem.W.hasDictIn K C=true)
  (hw:PySem.Within d1 ns) (hsz:ns.length≤sizeLine)
  (h:∀h',rt h' x dx C (fun y=>if y=name then some v else d1 y)→Heap.SameBut dx s.heap h'→Q () { s with heap:=h',toks:=s.toks+2 }) :
  wpAny (model prog w) A (setAttr (.ref x) name v) Q E s:=by
 obtain⟨fq,J,az⟩:=I.look
 refine PySem.W.set_plain X J a5 (PySem.W.osa_open (s:={ s with toks:=s.toks+1 }) (r:=none) X J aI a6 fun b=>?_)
 obtain⟨cd,aj,FD⟩:=PySem.W.any_some dD
 have bg:s.heap.get? x=some ⟨.ref C,some dx,.plain, #[]⟩:=I.obj
 refine wpAny_bind (wpAny_pure (wpAny_bind (wpAny_bind (wpAny_loadPart bg (wpAny_bind (PySem.W.Looks.here (s:={ s with toks:=s.toks+1 }) (PySem.W.looks_clsIn X aj) ?_))))))
 rw[FD]
 refine wpAny_pure (a:=some dx) (wpAny_bind (wpAny_pure (wpAny_bind ?_)))
 refine wpAny_nsSet1 (s:={ s with toks:=s.toks+1 }) I.ns fun h' AF j3=>?_
 obtain⟨amx,amj,amk,ah1,aik,ail⟩:=AF.count (PySem.Within.cons name v hw)
 refine wpAny_bind (wpAny_lookBehind ah1 (by rw[aik];exact pastItsLine_dict (le_trans ail (by rw[length_cons];omega))) ?_)
 exact wpAny_pure (h _ ⟨(j3.2 _ (Ne.symm I.ne)).trans I.obj,AF,I.ne⟩ j3)
theorem VN {R:Result→Shared→Prop}{vs:List Value}{kw:List (Str × Value)}(X:K.In s.heap) (hm:PySem.W.makesIn K C=true)
  (aL:findIn K (.ref C) "__init__"=some (some (.ref f))) (hf:PySem.W.typeIn K (.ref f)=some (.type "function"))
  (h:codeAny (model prog w) (A.under (.builtin "type.__call__" ⟨.ref C::vs,kw⟩)) (.call (.ref f) ⟨.ref (s.heap.objs.size+1)::vs,kw⟩) (PySem.W.InitBack (s.heap.objs.size+1) R)
   { s with heap:=(s.heap.push emptyDict).push (instObj C s.heap.objs.size) }) :
  codeAny (model prog w) A (.call (.ref C) ⟨vs,kw⟩) R s:=by
 obtain⟨dD,g,d,t,os⟩:=s
 exact PySem.W.make_core (PySem.W.makes_of X hm) (PySem.W.looks_findIn X aL) (fun self=>PySem.W.bind_fn X self hf) (.inl rfl) h
end
def dR (f:Str) (v:V):List (Str × V)→List (Str × V)
 | []=>[(f,v)]
 | (g,x)::r=>if g=f then (g,v)::r else (g,x)::dR f v r
theorem qO (f g:Str) (v:V):∀bL:List (Str × V),(dR f v bL).lookup g=if g=f then some v else bL.lookup g
 | []=>by
  show List.lookup g [(f,v)]=_
  by_cases h:g=f
  ·have aa:(g == f)=true:=beq_iff_eq.mpr h
   simp only[List.lookup,aa,if_pos h]
  ·have aa:(g == f)=false:=beq_eq_false_iff_ne.mpr h
   simp only[List.lookup,aa,if_neg h]
 | (k,x)::r=>by
  have c6:=qO f g v r
  rw[show dR f v ((k,x)::r)=(if k=f then (k,v)::r else (k,x)::dR f v r) from rfl]
  by_cases a8:k=f
  ·rw[if_pos a8]
   by_cases h:g=k
   ·have aa:(g == k)=true:=beq_iff_eq.mpr h
    simp only[List.lookup,aa,if_pos (h.trans a8)]
   ·have aa:(g == k)=false:=beq_eq_false_iff_ne.mpr h
    simp only[List.lookup,aa,if_neg (fun e:g=f=>h (e.trans a8.symm))]
  ·rw[if_neg a8]
   by_cases h:g=k
   ·have aa:(g == k)=true:=beq_iff_eq.mpr h
    simp only[List.lookup,aa,if_neg (fun e:g=f=>a8 (h.symm.trans e))]
   ·have aa:(g == k)=false:=beq_eq_false_iff_ne.mpr h
    simp only[List.lookup,aa]
    exact c6
theorem Cs (f:Str) (v:V):∀bL:List (Str × V),f∈(dR f v bL).map (·.1)∧∀g,g∈bL.map (·.1)→g∈(dR f v bL).map (·.1)
 | []=>⟨by simp[dR],fun g h=>by simp at h⟩
 | (k,x)::r=>by
  obtain⟨hb,kc⟩:=Cs f v r
  rw[show dR f v ((k,x)::r)=(if k=f then (k,v)::r else (k,x)::dR f v r) from rfl]
  by_cases a8:k=f
  ·rw[if_pos a8]
   subst a8
   exact⟨by simp,fun g h=>by simpa using h⟩
  ·rw[if_neg a8]
   refine⟨?_,fun g h=>?_⟩
   ·rw[map_cons]
    exact mem_cons_of_mem _ hb
   ·rw[map_cons]at h ⊢
    rcases mem_cons.mp h with e | e
    ·exact mem_cons.mpr (.inl e)
    ·exact mem_cons_of_mem _ (kc g e)
theorem HL (f:Str) (v:V):∀bL:List (Str × V),(dR f v bL).length≤bL.length+1
 | []=>by simp[dR]
 | (k,x)::r=>by
  have c6:=HL f v r
  rw[show dR f v ((k,x)::r)=(if k=f then (k,v)::r else (k,x)::dR f v r) from rfl]
  by_cases a8:k=f
  ·rw[if_pos a8,length_cons,length_cons];omega
  ·rw[if_neg a8,length_cons,length_cons];omega
theorem ig.some_of {v:V}{o:Option Value}(r:ig (some v) o):∃u,o=some u∧RelV v u:=by
 cases o with
 | none=>exact (show False from r).elim
 | some u=>exact⟨u,rfl,r⟩
theorem ig.none_of {o:Option Value}(r:ig none o):o=none:=by
 cases o with
 | none=>rfl
 | some u=>exact (show False from r).elim
theorem UZ {v:V}{u:Value}(r:RelV v u):PySem.W.handedIn u=true:=by
 cases v with
 | cE=>cases (show u=Value.none from r);rfl
 | bV b=>cases (show u=Value.bool b from r);rfl
 | int i=>obtain⟨t,e⟩:=(show ∃t,u=Value.int i t from r);cases e;rfl
 | str x=>obtain⟨t,e⟩:=(show ∃t,u=Value.str x t from r);cases e;rfl
 | l9 b=>obtain⟨t,e⟩:=(show ∃t,u=Value.bytes b t from r);cases e;rfl
 | ql b=>obtain⟨t,e⟩:=(show ∃t,u=Value.float b t from r);cases e;rfl
 | ref a=>cases (show u=Value.ref a from r);rfl
 | ty n=>cases (show u=Value.type n from r);rfl
section
variable {P:Program}{w:World}{H ah:ao}{h h':Heap}{a C dx:Addr}{bL uN:List (Str × V)}
theorem v7 (bD:eT P w H h) (e:H a=some (.ins C dx bL)):∃d1,rt h a dx C d1∧(∀f,ig (bL.lookup f) (d1 f))∧PySem.Within d1 (bL.map (·.1))∧bL.length≤1000∧H dx=some (.own a):=by
 obtain⟨d,z,ne,bR,d1,n,r,q⟩:=(show fx P w H h a (.ins C dx bL) from bD a _ e)
 exact⟨d1,⟨bR,n,ne⟩,r,q,z,d⟩
end
structure kJ (K:PySem.W.Frag) (C:Addr):Prop where
 cp:PySem.W.plainGet K C Str.empty=true
 hd:PySem.W.hasDictIn K C=true
 po:PySem.W.plainOver K C=true
 pa:findIn K (.ref C) "__setattr__"=some (some (.builtin "object.__setattr__"))
theorem kJ.get {K:PySem.W.Frag}{C:Addr}(c:kJ K C) (f:Str):PySem.W.plainGet K C f=true:=c.cp
def i3 (K:PySem.W.Frag) (C:Addr) (f:Str):Prop:=findIn K (.ref C) f=some none
theorem i3.d5 {K:PySem.W.Frag}{C:Addr}{f:Str}(n:i3 K C f):PySem.W.takerIn K C f=some none:=by
 unfold PySem.W.takerIn
 rw[show findIn K (.ref C) f=some none from n]
 rfl
structure amr (K:PySem.W.Frag) (C:Addr) (f:Str) (v:V) (u:Value):Prop where
 at_:findIn K (.ref C) f=some (some u)
 rel:RelV v u
 get:PySem.W.specialIn K u "__get__"=some none
 GX:PySem.W.copiedNames.contains f=false
structure Meth (K:PySem.W.Frag) (C:Addr) (m:Str) (f:Addr):Prop where
 at_:findIn K (.ref C) m=some (some (.ref f))
 fn:PySem.W.isFn K (.ref f)=true
 eo:keepIn K (.ref f)=true
section
variable {X:bE}{pins:List (Addr × Obj)}{σ:St}{H:ao}{s:Shared}{a C dx:Addr}{bL:List (Str × V)}{f:Str}{v:V}{A:Around}{E:Value→Shared→Prop}
theorem H4 {b:Bool}{Q:Value→Shared→Prop}(I:Inv X pins σ H s) (e:H a=some (.ins C dx bL)) (c:kJ X.K C) (n:i3 X.K C f) (l:bL.lookup f=some v)
  (h:∀u aM,Inv X pins σ H aM→RelV v u→Q u aM):wpAny (model X.prog X.w) A (getAttr (.ref a) f b) Q E s:=by
 obtain⟨d1,O,r,_,_,_⟩:=v7 I.bD e
 obtain⟨u,a7,eg⟩:=ig.some_of (v:=v) (o:=d1 f) (by rw[←l];exact r f)
 exact get_map I.gn O (c.get f) c.hd n a7 (UZ eg) (h u _ (I.tok _) eg)
theorem Cm {m:Str}{g:Addr}{pl:Sem Bool}{Q:Value × List Value→Shared→Prop}(I:Inv X pins σ H s) (e:H a=some (.ins C dx bL)) (c:kJ X.K C) (k:Meth X.K C m g) (l:bL.lookup m=none)
  (h:Q (.ref g,[.ref a]) s):wpAny (model X.prog X.w) A (getMethod (.ref a) m pl) Q E s:=by
 obtain⟨d1,O,r,_,_,_⟩:=v7 I.bD e
 have aS:d1 m=none:=ig.none_of (by rw[←l];exact r m)
 exact VV I.gn O (c.get m) k.at_ k.fn aS h
theorem HV {y:V}{u:Value}{Q:Unit→Shared→Prop}(I:Inv X pins σ H s) (e:H a=some (.ins C dx bL)) (c:kJ X.K C) (n:i3 X.K C f) (az:bL.length<1000) (bM:RelV y u)
  (h:∀aM,Inv X pins σ (upd H a (.ins C dx (dR f y bL))) aM→Q () aM):wpAny (model X.prog X.w) A (setAttr (.ref a) f u) Q E s:=by
 obtain⟨d1,O,r,hp,_,aH⟩:=v7 I.bD e
 have hz:(bL.map (·.1)).length≤sizeLine:=by rw[length_map,sizeLine_eq];omega
 refine V8 I.gn O c.pa c.po n.d5 c.hd hp hz fun h' G8 lx=>h _ ?_
 have hd:∃o,h'.get? dx=some o:=let ⟨o,_,_,cV,_⟩:=G8.ns;⟨o,cV⟩
 refine I.write (x:=a) (e:=dx) (by rw[e];exact True.intro) (.inr aH) (fun b q aa z=>(lx.2 b aa).trans z) hd ?_
 refine⟨by rw[aA O.ne];exact aH,?_,O.ne,G8.obj,_,G8.ns,fun g=>?_,fun g cA=>?_⟩
 ·have:=HL f y bL;omega
 ·show ig ((dR f y bL).lookup g) (if g=f then some u else d1 g)
  rw[qO]
  by_cases q:g=f
  ·rw[if_pos q,if_pos q];exact bM
  ·rw[if_neg q,if_neg q];exact r g
 ·by_cases q:g=f
  ·rw[q];exact (Cs f y bL).1
  ·refine (Cs f y bL).2 g (hp g fun z=>cA ?_)
   show (if g=f then some u else d1 g)=none
   rw[if_neg q];exact z
theorem Inv.made (I:Inv X pins σ H s):Inv X pins σ (upd (upd H s.heap.objs.size (.own (s.heap.objs.size+1))) (s.heap.objs.size+1) (.ins C s.heap.objs.size []))
  { s with heap:=(s.heap.push emptyDict).push (instObj C s.heap.objs.size) }:=by
 have aJ:(s.heap.push emptyDict).get? s.heap.objs.size=some emptyDict:=get?_push_size s.heap rfl
 have aN:((s.heap.push emptyDict).push (instObj C s.heap.objs.size)).get? (s.heap.objs.size+1)=some (instObj C s.heap.objs.size):=by
  have:=get?_push_size (s.heap.push emptyDict) (o:=instObj C s.heap.objs.size) rfl
  rwa [size_push]at this
 have b2:(s.heap.push emptyDict).Ns s.heap.objs.size (fun _=>none):=⟨emptyDict, #[],_,aJ,rfl,(fun e he=>absurd he (by simp)),fun _=>rfl⟩
 have aY:=I.laid (a:=s.heap.objs.size) (o:=.own (s.heap.objs.size+1)) (h':=s.heap.push emptyDict) (t':=s.toks) (fun b u q=>get?_push_of_some _ q) (le_refl _) ⟨_,aJ⟩
 refine aY.laid (a:=s.heap.objs.size+1) (o:=.ins C s.heap.objs.size []) (t':=s.toks) (fun b u q=>get?_push_of_some _ q) (le_of_eq (size_push _ _)) ?_
 have ne:s.heap.objs.size≠s.heap.objs.size+1:=ne_of_lt (Nat.lt_succ_self _)
 refine⟨by rw[aA ne,aQ],zero_le _,ne,aN,fun _=>none,(Heap.Ns1.of_empty b2).at fun o q=>get?_push_of_some _ q,fun _=>True.intro,fun y cg=>absurd rfl cg⟩
theorem WI {prog:Program}{w:World}{env:Env}{e:Expr}{f:Str}{pos:Pos}{s:Shared}{Q:Value→Shared→Prop}(aa:attributeBase e f env (eval e env)=eval e env)
  (h:wpAny (model prog w) A (eval e env) (fun o c5=>wpAny (model prog w) A (getAttr o f true) Q E c5) E s):wpAny (model prog w) A (eval (.Attribute e f pos) env) Q E s :=
 Attribute_any_ h (by rw[arm_eval_Attribute,aa])
end
def YC (K:PySem.W.Frag) (c1:TE) (f:Str):TE:=fun σ H Q=>c1 σ H fun x H1=>∃a C dx bL v,x=.ref a∧H1 a=some (.ins C dx bL)∧kJ K C∧i3 K C f∧bL.lookup f=some v∧Q v H1
def ZG (K:PySem.W.Frag) (c1 iU:TE) (f:Str):fU:=fun D σ H=>iU σ H fun y H1=>c1 σ H1 fun x au=>∃a C dx bL,x=.ref a∧au a=some (.ins C dx bL)∧kJ K C∧i3 K C f∧bL.length<1000 ∧
 D.c4 σ (upd au a (.ins C dx (dR f y bL)))
def Eb (X:bE) (op:Operator) (iy:V→V→ao→cC→Prop):Prop :=
 ∀(pins:List (Addr × Obj)) (s:Shared) (σ:St) (H:ao) (x y:V) (u v:Value) (Q:cC),Inv X pins σ H s→RelV x u→RelV y v→iy x y H Q→wpAny (model X.prog X.w) X.A (inplaceOp op u v) (hk X pins σ Q) X.dF s
def Wd (K:PySem.W.Frag) (c1 iU:TE) (iy:V→V→ao→cC→Prop) (f:Str):fU:=fun D σ H=>c1 σ H fun x H1=>∃a C dx bL v,x=.ref a∧H1 a=some (.ins C dx bL)∧kJ K C∧i3 K C f∧bL.lookup f=some v ∧
 iU σ H1 fun y au=>iy v y au fun z a9=>∃FY uN,a9 a=some (.ins C FY uN)∧uN.length<1000∧D.c4 σ (upd a9 a (.ins C FY (dR f z uN)))
section
variable {X:bE}{o e value:Expr}{f:Str}{pos pos' KL:Pos}{c1 iU:TE}
theorem eZ (he:b3 X e c1) (aa:attributeBase e f X.env (eval e X.env)=eval e X.env):b3 X (.Attribute e f pos) (YC X.K c1 f):=by
 intro pins s σ H Q I h
 refine WI aa (bS (he pins s σ H _ I h) fun u s1 ⟨x,H1,aY,bC,a,C,dx,bL,v,ex,aP,c,n,l,q⟩=>?_)
 subst ex
 obtain rfl:u=Value.ref a:=bC
 exact H4 aY aP c n l fun n3 s2 cH eg=>⟨v,H1,cH,eg,q⟩
theorem mD (aX:b3 X o c1) (br:b3 X value iU) (a5:swapsWith value (some (.Attribute o f pos')) pos.line X.env=pure false):kh X (.Assign [.Attribute o f pos'] value pos) (ZG X.K c1 iU f):=by
 intro pins s σ H D I h
 refine plainObj_wpAny_Assign_Attribute (bS (br pins s σ H _ I h) fun u s1 ⟨y,H1,aY,bM,q⟩=>bS (aX pins s1 σ H1 _ aY q) fun bT s2 ⟨x,au,cH,bC,a,C,dx,bL,ex,aP,c,n,l,aV⟩=>?_) a5
 subst ex
 obtain rfl:bT=Value.ref a:=bC
 exact HV cH aP c n l bM fun s3 cQ=>⟨σ,_,cQ,aV⟩
theorem yF {op:Operator}{iy:V→V→ao→cC→Prop}(aX:b3 X o c1) (br:b3 X value iU) (mS:Eb X op iy):kh X (.AugAssign (.Attribute o f KL) op value pos) (Wd X.K c1 iU iy f):=by
 intro pins s σ H D I h
 refine wpAny_AugAssign_AttributeAny (bS (aX pins s σ H _ I h) fun bT s1 ⟨x,H1,aY,bC,a,C,dx,bL,v,ex,aP,c,n,l,q⟩=>?_)
 subst ex
 obtain rfl:bT=Value.ref a:=bC
 refine H4 aY aP c n l fun u s2 cH eg=>bS (br pins s2 σ H1 _ cH q) fun iT s3 ⟨y,au,cQ,bM,eV⟩=>bS (mS pins s3 σ au v y u iT _ cQ eg bM eV) fun rX s4 ⟨z,a9,kk,jf,FY,uN,xx,h1,iW⟩=>?_
 exact HV kk xx c n h1 jf fun s5 so=>⟨σ,_,so,iW⟩
def ZP:V→V→ao→cC→Prop:=fun x y H Q=>∃i j,x=.int i∧y=.int j∧Q (.int (i+j)) H
def ZI:V→V→ao→cC→Prop:=fun x y H Q=>∃i j,x=.int i∧y=.int j∧Q (.int (i - j)) H
theorem Dw:Eb X .Add ZP:=by
 rintro pins s σ H x y u v Q I bC bM ⟨i,j,rfl,rfl,q⟩
 obtain⟨t,rfl⟩:=(show ∃t,u=Value.int i t from bC)
 obtain⟨t',rfl⟩:=(show ∃t',v=Value.int j t' from bM)
 exact PyProof.Rows.iadd_int ⟨.int (i+j),H,I.tok _,⟨_,rfl⟩,q⟩
theorem Xs:Eb X .Sub ZI:=by
 rintro pins s σ H x y u v Q I bC bM ⟨i,j,rfl,rfl,q⟩
 obtain⟨t,rfl⟩:=(show ∃t,u=Value.int i t from bC)
 obtain⟨t',rfl⟩:=(show ∃t',v=Value.int j t' from bM)
 exact PyProof.Rows.isub_int ⟨.int (i - j),H,I.tok _,⟨_,rfl⟩,q⟩
theorem alE {pl:Sem Bool}{m:Str}{apos:Pos}{args:List Expr}{pins:List (Addr × Obj)}{s:Shared}{σ:St}{H:ao}{Q:Value→Shared→Prop}{b8:TE}(he:b3 X e b8) (I:Inv X pins σ H s)
  (h:b8 σ H fun x H1=>∃a C dx bL g,x=.ref a∧H1 a=some (.ins C dx bL)∧kJ X.K C∧Meth X.K C m g∧bL.lookup m=none ∧
   ∀s1,Inv X pins σ H1 s1→wpAny (model X.prog X.w) X.A (callWith pos (.ref g) [.ref a] (backTo pos (starEach args X.env)) (backToKw pos (keywordEach [] X.env))) Q X.dF s1)
  (a6:eval (.Call (.Attribute e m apos) args [] pos) X.env=(do
   let bT ← eval e X.env
   standAt apos.atName
   let (f,first) ← holding [bT] (getMethod bT m pl)
   callWith pos f first (backTo pos (starEach args X.env)) (backToKw pos (keywordEach [] X.env)))) :
  wpAny (model X.prog X.w) X.A (eval (.Call (.Attribute e m apos) args [] pos) X.env) Q X.dF s:=by
 refine PySem.W.methodCall_KW (pl:=pl) (bS (he pins s σ H _ I h) fun u s1 ⟨x,H1,aY,bC,a,C,dx,bL,g,ex,aP,c,k,l,q⟩=>?_) a6
 subst ex
 obtain rfl:u=Value.ref a:=bC
 exact Cm aY aP c k l (q s1 aY)
end
section
variable {X:bE}{pins:List (Addr × Obj)}{σ:St}{H:ao}{s:Shared}{A:Around}{E:Value→Shared→Prop}{Q:Value→Shared→Prop}{c:Value}{b:Bool}
inductive i7 (K:PySem.W.Frag) (H:ao):V→Value→Prop where
 | cE:i7 K H .cE (.type "NoneType")
 | bV (x:Bool):i7 K H (.bV x) (.type "bool")
 | int (i:Int):i7 K H (.int i) (.type "int")
 | str (x:Str):i7 K H (.str x) (.type "str")
 | ql (x:UInt64):i7 K H (.ql x) (.type "float")
 | lst {a:Addr} {xs:List V} (e:H a=some (.lst xs)):i7 K H (.ref a) (.type "list")
 | jc {a:Addr} {o:Obj} {xs:List V} (e:H a=some (.jc o (.lst xs))):i7 K H (.ref a) (.type "list")
 | tup {a:Addr} {xs:List V} (e:H a=some (.tup xs)):i7 K H (.ref a) (.type "tuple")
 | bQ {a:Addr} {kvs:List (Key × V)} (e:H a=some (.bQ kvs)):i7 K H (.ref a) (.type "dict")
 | hu {a:Addr} {kvs:List (List Key × V)} (e:H a=some (.hu kvs)):i7 K H (.ref a) (.type "dict")
 | ins {a C dx:Addr} {bL:List (Str × V)} (e:H a=some (.ins C dx bL)) (cl:kJ K C) (aX:findIn K (.ref C) "__class__"=some (some (.builtin "object.__class__")))
   (aS:PySem.W.specialIn K (.builtin "object.__class__") "__get__"=some (some (.builtin "getset_descriptor.__get__"))) (jE:PySem.W.takesIn K (.builtin "object.__class__")=some true)
   (hm:PySem.W.mroIn K C (.type "object")=some true):i7 K H (.ref a) (.ref C)
theorem UT {x:V}{u t:Value}(I:Inv X pins σ H s) (bC:RelV x u) (ty:i7 X.K H x t) (e:kitOne X.K t c=some b) (h:∀bG,Q (.bool b) { s with toks:=bG }) :
  wpAny (model X.prog X.w) A (call (.builtin "isinstance") [u,c]) Q E s:=by
 cases ty with
 | cE=>cases (show u=Value.none from bC);exact kia_one PySem.W.kitx_none I.gn True.intro e (fun z=>nomatch z) h
 | bV y=>cases (show u=Value.bool y from bC);exact kia_one PySem.W.kitx_bool I.gn True.intro e (fun z=>nomatch z) h
 | int i=>obtain⟨t,q⟩:=(show ∃t,u=Value.int i t from bC);cases q;exact kia_one PySem.W.kitx_int I.gn True.intro e (fun z=>nomatch z) h
 | str y=>obtain⟨t,q⟩:=(show ∃t,u=Value.str y t from bC);cases q;exact kia_one PySem.W.kitx_str I.gn True.intro e (fun z=>nomatch z) h
 | ql y=>obtain⟨t,q⟩:=(show ∃t,u=Value.float y t from bC);cases q;exact kia_one PySem.W.kitx_float I.gn True.intro e (fun z=>nomatch z) h
 | @lst a xs aP =>
  cases (show u=Value.ref a from bC)
  obtain⟨_,_,n,_,ay⟩:=(show fx X.prog X.w H s.heap a (.lst xs) from I.bD a _ aP)
  exact kia_one PySem.W.kitx_list I.gn ⟨_,ay,rfl⟩ e (fun z=>nomatch z) h
 | @jc a bR xs aP =>
  cases (show u=Value.ref a from bC)
  obtain⟨_,_,_,n,_,ay⟩:=(show fx X.prog X.w H s.heap a (.jc bR (.lst xs)) from I.bD a _ aP)
  exact kia_one PySem.W.kitx_list I.gn ⟨_,ay,rfl⟩ e (fun z=>nomatch z) h
 | @tup a xs aP =>
  cases (show u=Value.ref a from bC)
  obtain⟨_,_,_,p⟩:=(show fx X.prog X.w H s.heap a (.tup xs) from I.bD a _ aP)
  obtain⟨o,ay,aG,_⟩:=p
  exact kia_one PySem.W.kitx_tuple I.gn ⟨o,ay,aG⟩ e (fun z=>nomatch z) h
 | @bQ a kvs aP =>
  cases (show u=Value.ref a from bC)
  obtain⟨_,_,vs,_,p⟩:=(show fx X.prog X.w H s.heap a (.bQ kvs) from I.bD a _ aP)
  obtain⟨o,aE,b7,ay,aG,_⟩:=p
  exact kia_one PySem.W.kitx_dict I.gn ⟨o,ay,aG.1⟩ e (fun z=>nomatch z) h
 | @hu a kvs aP =>
  cases (show u=Value.ref a from bC)
  obtain⟨_,_,xs,_,o,aE,b7,ay,aG,_⟩:=(show fx X.prog X.w H s.heap a (.hu kvs) from I.bD a _ aP)
  exact kia_one PySem.W.kitx_dict I.gn ⟨o,ay,aG.1⟩ e (fun z=>nomatch z) h
 | @ins a C dx bL aP cl aX aS jE hm =>
  cases (show u=Value.ref a from bC)
  obtain⟨d1,O,_⟩:=v7 I.bD aP
  obtain⟨fq,J,_⟩:=O.look
  exact kia_one (PySem.W.kitx_own (cl.get _) cl.hd aX aS jE hm) I.gn J e (fun z=>nomatch z) h
end
structure gd (k:Nat) (A:Around):Prop where
 hd:A.handled=none
 BO:A.depth+3 * k+5<recursionLimit
 un:A.units+16 * k+200<cLine
theorem gd.mono {j k:Nat}{A:Around}(r:gd k A) (h:j≤k):gd j A:=⟨r.hd,by have:=r.BO;omega,by have:=r.un;omega⟩
theorem gd.deeper {k:Nat}{A:Around}(r:gd (k+1) A) (env:Env):gd k (A.deeper env) :=
 ⟨r.hd,by have:=r.BO;show A.depth+1+3 * k+5<_;omega,by have:=r.un;show A.units+3+16 * k+200<_;omega⟩
theorem Ud {A:Around}{C:Addr}{us:List Value}{kw:List (Str × Value)}:(A.under (.builtin "type.__call__" ⟨.ref C::us,kw⟩)).depth=A.depth+1:=by
 first | rfl | simp[Around.under,Code.weight,Code.isCreation,Code.isGuard,Code.isCaller,Code.frames,Code.isFrame,guardIds]
theorem Uc {A:Around}{C:Addr}{us:List Value}{kw:List (Str × Value)}:(A.under (.builtin "type.__call__" ⟨.ref C::us,kw⟩)).units=A.units+1:=by
 first | rfl | simp[Around.under,Code.cUnits,Code.frames,Code.isFrame]
theorem gd.make {k:Nat}{A:Around}(r:gd (k+1) A) (C:Addr) (us:List Value) (kw:List (Str × Value)):gd k (A.under (.builtin "type.__call__" ⟨.ref C::us,kw⟩)) :=
 ⟨r.hd,by have:=r.BO;rw[Ud];omega,by have:=r.un;rw[Uc];omega⟩
theorem gd.depth {k:Nat}{A:Around}(r:gd k A):A.depth<recursionLimit:=by have:=r.BO;omega
theorem gd.units {k:Nat}{A:Around}(r:gd k A):A.units+64<cLine:=by have:=r.un;omega
def KO:h5:=fun _ H Q=>Q [] H
def XN (c1:TE) (Gj:h5):h5:=fun σ H Q=>c1 σ H fun x H1=>Gj σ H1 fun xs au=>Q (x::xs) au
section
variable {X:bE}{e:Expr}{aE:List Expr}{b8:TE}{t:h5}{pos:Pos}
theorem aK:lG X [] KO:=fun _ _ _ _ H Q I h=>Calls.spliced_nil ⟨[],H,I,.nil,h⟩
theorem aq (aX:b3 X e b8) (aC:lG X aE t) (a5:starEach (e::aE) X.env=(false,eval e X.env)::starEach aE X.env:=by rfl):lG X (e::aE) (XN b8 t):=by
 intro pos pins s σ H Q I h
 rw[a5]
 show wpAny _ _ (spliced ((false,eval e X.env)::backTo pos (starEach aE X.env))) _ _ s
 refine Calls.spliced_cons (bS (aX pins s σ H _ I h) fun u s1 ⟨x,H1,aY,a4,bu⟩=>?_)
 exact bS (aC pos pins s1 σ H1 _ aY bu) fun us s2 ⟨xs,au,cH,bH,aV⟩=>⟨x::xs,au,cH,.cons a4 bH,aV⟩
def Yu (t:h5):TE:=fun σ H Q=>t σ H fun xs H1=>xs.length≤sizeLine∧∀p,H1 p=none→Q (.ref p) (upd H1 p (.tup xs))
def Yy (t:h5):TE:=fun σ H Q=>t σ H fun xs H1=>xs.length≤sizeLine∧∀p,H1 p=none→Q (.ref p) (upd H1 p (.lst xs))
theorem gz {u5} (h:lG X aE t):b3 X (.Tuple aE u5 pos) (Yu t):=by
 intro pins s σ H Q I bN
 refine wpAny_Tuple_spliced (bS (h pos pins s σ H _ I bN) fun us s1 ⟨xs,H1,aY,r,z,q⟩=>⟨by rw[←r.length];exact z,?_⟩)
 have hf:H1 s1.heap.objs.size=none:=aY.bD.fresh (le_refl _)
 refine⟨.ref s1.heap.objs.size,upd H1 s1.heap.objs.size (.tup xs),aY.laid (t':=s1.toks) (fun b u e=>get?_push_of_some _ e) (le_refl _) ?_,rfl,q _ hf⟩
 exact⟨z,us,r,⟨_,get?_push_size _ rfl,rfl,_,rfl⟩⟩
theorem fl (h:lG X aE t):b3 X (.List aE pos) (Yy t):=by
 intro pins s σ H Q I bN
 refine wpAny_List_spliced (bS (h pos pins s σ H _ I bN) fun us s1 ⟨xs,H1,aY,r,z,q⟩=>⟨by rw[←r.length];exact z,?_⟩)
 have hf:H1 s1.heap.objs.size=none:=aY.bD.fresh (le_refl _)
 refine⟨.ref s1.heap.objs.size,upd H1 s1.heap.objs.size (.lst xs),aY.laid (t':=s1.toks) (fun b u e=>get?_push_of_some _ e) (le_refl _) ?_,rfl,q _ hf⟩
 exact⟨z,us,0,r,get?_push_size _ rfl⟩
end
abbrev c3:=List V→ao→cC→gR→Prop
abbrev ma:=List Env→ao→Shared→gR→Value→Shared→Prop
structure ru (P:Program) (w:World) (K:PySem.W.Frag) (ai:Str→Option Value) (base:Heap) (A:Around) (outer:List Env) (s:Shared) (H:ao):Prop where
 frames:A.frames=some outer
 mod:Mod K ai base
 bs:∀b o,base.get? b=some o→s.heap.get? b=some o∧H b=none
 lr:base.objs.size≤s.heap.objs.size
 jB:s.heap.FunFrames base outer
 mX:∀b∈gC outer,H b=none
 bD:eT P w H s.heap
 bare:AllBare s.gens
def Hj (outer:List Env) (P:Program) (w:World) (H:ao) (s:Shared) (Q:cC) (u:Value) (aM:Shared):Prop :=
 ∃v ah,aM.os=s.os∧AllBare aM.gens∧g0 (gC outer) [] H ah s.heap aM.heap∧eT P w ah aM.heap∧RelV v u∧Q v ah
def cI (eY:ma) (outer:List Env) (P:Program) (w:World) (H:ao) (s:Shared) (Q:cC) (E:gR) (r:Result) (aM:Shared):Prop :=
 match r with
 | .ok (.ret u)=>Hj outer P w H s Q u aM
 | .ok _=>False
 | .error e=>eY outer H s E e aM
structure aU (P:Program) (w:World) (K:PySem.W.Frag) (ai:Str→Option Value) (base:Heap) (eY:ma) (k:Nat) (f:Addr) (fd:FuncData) (ps:List Str) (sp:c3):Prop where
 len:∀vs H Q E,sp vs H Q E→vs.length=ps.length
 run:∀(A:Around) (outer:List Env) (s:Shared) (H:ao) (args:Args) (us:List Value) (vs:List V) (Q:cC) (E:gR),gd k A→ru P w K ai base A outer s H→BindsTo s fd args (ps.zip us)→Vals vs us→sp vs H Q E →
  codeAny (model P w) A (.call (.ref f) args) (cI eY outer P w H s Q E) s
theorem ru.make {P:Program}{w:World}{K:PySem.W.Frag}{ai:Str→Option Value}{base:Heap}{A:Around}{outer:List Env}{s:Shared}{H:ao}(e:ru P w K ai base A outer s H) (C:Addr) (us:List Value) (kw:List (Str × Value)) :
  ru P w K ai base (A.under (.builtin "type.__call__" ⟨.ref C::us,kw⟩)) outer s H:=⟨by first | exact e.frames | (simpa[Around.under,Code.envs,Code.isFrame,pushEnvs] using e.frames),e.mod,e.bs,e.lr,e.jB,e.mX,e.bD,e.bare⟩
section
variable {X:bE}{pins:List (Addr × Obj)}{σ:St}{H:ao}{s aM:Shared}
theorem Inv.Lr (I:Inv X pins σ H s):ru X.prog X.w X.K X.ai X.base X.A X.stack s H :=
 ⟨I.ok.frames,I.ok.mod,I.bs,le_trans I.ok.lr I.e9,I.stack,I.yZ,I.bD,I.bare⟩
theorem Inv.after {Q:cC}{u:Value}(I:Inv X pins σ H s) (h:Hj X.stack X.prog X.w H s Q u aM):hk X pins σ Q u aM:=by
 obtain⟨v,ah,os,bare,un,bD,r,q⟩:=h
 obtain⟨dD,g,d,t,os'⟩:=aM
 obtain rfl:os'=s.os:=os
 exact⟨v,ah,I.call (h':=dD) (g':=g) (d':=d) (t':=t) (ch:=[]) un bD bare (fun b z=>absurd z (by simp)),r,q⟩
end
def XP (sp:c3) (hC:List V) (E:gR) (t:h5):TE:=fun σ H Q=>t σ H fun vs H1=>sp (vs++hC) H1 Q E
def Kd (C:Addr) (m:Str) (sp:c3) (hC:List V) (E:gR) (c1:TE) (t:h5):TE:=fun σ H Q=>c1 σ H fun x H1=>∃a dx bL,x=.ref a∧H1 a=some (.ins C dx bL)∧bL.lookup m=none ∧
 t σ H1 fun vs au=>sp (x::(vs++hC)) au Q E
def XI (C:Addr) (sp:c3) (hC:List V) (E:gR) (t:h5):TE:=fun σ H Q=>t σ H fun vs H1=>∀x dx,H1 x=none→H1 dx=none→dx≠x →
 sp (.ref x::(vs++hC)) (upd (upd H1 dx (.own x)) x (.ins C dx [])) (fun v au=>v=.cE∧Q (.ref x) au) E
def Binds (K:PySem.W.Frag) (fd:FuncData) (ps:List Str) (ds:List Value):Prop :=
 ∀(s:Shared) (us:List Value),K.In s.heap→(us++ds).length=ps.length→BindsTo s fd ⟨us,[]⟩ (ps.zip (us++ds))
theorem Binds.all {K:PySem.W.Frag}{fd:FuncData}{ps:List Str}(h:∀us:List Value,us.length=ps.length→bindArgs fd ⟨us,[]⟩=pure (ps.zip us)):Binds K fd ps []:=fun s us _ az=>by
 rw[append_nil]at az ⊢
 exact .of_eq (h us az)
def Passes (eY:ma) (X:bE) (E:gR):Prop:=∀(pins:List (Addr × Obj)) (σ:St) (H:ao) (s:Shared) (e:Value) (aM:Shared),Inv X pins σ H s→eY X.stack H s E e aM→X.dF e aM
section
variable {X:bE}{eY:ma}{k:Nat}{f C:Addr}{fd:FuncData}{ps:List Str}{sp:c3}{hC:List V}{ds:List Value}{E:gR}{x m:Str}{p pos apos:Pos}{e o:Expr}{aE:List Expr}{c1:TE}{t:h5}
theorem Dr {pins:List (Addr × Obj)}{σ:St}{H:ao}{s:Shared}{Q:cC}{us:List Value}{vs:List V}(F:aU X.prog X.w X.K X.ai X.base eY k f fd ps sp) (aC:gd k X.A) (aa:Binds X.K fd ps ds) (hd:Vals hC ds) (bg:Passes eY X E)
  (I:Inv X pins σ H s) (r:Vals vs us) (h:sp (vs++hC) H Q E):wpAny (model X.prog X.w) X.A (call (.ref f) us) (hk X pins σ Q) X.dF s:=by
 have bH:Vals (vs++hC) (us++ds):=r.append hd
 have az:(us++ds).length=ps.length:=by rw[←bH.length];exact F.len _ _ _ _ h
 refine wpAny_call (codeAny_mono (F.run X.A X.stack s H ⟨us,[]⟩ (us++ds) (vs++hC) Q E aC I.Lr (aa s us I.gn az) bH h) fun r aM bN=>?_)
 cases r with
 | error e=>exact bg pins σ H s e aM I bN
 | ok gG =>
  cases gG with
  | ret u=>exact I.after bN
  | next=>exact False.elim bN
  | brk=>exact False.elim bN
  | cont=>exact False.elim bN
theorem dt (F:aU X.prog X.w X.K X.ai X.base eY k f fd ps sp) (aC:gd k X.A) (cA:kX X x) (hm:X.ai x=some (.ref f)) (a8:keepIn X.K (.ref f)=true) (aa:Binds X.K fd ps ds) (hd:Vals hC ds) (bg:Passes eY X E)
  (aX:lG X (e::aE) t) (rK:(x == ("__debug__":Str))=false:=by decide) (he:starEach (e::aE) X.env=(false,eval e X.env)::starEach aE X.env:=by rfl) (ho:(backTo pos (starEach aE X.env)).any (·.1)=false:=by rfl) :
  b3 X (.Call (.Name x p) (e::aE) [] pos) (XP sp hC E t):=by
 intro pins s σ H Q I h
 refine wpAny_Call_Name_kw (y_ I cA hm ?_ rK)
 refine PySem.W.callWith_K (h₀:=X.base) I.ok.mod.uA a8 (bS (aX pos pins s σ H _ I h) fun us s1 ⟨vs,H1,aY,r,q⟩=>⟨aY.gn,?_⟩) he ho
 exact Dr F aC aa hd bg aY r q
theorem gI {pl:Sem Bool}(he:b3 X o c1) (c:kJ X.K C) (hm:Meth X.K C m f) (F:aU X.prog X.w X.K X.ai X.base eY k f fd ps sp) (aC:gd k X.A) (aa:Binds X.K fd ps ds) (hd:Vals hC ds) (bg:Passes eY X E) (aX:lG X (e::aE) t)
  (ja:starEach (e::aE) X.env=(false,eval e X.env)::starEach aE X.env:=by rfl) (ho:(backTo pos (starEach aE X.env)).any (·.1)=false:=by rfl)
  (a6:eval (.Call (.Attribute o m apos) (e::aE) [] pos) X.env=(do
   let bT ← eval o X.env
   standAt apos.atName
   let (f,first) ← holding [bT] (getMethod bT m pl)
   callWith pos f first (backTo pos (starEach (e::aE) X.env)) (backToKw pos (keywordEach [] X.env))):=by rfl) :
  b3 X (.Call (.Attribute o m apos) (e::aE) [] pos) (Kd C m sp hC E c1 t):=by
 intro pins s σ H Q I h
 refine PySem.W.methodCall_KW (pl:=pl) (bS (he pins s σ H _ I h) fun u s1 ⟨x,H1,aY,bC,a,dx,bL,ex,aP,l,q⟩=>?_) a6
 subst ex
 obtain rfl:u=Value.ref a:=bC
 refine Cm aY aP c hm l ?_
 refine PySem.W.callWith_K (first:=[.ref a]) (h₀:=X.base) I.ok.mod.uA hm.eo (bS (aX pos pins s1 σ H1 _ aY q) fun us s2 ⟨vs,au,cH,r,aV⟩=>⟨cH.gn,?_⟩) ja ho
 exact Dr (us:=.ref a::us) (vs:=.ref a::vs) F aC aa hd bg cH (.cons rfl r) aV
theorem yS {pl:Sem Bool}(he:b3 X o c1) (c:kJ X.K C) (hm:Meth X.K C m f) (F:aU X.prog X.w X.K X.ai X.base eY k f fd ps sp) (aC:gd k X.A) (aa:Binds X.K fd ps ds) (hd:Vals hC ds) (bg:Passes eY X E)
  (a6:eval (.Call (.Attribute o m apos) [] [] pos) X.env=(do
   let bT ← eval o X.env
   standAt apos.atName
   let (f,first) ← holding [bT] (getMethod bT m pl)
   callWith pos f first (backTo pos (starEach [] X.env)) (backToKw pos (keywordEach [] X.env))):=by rfl) :
  b3 X (.Call (.Attribute o m apos) [] [] pos) (Kd C m sp hC E c1 KO):=by
 intro pins s σ H Q I h
 refine PySem.W.methodCall_KW (pl:=pl) (bS (he pins s σ H _ I h) fun u s1 ⟨x,H1,aY,bC,a,dx,bL,ex,aP,l,q⟩=>?_) a6
 subst ex
 obtain rfl:u=Value.ref a:=bC
 refine Cm aY aP c hm l ?_
 exact PySem.W.callWith_K0 (first:=[.ref a]) aY.gn hm.eo (Dr (us:=[.ref a]) (vs:=[.ref a]) F aC aa hd bg aY (.cons rfl .nil) q)
structure sm (K:PySem.W.Frag) (C f:Addr):Prop where
 makes:PySem.W.makesIn K C=true
 init:findIn K (.ref C) "__init__"=some (some (.ref f))
 fn:PySem.W.isFn K (.ref f)=true
 eo:keepIn K (.ref C)=true
theorem Ve {pins:List (Addr × Obj)}{σ:St}{H:ao}{s:Shared}{Q:cC}{us:List Value}{vs:List V}(M:sm X.K C f) (F:aU X.prog X.w X.K X.ai X.base eY k f fd ps sp) (aC:gd (k+1) X.A) (aa:Binds X.K fd ps ds) (hd:Vals hC ds)
  (bg:Passes eY X E) (I:Inv X pins σ H s) (r:Vals vs us)
  (h:∀x dx,H x=none→H dx=none→dx≠x→sp (.ref x::(vs++hC)) (upd (upd H dx (.own x)) x (.ins C dx [])) (fun v au=>v=.cE∧Q (.ref x) au) E) :
  wpAny (model X.prog X.w) X.A (call (.ref C) us) (hk X pins σ Q) X.dF s:=by
 have bN:=h (s.heap.objs.size+1) s.heap.objs.size (I.bD.fresh (le_succ _)) (I.bD.fresh (le_refl _)) (ne_of_lt (Nat.lt_succ_self _))
 have cH:=Inv.made (C:=C) I
 have bH:Vals (V.ref (s.heap.objs.size+1)::(vs++hC)) (Value.ref (s.heap.objs.size+1)::(us++ds)):=.cons rfl (r.append hd)
 have az:(Value.ref (s.heap.objs.size+1)::us++ds).length=ps.length:=by
  have e:=bH.length
  rw[F.len _ _ _ _ bN]at e
  exact e.symm
 refine wpAny_call (VN (f:=f) I.gn M.makes M.init (beq_iff_eq.mp M.fn) (codeAny_mono (F.run _ X.stack _ _ ⟨Value.ref (s.heap.objs.size+1)::us,[]⟩ (Value.ref (s.heap.objs.size+1)::(us++ds)) _ _ E (aC.make C us [])
  (cH.Lr.make C us []) (aa _ (Value.ref (s.heap.objs.size+1)::us) cH.gn az) bH bN) fun r aM w8=>?_))
 cases r with
 | error e=>exact bg pins σ _ _ e aM cH w8
 | ok gG =>
  cases gG with
  | ret u =>
   obtain⟨v,ah,cQ,bp,ev,eV⟩:=cH.after w8
   subst ev
   exact⟨bp,⟨V.ref (s.heap.objs.size+1),ah,cQ,rfl,eV⟩⟩
  | next=>exact False.elim w8
  | brk=>exact False.elim w8
  | cont=>exact False.elim w8
theorem C2 (M:sm X.K C f) (F:aU X.prog X.w X.K X.ai X.base eY k f fd ps sp) (aC:gd (k+1) X.A) (cA:kX X x) (hm:X.ai x=some (.ref C)) (aa:Binds X.K fd ps ds) (hd:Vals hC ds) (bg:Passes eY X E)
  (aX:lG X (e::aE) t) (rK:(x == ("__debug__":Str))=false:=by decide) (he:starEach (e::aE) X.env=(false,eval e X.env)::starEach aE X.env:=by rfl) (ho:(backTo pos (starEach aE X.env)).any (·.1)=false:=by rfl) :
  b3 X (.Call (.Name x p) (e::aE) [] pos) (XI C sp hC E t):=by
 intro pins s σ H Q I h
 refine wpAny_Call_Name_kw (y_ I cA hm ?_ rK)
 refine PySem.W.callWith_K (h₀:=X.base) I.ok.mod.uA M.eo (bS (aX pos pins s σ H _ I h) fun us s1 ⟨vs,H1,aY,r,q⟩=>⟨aY.gn,?_⟩) he ho
 exact Ve M F aC aa hd bg aY r q
end
section
variable {X:bE}{eY:ma}{k:Nat}{f C:Addr}{fd:FuncData}{ps iB:List Str}{sp:c3}{E:gR}{x m:Str}{p pos apos alL:Pos}{e o:Expr}{aE:List Expr}{al6:List Keyword}{b8 c1:TE}{t bG:h5}{nm:Option Str}
structure alH (K:PySem.W.Frag) (fd:FuncData) (ps iB:List Str) (g:List Value→List Value→List Value) (So:List V→List V→List V):Prop where
 to:∀(s:Shared) (us ws:List Value),K.In s.heap→(g us ws).length=ps.length→BindsTo s fd ⟨us,iB.zip ws⟩ (ps.zip (g us ws))
 rel:∀{vs:List V} {us:List Value} {zs:List V} {ws:List Value},Vals vs us→Vals zs ws→Vals (So vs zs) (g us ws)
variable {g:List Value→List Value→List Value}{So:List V→List V→List V}
end
structure dk (N P:List Str) (sc:Scope):Prop where
 kind:sc.kind=.function
 co:sc.isCoroutine=false
 gen:sc.isGenerator=false
 bl:N.Nodup
 pre:N.take P.length=P
 par:∀x∈P,sc.names.lookup x=some .local∨sc.names.lookup x=some .cell
 Xj:∀y∈sc.names,y.2≠.free
theorem IM {kindOf:Str→Option NameKind}{x:Str}:∀{binds:List (Str × Value)}{m:Str→Option Value},(∀v,(x,v)∉binds)→bindL kindOf binds m x=m x
 | [],_,_=>rfl
 | (n,v)::r,m,h=>by
  unfold bindL
  rw[IM fun w hw=>h w (mem_cons_of_mem _ hw)]
  split
  ·have:x≠n:=by rintro rfl;exact h v mem_cons_self
   simp[this]
  ·rfl
theorem IQ {kindOf:Str→Option NameKind}{x:Str}:∀{binds:List (Str × Value)}{m:Str→Option Value},(∀v,(x,v)∉binds)→bindC kindOf binds m x=m x
 | [],_,_=>rfl
 | (n,v)::r,m,h=>by
  unfold bindC
  rw[IQ fun w hw=>h w (mem_cons_of_mem _ hw)]
  split
  ·rfl
  ·have:x≠n:=by rintro rfl;exact h v mem_cons_self
   simp[this]
theorem IP {kindOf:Str→Option NameKind}{x:Str}{v:Value}:∀{P:List Str}{vs:List Value}{i:Nat}{m:Str→Option Value},P.Nodup→P[i]?=some x→vs[i]?=some v→kindOf x=some .local →
  bindL kindOf (P.zip vs) m x=some v
 | [],_,_,_,_,h,_,_=>by simp at h
 | _::_,[],_,_,_,_,h,_=>by simp at h
 | p::P,w::vs,0,m,bl,ay,aG,a8=>by
  simp at ay aG;subst ay;subst aG
  show bindL kindOf ((p,w)::P.zip vs) m p=_
  unfold bindL
  rw[IM fun v br=>(nodup_cons.mp bl).1 (of_mem_zip br).1,if_pos a8]
  simp
 | p::P,w::vs,i+1,m,bl,ay,aG,a8=>by
  show bindL kindOf ((p,w)::P.zip vs) m x=_
  unfold bindL
  exact IP (i:=i) (nodup_cons.mp bl).2 (by simpa using ay) (by simpa using aG) a8
theorem IS {kindOf:Str→Option NameKind}{x:Str}{v:Value}:∀{P:List Str}{vs:List Value}{i:Nat}{m:Str→Option Value},P.Nodup→P[i]?=some x→vs[i]?=some v→kindOf x≠some .local →
  bindC kindOf (P.zip vs) m x=some v
 | [],_,_,_,_,h,_,_=>by simp at h
 | _::_,[],_,_,_,_,h,_=>by simp at h
 | p::P,w::vs,0,m,bl,ay,aG,a8=>by
  simp at ay aG;subst ay;subst aG
  show bindC kindOf ((p,w)::P.zip vs) m p=_
  unfold bindC
  rw[IQ fun v br=>(nodup_cons.mp bl).1 (of_mem_zip br).1,if_neg a8]
  simp
 | p::P,w::vs,i+1,m,bl,ay,aG,a8=>by
  show bindC kindOf ((p,w)::P.zip vs) m x=_
  unfold bindC
  exact IS (i:=i) (nodup_cons.mp bl).2 (by simpa using ay) (by simpa using aG) a8
def start (N:List Str) (vs:List V):St:=vs.map some++List.replicate (N.length - vs.length) none
def fG (eY:ma) (P:Program) (w:World) (K:PySem.W.Frag) (ai:Str→Option Value) (base:Heap) (N:List Str) (qual:Str) (scope:Scope) (f:Addr) (cd:Value) (A:Around) (outer:List Env) (s:Shared) (H:ao) (E:gR):bE where
 prog:=P
 w:=w
 K:=K
 ai:=ai
 base:=base
 A:=A.deeper (envOfC qual scope s.heap.objs.size f cd)
 N:=N
 fJ:=s
 yi:=H
 env:=envOfC qual scope s.heap.objs.size f cd
 outer:=outer
 stack:=envOfC qual scope s.heap.objs.size f cd::outer
 ex:=[]
 calm:=true
 fn:=fun _=>true
 bz:=[]
 dF:=fun e aM=>wpAny (model P w) (A.deeper (envOfC qual scope s.heap.objs.size f cd)) (leaving (envOfC qual scope s.heap.objs.size f cd) e) (fun _ wU=>eY outer H s E e wU) (fun cV wU=>eY outer H s E cV wU) aM
theorem Jh {sc:Scope}{n:Nat}{x:Str}(h:sc.names.lookup x=some .cell):∃c,(cellsFrom n sc.names []).lookup x=some c:=by
 have q:=PySem.W.cellsFrom_some sc.names n [] (.inl h)
 exact Option.isSome_iff_exists.mp q
theorem UW {eY:ma}{P:Program}{w:World}{K:PySem.W.Frag}{ai:Str→Option Value}{base:Heap}{N ps:List Str}{qual:Str}{scope:Scope}{f:Addr}{cd:Value}{A:Around}{outer:List Env}{s s1:Shared}{H:ao}{E:gR}{us:List Value}{vs:List V}
  (S:dk N ps scope) (hd:A.handled=none) (e0:ru P w K ai base A outer s H) (az:vs.length=ps.length) (r:Vals vs us)
  (x:InCallC s s.heap.objs.size (bindL (envOfC qual scope s.heap.objs.size f cd).kindOf (ps.zip us) fun _=>none) (cellsFrom (s.heap.objs.size+1) scope.names []) (bindC (envOfC qual scope s.heap.objs.size f cd).kindOf (ps.zip us) fun _=>none) s1) :
  Inv (fG eY P w K ai base N qual scope f cd A outer s H E) [] (start N vs) H s1:=by
 have ho:ps.length≤N.length:=by have:=congrArg List.length S.pre;rw[length_take]at this;omega
 obtain⟨ay,bG,rfl,a8⟩:=x.done
 have w1:∀b:Addr,b∉(fG eY P w K ai base N qual scope f cd A outer s H E).ex:=fun b z=>absurd (show b∈([]:List Addr) from z) (by simp)
 refine⟨⟨e0.mod,S.kind,rfl,rfl,le_refl _,fun y z c ay aG=>?_,fun y cg=>?_,fun y c _ h=>?_,fun _=>hd,Around.frames_deeper e0.frames,.inr ⟨rfl,rfl⟩,fun b z=>absurd z (w1 b),e0.bs,e0.lr,fun b _ _=>w1 b,fun b z=>absurd z (w1 b),e0.jB,e0.mX⟩,
  rfl,e0.bare,g0.kept a8,⟨_,x.toInCall.ns,fun i y v ay aG ct=>?_⟩,fun y c h=>⟨_,x.cell y c h⟩,e0.bD.fresh (le_refl _),fun y c h=>?_,fun p aI=>absurd (show p∈([]:List (Addr × Obj)) from aI) (by simp),e0.bD.kept a8,?_⟩
 ·exact name_of_addr x.apart (PySem.mem_of_lookup ay) (PySem.mem_of_lookup aG)
 ·have cg:scope.names.lookup y=some .cell∨scope.names.lookup y=some .free:=cg
  rcases cg with cg | cg
  ·exact Jh cg
  ·exact absurd rfl (S.Xj _ (PySem.mem_of_lookup cg))
 ·exact le_of_lt (x.above y c (PySem.mem_of_lookup h))
 ·have aL:i<vs.length:=by
   unfold start at aG
   by_cases aL:i<vs.length
   ·exact aL
   ·rw[getElem?_append_right (by simpa using aL)]at aG
    rw[List.getElem?_replicate]at aG
    split at aG <;> cases aG
  have aX:vs[i]?=some v:=by
   unfold start at aG
   rw[getElem?_append_left (by simpa using aL),getElem?_map]at aG
   cases e:vs[i]? with
   | none=>rw[e]at aG;cases aG
   | some a=>rw[e]at aG;cases aG;rfl
  obtain⟨u,a7,bp⟩:=r.get aX
  have aI:ps[i]?=some y:=by
   rw[←S.pre,List.getElem?_take_of_lt (by omega)];exact ay
  have MH:ps.Nodup:=by rw[←S.pre];exact S.bl.sublist (List.take_sublist _ _)
  refine⟨u,bp,?_⟩
  rcases S.par y (mem_of_getElem? aI) with k | k
  ·exact .inl ⟨k,IP MH aI a7 k⟩
  ·obtain⟨c,e⟩:=Jh (n:=s.heap.objs.size+1) k
   refine .inr ⟨.inl k,c,e,?_⟩
   have q:=x.cell y c e
   rw[IS MH aI a7 (by show scope.names.lookup y≠_;rw[k];decide)]at q
   exact q
 ·exact e0.bD.fresh (le_of_lt (x.above y c (PySem.mem_of_lookup h)))
 ·unfold start
  show _=N.length
  rw[length_append,length_map,List.length_replicate]
  omega
theorem Kp {eY:ma}{P:Program}{w:World}{K:PySem.W.Frag}{ai:Str→Option Value}{base:Heap}{k:Nat}{f:Addr}{name qual:Str}{params:Arguments}{body:List Stmt}{scope:Scope}{BP d9 doc pm b4 ff mc:Value}{an fq:Option Addr}
  {oZ:Array (Option Value)} {N ps:List Str} {sp:c3} (lk:K.lookup f=some ⟨mc,fq,.func (PySem.W.fnOf name qual params body scope BP d9 doc pm an b4 ff),oZ⟩) (kG:PySem.W.codeIn K b4 qual=true) (S:dk N ps scope)
  (len:∀vs H Q E,sp vs H Q E→vs.length=ps.length)
  (wC:∀(A:Around) (outer:List Env) (s:Shared) (H:ao) (vs:List V) (Q:cC) (E:gR),gd k (A.deeper (envOfC qual scope s.heap.objs.size f b4))→sp vs H Q E →
   ∃t,gW (fG eY P w K ai base N qual scope f b4 A outer s H E) body t∧t { c4:=fun _ ah=>Q .cE ah,n6:=Q } (start N vs) H) :
  aU P w K ai base eY (k+1) f (PySem.W.fnOf name qual params body scope BP d9 doc pm an b4 ff) ps sp:=by
 refine⟨len,fun A outer s H args us vs Q E aC e0 aa r nO=>?_⟩
 have az:=len _ _ _ _ nO
 have ov:K.In s.heap:=e0.mod.uA.keeps fun b o e=>(e0.bs b o e).1
 have lim:s.heap.NoLimit:=e0.mod.nolimit.keeps fun b o e=>(e0.bs b o e).1
 have DM:∀y∈ps.zip us,scope.names.lookup y.1=some .local∨(scope.names.lookup y.1=some .cell∧((cellsFrom (s.heap.objs.size+1) scope.names []).lookup y.1).isSome=true):=fun ⟨n,v⟩ cg=>by
  rcases S.par n (of_mem_zip cg).1 with q | q
  ·exact .inl q
  ·exact .inr ⟨q,PySem.W.cellsFrom_some _ _ _ (.inl q)⟩
 refine codeAny_call_function aC.depth (ov _ _ lk) rfl S.co S.gen rfl (PySem.W.codeRec_of ov kG) (aa _ _ _ _ ?_)
 refine wpAny_newFunctionEnv_cells S.kind DM fun env he s1 x=>?_
 subst he
 refine⟨lim.keeps x.toInCall.keep,codeAny_func ?_⟩
 obtain⟨t,a6,bN⟩:=wC A outer s H vs Q E (aC.deeper _) nO
 have I:Inv (fG eY P w K ai base N qual scope f b4 A outer s H E) [] (start N vs) H s1:=UW S aC.hd e0 az r x
 refine wpAny_mono (a6 [] s1 (start N vs) H _ I bN) (fun gG aM a5=>?_) fun e aM a5=>a5
 have fin:∀{bK:St} {ah:ao} {v:V} {u:Value},Inv (fG eY P w K ai base N qual scope f b4 A outer s H E) [] bK ah aM→RelV v u→Q v ah→Hj outer P w H s Q u aM :=
  fun {bK ah v u} J bp q=>⟨v,ah,J.os,J.bare,J.base,J.bD,bp,q⟩
 cases gG with
 | ret u =>
  obtain⟨v,bK,ah,J,bp,q⟩:=a5
  exact fin J bp q
 | next =>
  obtain⟨bK,ah,J,q⟩:=a5
  exact fin (v:=V.cE) (u:=Value.none) J rfl q
 | brk =>
  obtain⟨_,_,_,q⟩:=a5
  exact False.elim q
 | cont =>
  obtain⟨_,_,_,q⟩:=a5
  exact False.elim q
section
variable {X:bE}{x:Str}{p pos:Pos}{e:Expr}{aE:List Expr}{t:h5}{id T:String}{r:List V→ao→cC→Prop}
def Ms (r:List V→ao→cC→Prop) (t:h5):TE:=fun σ H Q=>t σ H fun vs H1=>r vs H1 Q
theorem dP (aj:mG X (.builtin id) r) (cA:kX X x) (hm:X.ai x=none) (br:bootBuiltins x=some (.builtin id)) (aX:lG X (e::aE) t) (aS:x≠"__name__":=by decide) (rK:(x == ("__debug__":Str))=false:=by decide)
  (he:starEach (e::aE) X.env=(false,eval e X.env)::starEach aE X.env:=by rfl) (ho:(backTo pos (starEach aE X.env)).any (·.1)=false:=by rfl):b3 X (.Call (.Name x p) (e::aE) [] pos) (Ms r t):=by
 intro pins s σ H Q I h
 refine wpAny_Call_Name_kw (pV I cA hm br ?_ aS rK)
 exact PyProof.Rows.callWith_builtin1 (bS (aX pos pins s σ H _ I h) fun us s1 ⟨vs,H1,aY,a4,bu⟩=>aj pins s1 σ H1 vs us Q aY a4 bu) he ho
theorem h_ (aj:mG X (.type T) r) (cA:kX X x) (hm:X.ai x=none) (br:bootBuiltins x=some (.type T)) (aX:lG X (e::aE) t) (aS:x≠"__name__":=by decide) (rK:(x == ("__debug__":Str))=false:=by decide)
  (he:starEach (e::aE) X.env=(false,eval e X.env)::starEach aE X.env:=by rfl) (ho:(backTo pos (starEach aE X.env)).any (·.1)=false:=by rfl):b3 X (.Call (.Name x p) (e::aE) [] pos) (Ms r t):=by
 intro pins s σ H Q I h
 refine wpAny_Call_Name_kw (pV I cA hm br ?_ aS rK)
 exact PyProof.Rows.callWith_type1 (bS (aX pos pins s σ H _ I h) fun us s1 ⟨vs,H1,aY,a4,bu⟩=>aj pins s1 σ H1 vs us Q aY a4 bu) he ho
end
end L2
namespace gi
open PySem PyProof.Rows
section
open PySem.SeqAt
open PySem.AutoSeq1 (wpAny_loadPart')
open PySem.MeetsSeq PySem.MeetsSeq2 PySem.MeetsSeq3
end
section
variable {prog:Program}{w:World}{A:Around}{E:Value→Shared→Prop}{s:Shared}
def dO (n d:Nat):Option Int→Nat
 | none=>d
 | some v=>if v<0 then (v+(n:Int)).toNat else min v.toNat n
theorem CB (n d:Nat):dO n d none=d:=rfl
theorem Jr (n d k:Nat):dO n d (some (k:Int))=min k n:=by
 show (if (k:Int)<0 then ((k:Int)+(n:Int)).toNat else min (k:Int).toNat n)=min k n
 rw[if_neg (by omega),Int.toNat_natCast]
theorem WX (n d:Nat) (hd:d≤n) (o:Option Int):dO n d o≤n:=by
 cases o with
 | none=>exact hd
 | some v =>
  show (if v<0 then (v+(n:Int)).toNat else min v.toNat n)≤n
  by_cases br:v<0
  ·rw[if_pos br];omega
  ·rw[if_neg br];exact Nat.min_le_right _ _
theorem JG (v:Int) (n d:Nat):(if v<0 then max (v+(n:Int)) 0 else min v (n:Int))=((dO n d (some v):Nat):Int):=by
 show (if v<0 then max (v+(n:Int)) 0 else min v (n:Int))=(((if v<0 then (v+(n:Int)).toNat else min v.toNat n):Nat):Int)
 by_cases br:v<0
 ·simp only[if_pos br];omega
 ·simp only[if_neg br];omega
theorem Up (lo aL:Option Int) (n:Nat):Builtin.Slice.sliceAdjust lo aL 1 (n:Int)=(((dO n 0 lo:Nat):Int),((dO n n aL:Nat):Int)):=by
 have ay:¬((1:Int)<0):=by omega
 unfold Builtin.Slice.sliceAdjust
 simp only[ay,if_false]
 refine Prod.ext ?_ ?_
 ·cases lo with
  | none=>rfl
  | some v=>exact JG v n 0
 ·cases aL with
  | none=>rfl
  | some v=>exact JG v n n
theorem T7 (i j:Nat):Builtin.Slice.slicePlaces (i:Int) (j:Int) 1=j - i:=by
 unfold Builtin.Slice.slicePlaces
 have ay:(1:Int) > 0:=by omega
 simp only[ay,if_true,Int.ediv_one]
 split <;> omega
theorem HU {v:Value}{o:Option Int}{Q:Option Int→Shared→Prop}(p:IsPart v o) (h:Q o s):wpAny (model prog w) A (Builtin.Slice.slicePartIndex v) Q E s:=by
 cases p with
 | none=>exact slicePart_none h
 | int i t=>exact slicePart_int h
theorem Tc {dc:Addr}{jI jH:Value}{lo aL:Option Int}{n:Nat}{Q:Int × Int × Nat→Shared→Prop}(a5:s.heap.IsSliceOf dc jI jH .none) (pl:IsPart jI lo) (pu:IsPart jH aL)
  (h:Q (((dO n 0 lo:Nat):Int),1,dO n n aL - dO n 0 lo) s):wpAny (model prog w) A (Builtin.Slice.sliceApplied (.ref dc) (pure (n:Int))) Q E s:=by
 obtain⟨os,xd,Oe,qh⟩:=id a5
 unfold Builtin.Slice.sliceApplied Builtin.Slice.sliceFields
 refine wpAny_bind (wpAny_bind (wpAny_field xd qh (x:=jI) rfl (wpAny_bind (wpAny_field xd qh (x:=jH) rfl (wpAny_bind (wpAny_field xd qh (x:=.none) rfl (wpAny_pure ?_)))))))
 refine wpAny_bind (slicePart_none ?_)
 show wpAny _ _ (if ((1:Int) == 0)=true then _ else _) _ _ s
 rw[if_neg (by decide)]
 refine wpAny_bind (HU pl (wpAny_bind (HU pu (wpAny_bind (wpAny_pure ?_)))))
 show wpAny _ _ (match Builtin.Slice.sliceAdjust lo aL 1 (n:Int) with | (lo,aL)=>pure (lo,(1:Int),Builtin.Slice.slicePlaces lo aL 1)) _ _ s
 rw[Up lo aL n]
 show wpAny _ _ (pure (((dO n 0 lo:Nat):Int),(1:Int),Builtin.Slice.slicePlaces ((dO n 0 lo:Nat):Int) ((dO n n aL:Nat):Int) 1)) _ _ s
 rw[T7]
 exact wpAny_pure h
theorem Vp (xs:Array Value) (i k:Nat):((List.range k).filterMap fun (m:Nat)=>xs[((i:Int)+(m:Int) * 1).toNat]?).toArray=((xs.toList.drop i).take k).toArray:=by
 have e:(fun (m:Nat)=>xs[((i:Int)+(m:Int) * 1).toNat]?)=fun m=>xs[i+m]?:=by
  funext m
  have:((i:Int)+(m:Int) * 1).toNat=i+m:=by omega
  rw[this]
 rw[e]
 have:=pick_run xs i k
 rw[List.filterMap_map]at this
 have aN:((fun x=>xs[x]?) ∘ fun x=>i+x)=fun m=>xs[i+m]?:=rfl
 rw[aN]at this
 rw[this]
theorem S_ {t dc:Addr}{items:Array Value}{jI jH:Value}{lo aL:Option Int}{Q:Value→Shared→Prop}(a6:IsTup s.heap t items) (a5:s.heap.IsSliceOf dc jI jH .none) (pl:IsPart jI lo) (pu:IsPart jH aL)
  (hw:¬(dO items.size 0 lo=0∧dO items.size items.size aL=items.size))
  (h:Q (.ref s.heap.objs.size) { s with heap:=s.heap.push { cls:=.type "tuple",data:=.seq ((items.toList.drop (dO items.size 0 lo)).take (dO items.size items.size aL - dO items.size 0 lo)).toArray } })
  (hsz:items.size≤sizeLine):wpAny (model prog w) A (getItem (.ref t) (.ref dc)) Q E s:=by
 have zG:sizeOk (.seq ((items.toList.drop (dO items.size 0 lo)).take (dO items.size items.size aL - dO items.size 0 lo)).toArray):=by
  show ((items.toList.drop (dO items.size 0 lo)).take (dO items.size items.size aL - dO items.size 0 lo)).toArray.size≤sizeLine
  rw[size_toArray,length_take,length_drop,Array.length_toList]
  omega
 have de:dO items.size items.size aL≤items.size:=WX _ _ (le_refl _) aL
 obtain⟨os,xd,Oe,qh⟩:=id a5
 have aip:s.TypeIs (.ref dc) "slice":=⟨os,xd,Oe⟩
 unfold getItem
 try with_reducible refine wpAny_holding ?_
 first | refine wpAny_bind (wpAny_pure ?_) | skip
 refine wpAny_bind (wpAny_sequenceKey a6.typeIs (by decide) ?_)
 refine wpAny_bind (wpAny_callSpecial?_slot (name:=Str.ofString "__getitem__") a6.typeIs PyProof.Rows.slot_tuple_getitem
  (wpAny_call_entry PyProof.Rows.slot_tuple_getitem a6.typeIs entry_tuple_getitem ?_ (args_tuple_getitem _ _)))
 show wpAny _ _ (Builtin.Tuple.tupleItemsOf (.ref t) >>= _) _ _ s
 refine wpAny_bind (tupleItemsOf_ a6 ?_)
 refine wpAny_bind (wpAny_typeOf aip ?_)
 rw[if_pos (by decide)]
 refine wpAny_bind (Tc a5 pl pu ?_)
 have rF:¬((((dO items.size 0 lo:Nat):Int) == 0 && (1:Int) == 1 && (dO items.size items.size aL - dO items.size 0 lo) == items.size)=true):=by
  intro q
  rw[and_eq_true,and_eq_true]at q
  have bu:((dO items.size 0 lo:Nat):Int)=0:=eq_of_beq q.1.1
  have aV:dO items.size items.size aL - dO items.size 0 lo=items.size:=eq_of_beq q.2
  exact hw ⟨by omega,by omega⟩
 show wpAny _ _ (if (((dO items.size 0 lo:Nat):Int) == 0 && (1:Int) == 1 && (dO items.size items.size aL - dO items.size 0 lo) == items.size)=true then _ else _) _ _ s
 rw[if_neg rF,Vp]
 first
  | exact wpAny_bind (m:=Builtin.Tuple.tupleExact _) (wpAny_newObj_type (wpAny_pure ⟨_,rfl,wpAny_pure h⟩) zG)
  | exact wpAny_bind (m:=Builtin.Tuple.tupleExact _) (wpAny_newObj_type (wpAny_bind (wpAny_pure (wpAny_pure ⟨_,rfl,wpAny_pure h⟩))) zG)
  | exact wpAny_bind (wpAny_bind (m:=Builtin.Tuple.tupleExact _) (wpAny_newObj_type (wpAny_pure (wpAny_pure ⟨_,rfl,wpAny_pure h⟩)) zG))
  | exact wpAny_bind (wpAny_bind (m:=Builtin.Tuple.tupleExact _) (wpAny_newObj_type (wpAny_pure ⟨_,rfl,wpAny_pure h⟩) zG))
end
end gi
namespace L2
open PySem PySem.Spec PyProof.Rows
abbrev yb:=St→ao→(Option Int→ao→Prop)→Prop
def BV (X:bE) (e:Option Expr) (t:yb):Prop :=
 ∀(pins:List (Addr × Obj)) (s:Shared) (σ:St) (H:ao) (Q:Option Int→ao→Prop),Inv X pins σ H s→t σ H Q →
  wpAny (model X.prog X.w) X.A (evalPart e X.env) (fun u aM=>∃o ah,Inv X pins σ ah aM∧IsPart u o∧Q o ah) X.dF s
def V4:yb:=fun _ H Q=>Q none H
def XF (t:TE):yb:=fun σ H Q=>t σ H fun x H1=>∃i,x=.int i∧Q (some i) H1
section
variable {X:bE}{e:Expr}{b8:TE}{lo aL:Option Expr}{hD Bx:yb}{pos fQ:Pos}
theorem nA:BV X none V4:=by
 intro pins s σ H Q I h
 rw[evalPart_none]
 exact wpAny_pure ⟨none,H,I,.none,h⟩
theorem ny (h:b3 X e b8):BV X (some e) (XF b8):=by
 intro pins s σ H Q I hw
 rw[evalPart_some]
 refine bS (h pins s σ H _ I hw) fun u s1 ⟨x,H1,aY,a4,bu⟩=>?_
 obtain⟨i,rfl,q⟩:=bu
 obtain⟨t,rfl⟩:=a4
 exact⟨some i,H1,aY,.int i t,q⟩
def F5 (X:bE) (r:V→Option Int→Option Int→ao→cC→Prop):Prop :=
 ∀(pins:List (Addr × Obj)) (s:Shared) (σ:St) (H:ao) (x:V) (v jI jH:Value) (lo aL:Option Int) (dc:Addr) (Q:cC),Inv X pins σ H s→RelV x v→s.heap.IsSliceOf dc jI jH .none→IsPart jI lo→IsPart jH aL→r x lo aL H Q →
  ∃T id,typeLookup (.type T) "__getitem__"=pure (some (.builtin id))∧s.TypeIs v T∧wpAny (model X.prog X.w) X.A (getItem v (.ref dc)) (hk X pins σ Q) X.dF s
def afJ (r:V→Option Int→Option Int→ao→cC→Prop) (b8:TE) (hD Bx:yb):TE:=fun σ H Q=>b8 σ H fun x H1=>hD σ H1 fun l au=>Bx σ au fun u a9=>r x l u a9 Q
theorem nv {r:V→Option Int→Option Int→ao→cC→Prop}(aC:F5 X r) (he:b3 X e b8) (az:BV X lo hD) (a7:BV X aL Bx):b3 X (.Subscript e (.Slice lo aL none fQ) pos) (afJ r b8 hD Bx):=by
 intro pins s σ H Q I h
 refine Subscript_ (bS (he pins s σ H _ I h) fun v s1 ⟨x,H1,aY,a4,bu⟩=>?_)
 refine wpAny_Slice (bS (az pins s1 σ H1 _ aY bu) fun jI s2 ⟨l,au,cH,pl,aV⟩=>bS (a7 pins s2 σ au _ cH aV) fun jH s3 ⟨u,a9,cQ,pu,eV⟩=>?_)
 rw[evalPart_none]
 refine wpAny_pure ?_
 have kk:Inv X pins σ a9 { s3 with heap:=s3.heap.push { cls:=.type "slice",data:=.fields #[jI,jH,.none] } }:=cQ.kept (t':=s3.toks) fun b bR q=>get?_push_of_some _ q
 obtain⟨T,id,iD,a6,cA⟩:=aC pins { s3 with heap:=s3.heap.push { cls:=.type "slice",data:=.fields #[jI,jH,.none] } } σ a9 x v jI jH l u s3.heap.objs.size Q kk a4 (Heap.IsSliceOf.new ..) pl pu eV
 show wpAny (model X.prog X.w) X.A (subscriptTail e (.Slice lo aL none fQ) v (.ref s3.heap.objs.size)) (hk X pins σ Q) X.dF { s3 with heap:=s3.heap.push { cls:=.type "slice",data:=.fields #[jI,jH,.none] } }
 exact tail_any (ops:=[.ref s3.heap.objs.size,v]) a6 iD cA (by with_unfolding_all rfl)
def eS (xs:List V) (lo aL:Option Int):List V:=(xs.drop (gi.dO xs.length 0 lo)).take (gi.dO xs.length xs.length aL - gi.dO xs.length 0 lo)
theorem yv (xs:List V) (lo aL:Option Int):(eS xs lo aL).length≤xs.length:=by
 unfold eS
 rw[length_take,length_drop]
 omega
def ZJ (K:PySem.W.Frag):V→Option Int→Option Int→ao→cC→Prop:=fun x lo aL H Q=>∃a xs,x=.ref a∧aF K H a xs ∧
 ¬(gi.dO xs.length 0 lo=0∧gi.dO xs.length xs.length aL=xs.length)∧∀p,H p=none→Q (.ref p) (upd H p (.tup (eS xs lo aL)))
theorem JR:F5 X (ZJ X.K):=by
 intro pins s σ H x v jI jH lo aL dc Q I bC a5 pl pu h
 obtain⟨a,xs,rfl,bg,hw,q⟩:=h
 cases bC
 obtain⟨its,r,a6,hz⟩:=I.tuple bg
 have hlen:its.toArray.size=xs.length:=by rw[size_toArray];exact r.length.symm
 refine⟨"tuple",_,PyProof.Rows.slot_tuple_getitem.lookup,a6.typeIs,?_⟩
 refine gi.S_ a6 a5 pl pu (by rw[hlen];exact hw) ?_ (by rw[hlen];exact hz)
 rw[hlen]
 refine⟨.ref s.heap.objs.size,_,I.laid (t':=s.toks) (o:=.tup (eS xs lo aL)) (fun b bR q=>get?_push_of_some _ q) (le_refl _) ?_,rfl,q _ (I.bD.fresh (le_refl _))⟩
 exact⟨le_trans (yv xs lo aL) hz,_,(r.drop (gi.dO xs.length 0 lo)).take (gi.dO xs.length xs.length aL - gi.dO xs.length 0 lo),IsTup.new _ _⟩
end
def nM (n:Nat) (i:Int):Option Nat:=if 0≤i then (if i<n then some i.toNat else none) else if -(n:Int)≤i then some (i+n).toNat else none
def nZ {α:Type}(xs:List α) (i:Int):Option α:=(nM xs.length i).bind fun j=>xs[j]?
theorem JC {n:Nat}{i:Int}{j:Nat}(h:nM n i=some j):seqIndex? i n=some j∧j<n ∧ -(n:Int)≤i∧i<n:=by
 unfold nM at h
 by_cases h0:0≤i
 ·rw[if_pos h0]at h
  by_cases ay:i<n
  ·rw[if_pos ay]at h
   have e:i.toNat=j:=Option.some.inj h
   exact⟨by rw[seqIndex_of h0 ay,e],by omega,by omega,ay⟩
  ·rw[if_neg ay]at h;cases h
 ·rw[if_neg h0]at h
  by_cases ay : -(n:Int)≤i
  ·rw[if_pos ay]at h
   have e:(i+n).toNat=j:=Option.some.inj h
   exact⟨by rw[seqIndex_neg (by omega) ay,e],by omega,ay,by omega⟩
  ·rw[if_neg ay]at h;cases h
theorem JI {α:Type}{xs:List α}{i:Int}{v:α}(h:nZ xs i=some v):∃j,seqIndex? i xs.length=some j∧xs[j]?=some v∧j<xs.length ∧ -(xs.length:Int)≤i∧i<xs.length:=by
 unfold nZ at h
 cases e:nM xs.length i with
 | none=>rw[e]at h;cases h
 | some j =>
  rw[e]at h
  obtain⟨ay,aG,ct,dN⟩:=JC e
  exact⟨j,ay,h,aG,ct,dN⟩
theorem k4 {α:Type}{xs:List α}{j:Nat}{v:α}(h:xs[j]?=some v):nZ xs (j:Int)=some v:=by
 have de:j<xs.length:=(List.getElem?_eq_some_iff.mp h).1
 have e:nM xs.length (j:Int)=some j:=by
  unfold nM
  rw[if_pos (by omega),if_pos (by omega)];simp
 unfold nZ;rw[e];exact h
def WJ (b:Expr):Prop:=∀o i,subscripted b false o i=operate [o,i] (getItem o i)
def Bp (X:bE) (r:i2):Prop :=
 ∀(value slice:Expr) (pins:List (Addr × Obj)) (s:Shared) (σ:St) (H:ao) (x y:V) (v u:Value) (Q:cC),Inv X pins σ H s→RelV x v→RelV y u→r x y H Q →
  subscripted slice false v u=operate [v,u] (getItem v u)→wpAny (model X.prog X.w) X.A (subscriptTail value slice v u) (hk X pins σ Q) X.dF s
def QO (X:bE) (id:String) (r:V→List V→ao→cC→Prop):Prop :=
 ∀(pins:List (Addr × Obj)) (s:Shared) (σ:St) (H:ao) (x:V) (xs:List V) (v:Value) (us:List Value) (Q:cC),Inv X pins σ H s→RelV x v→Vals xs us→r x xs H Q →
  wpAny (model X.prog X.w) X.A (call (.builtin id) (v::us)) (hk X pins σ Q) X.dF s
section
variable {X:bE}{a b:Expr}{c1 dG:TE}{pos:Pos}
theorem bA {r:i2}(aC:Bp X r) (aX:b3 X a c1) (aa:b3 X b dG) (a5:WJ b):b3 X (.Subscript a b pos) (z3 r c1 dG):=by
 intro pins s σ H Q I h
 exact Subscript_ (D8 aX aa I h fun v u s2 x y au cH bC bM q=>aC a b pins s2 σ au x y v u Q cH bC bM q (a5 _ _))
def DU (K:PySem.W.Frag):i2:=fun x y H Q=>∃p xs i v,x=.ref p∧y=.int i∧aR K H p xs∧nZ xs i=some v∧Q v H
def ZM (K:PySem.W.Frag):i2:=fun x y H Q=>∃p xs i v,x=.ref p∧y=.int i∧aF K H p xs∧nZ xs i=some v∧Q v H
theorem eH:Bp X (DU X.K):=by
 intro value slice pins s σ H x y v u Q I bC bM h a5
 obtain⟨p,xs,i,z,rfl,rfl,bN,he,q⟩:=h
 cases bC
 obtain⟨t,rfl⟩:=bM
 obtain⟨its,r,pl,hz⟩:=I.list bN
 obtain⟨j,ay,aG,ct,dN,gQ⟩:=JI he
 obtain⟨w,jR,j0⟩:=r.get aG
 have az:=r.length
 have aS:=zk
 have fin:hk X pins σ Q w s:=⟨z,H,I,j0,q⟩
 by_cases h0:0≤i
 ·have de:i.toNat=j:=by
   rw[seqIndex_of h0 gQ]at ay
   exact Option.some.inj ay
  exact item_listR pl.isList h0 (by omega) (by rw[de];simpa using jR) fin a5
 ·have de:(i+(its.toArray.size:Int)).toNat=j:=by
   rw[seqIndex_neg (by omega) dN]at ay
   rw[size_toArray,←az]
   exact Option.some.inj ay
  exact subscriptTail_builtinR (x:=w) pl.isList.typeIs slot_list_getitem.lookup
   (wpAny_getItem_list_neg (Q:=fun r aM=>r=w∧hk X pins σ Q r aM) pl.isList (by omega) (by rw[size_toArray] <;> omega) (by omega) (by rw[de];simpa using jR) ⟨rfl,fin⟩) a5
theorem bZ:Bp X (ZM X.K):=by
 intro value slice pins s σ H x y v u Q I bC bM h a5
 obtain⟨p,xs,i,z,rfl,rfl,bN,he,q⟩:=h
 cases bC
 obtain⟨t,rfl⟩:=bM
 obtain⟨its,r,pl,hz⟩:=I.tuple bN
 obtain⟨j,ay,aG,ct,dN,gQ⟩:=JI he
 obtain⟨w,jR,j0⟩:=r.get aG
 have az:=r.length
 have aS:=zk
 have fin:hk X pins σ Q w s:=⟨z,H,I,j0,q⟩
 exact subscriptTail_builtinR (x:=w) pl.typeIs slot_tuple_getitem.lookup
  (getItem_tuple (j:=j) (Q:=fun r aM=>r=w∧hk X pins σ Q r aM) pl (by omega) (by omega) (by rw[size_toArray,←az];exact ay) (by simpa using jR) ⟨rfl,fin⟩) a5
theorem Ub (its:List Value) (n j:Nat) (u:Value):Obj.mapSeq (·.setIfInBounds j u) { cls:=.type "list",data:=.seq its.toArray n }={ cls:=.type "list",data:=.seq (its.set j u).toArray n }:=by
 simp[Obj.mapSeq]
theorem Inv.lst {pins:List (Addr × Obj)}{σ:St}{H:ao}{s:Shared}{p:Addr}{xs:List V}(I:Inv X pins σ H s) (h:H p=some (.lst xs)) :
  ∃(its:List Value) (n:Nat),Vals xs its∧s.heap.get? p=some { cls:=.type "list",data:=.seq its.toArray n }∧xs.length≤sizeLine:=by
 obtain⟨z,its,n,r,e⟩:=I.bD p _ h
 exact⟨its,n,r,e,z⟩
theorem Inv.Xk {pins:List (Addr × Obj)}{σ:St}{H:ao}{s:Shared}{p:Addr}{xs ys:List V}{its its':List Value}{n xS:Nat}{f:Obj→Obj}(I:Inv X pins σ H s) (h:H p=some (.lst xs))
  (aH:s.heap.get? p=some { cls:=.type "list",data:=.seq its.toArray n }) (hf:f { cls:=.type "list",data:=.seq its.toArray n }={ cls:=.type "list",data:=.seq its'.toArray xS }) (r:Vals ys its') (hz:ys.length≤sizeLine) (t:Nat) :
  Inv X pins σ (upd H p (.lst ys)) { s with heap:=s.heap.update p f,toks:=t }:=by
 have e:(s.heap.update p f).get? p=some { cls:=.type "list",data:=.seq its'.toArray xS }:=by
  rw[get?_update_self f aH (by rw[hf] <;> rfl),hf]
 refine I.write (x:=p) (e:=p) (by rw[h];trivial) (.inl rfl) (fun b u aa q=>(get?_update_other _ _ (Ne.symm aa)).trans q) ⟨_,e⟩ ?_
 exact⟨hz,its',xS,r,e⟩
def XW:V→V→V→ao→(ao→Prop)→Prop:=fun o i v H Q=>∃p xs k j,o=.ref p∧i=.int k∧H p=some (.lst xs)∧nM xs.length k=some j∧Q (upd H p (.lst (xs.set j v)))
theorem set_list:Ml X XW:=by
 intro pins s σ H o i v bT iC u Q I iw akm bp h
 obtain⟨p,xs,k,j,rfl,rfl,aI,de,q⟩:=h
 cases iw
 obtain⟨t,rfl⟩:=akm
 obtain⟨its,n,r,aH,hz⟩:=I.lst aI
 obtain⟨ay,aG,ct,dN⟩:=JC de
 have az:=r.length
 have aS:=zk
 have gc:Inv X pins σ (upd H p (.lst (xs.set j v))) { s with heap:=s.heap.update p (Obj.mapSeq (·.setIfInBounds j u)) } :=
  I.Xk aI aH (Ub its n j u) (r.set bp j) (by rw[length_set];exact hz) s.toks
 by_cases h0:0≤k
 ·have a8:k.toNat=j:=by
   rw[seqIndex_of h0 dN]at ay
   exact Option.some.inj ay
  exact PySem.W.ki_setAt aH h0 (by omega) (by rw[size_toArray,←az];exact dN) (by rw[a8];exact⟨_,gc,q⟩)
 ·have a8:(k+(its.toArray.size:Int)).toNat=j:=by
   rw[seqIndex_neg (by omega) ct]at ay
   rw[size_toArray,←az]
   exact Option.some.inj ay
  exact PySem.W.ki_setBack aH (by omega) (by rw[size_toArray,←az];exact ct) (by omega) (by rw[a8];exact⟨_,gc,q⟩)
theorem Tw (lo aL:Option Int) (n:Nat):(sliceBounds lo aL none n).1=((gi.dO n 0 lo:Nat):Int)∧(sliceBounds lo aL none n).2.1=((gi.dO n n aL:Nat):Int)∧(sliceBounds lo aL none n).2.2=1:=by
 refine⟨?_,?_,rfl⟩
 ·cases lo with
  | none=>simp[sliceBounds,gi.dO]
  | some i =>
   simp only[sliceBounds,gi.dO,Option.getD_none,show (1:Int) > 0 by decide,if_true]
   by_cases h:i<0
   ·simp only[h,if_true] <;> omega
   ·simp only[h,if_false] <;> omega
 ·cases aL with
  | none=>simp[sliceBounds,gi.dO]
  | some i =>
   simp only[sliceBounds,gi.dO,Option.getD_none,show (1:Int) > 0 by decide,if_true]
   by_cases h:i<0
   ·simp only[h,if_true] <;> omega
   ·simp only[h,if_false] <;> omega
theorem Tp (its:List Value) (lo aL:Option Int):slicePick its.toArray lo aL none=((its.drop (gi.dO its.length 0 lo)).take (gi.dO its.length its.length aL - gi.dO its.length 0 lo)).toArray:=by
 obtain⟨ay,aG,ct⟩:=Tw lo aL its.toArray.size
 unfold slicePick
 rw[ay,aG,ct]
 simp only[sliceRange_one,pick_run,size_toArray] <;> rfl
def ZK (K:PySem.W.Frag):V→Option Int→Option Int→ao→cC→Prop:=fun x lo aL H Q=>∃a xs,x=.ref a∧aR K H a xs∧∀p,H p=none→Q (.ref p) (upd H p (.lst (eS xs lo aL)))
theorem pP:F5 X (ZK X.K):=by
 intro pins s σ H x v jI jH lo aL dc Q I bC a5 pl pu h
 obtain⟨a,xs,rfl,bg,q⟩:=h
 cases bC
 obtain⟨its,r,a6,hz⟩:=I.list bg
 have hlen:=r.length
 refine⟨"list",_,slot_list_getitem.lookup,a6.isList.typeIs,?_⟩
 refine wpAny_getItem_list_slice a6.isList a5 pl pu .none (by simp) ?_ (by rw[size_toArray] <;> omega)
 rw[Tp,←hlen]
 refine⟨.ref s.heap.objs.size,_,I.laid (t':=s.toks) (o:=.lst (eS xs lo aL)) (fun b bR q=>get?_push_of_some _ q) (le_refl _) ?_,rfl,q _ (I.bD.fresh (le_refl _))⟩
 exact⟨le_trans (yv xs lo aL) hz,_,0,(r.drop (gi.dO xs.length 0 lo)).take (gi.dO xs.length xs.length aL - gi.dO xs.length 0 lo),get?_push_size _ rfl⟩
def oK:V→Bool
 | .cE=>true
 | .bV _=>true
 | .int _=>true
 | .str _=>true
 | _=>false
def o8:V→V→Bool
 | .cE,.cE=>true
 | .bV a,.bV b=>a == b
 | .bV a,.int b=>(if a then 1 else 0) == b
 | .int a,.bV b=>a == (if b then 1 else 0)
 | .int a,.int b=>a == b
 | .str a,.str b=>a == b
 | _,_=>false
theorem Xy {A:Around}{s:Shared}{y x:V}{u v:Value}(bM:RelV y u) (bC:RelV x v) (qB:oK y=true) (lD:oK x=true):SeqAt.EqAt A s u v (o8 y x):=by
 cases y with
 | cE =>
  cases bM
  cases x with
  | cE=>cases bC;exact SeqAt.EqAt.same _
  | bV b=>cases bC;exact SeqAt.EqAt.none_bool b
  | int b=>obtain⟨t,rfl⟩:=bC;exact SeqAt.EqAt.none_int b t
  | str b=>obtain⟨t,rfl⟩:=bC;exact SeqAt.EqAt.none_str b t
  | _=>exact absurd (show false=true from lD) Bool.false_ne_true
 | bV a =>
  cases bM
  cases x with
  | cE=>cases bC;exact SeqAt.EqAt.bool_none a
  | bV b=>cases bC;exact SeqAt.EqAt.bool_bool a b
  | int b=>obtain⟨t,rfl⟩:=bC;exact SeqAt.EqAt.bool_int a b t
  | str b=>obtain⟨t,rfl⟩:=bC;exact SeqAt.EqAt.bool_str a b t
  | _=>exact absurd (show false=true from lD) Bool.false_ne_true
 | int a =>
  obtain⟨t',rfl⟩:=bM
  cases x with
  | cE=>cases bC;exact SeqAt.EqAt.int_none a t'
  | bV b=>cases bC;exact SeqAt.EqAt.int_bool a t' b
  | int b=>obtain⟨t,rfl⟩:=bC;exact SeqAt.EqAt.int_int a t' b t
  | str b=>obtain⟨t,rfl⟩:=bC;exact SeqAt.EqAt.int_str a t' b t
  | _=>exact absurd (show false=true from lD) Bool.false_ne_true
 | str a =>
  obtain⟨t',rfl⟩:=bM
  cases x with
  | cE=>cases bC;exact SeqAt.EqAt.str_none a t'
  | bV b=>cases bC;exact SeqAt.EqAt.str_bool a t' b
  | int b=>obtain⟨t,rfl⟩:=bC;exact SeqAt.EqAt.str_int a t' b t
  | str b=>obtain⟨t,rfl⟩:=bC;exact SeqAt.EqAt.str_str a t' b t
  | _=>exact absurd (show false=true from lD) Bool.false_ne_true
 | _=>exact absurd (show false=true from qB) Bool.false_ne_true
def j6 (x:V) (u:Value):Bool:=match u with
 | .none=>o8 .cE x
 | .bool b=>o8 (.bV b) x
 | .int i _=>o8 (.int i) x
 | .str z _=>o8 (.str z) x
 | _=>false
theorem J4 {x y:V}{u:Value}(r:RelV y u) (f:oK y=true):j6 x u=o8 y x:=by
 cases y with
 | cE=>cases r;rfl
 | bV b=>cases r;rfl
 | int i=>obtain⟨t,rfl⟩:=r;rfl
 | str z=>obtain⟨t,rfl⟩:=r;rfl
 | _=>exact absurd (show false=true from f) Bool.false_ne_true
theorem v8 {x:V}:∀{xs:List V}{us:List Value},Vals xs us→xs.all oK=true→us.any (j6 x)=xs.any fun y=>o8 y x
 | _,_,.nil,_=>rfl
 | y::xs,u::us,.cons r t,f=>by
  rw[List.all_cons,and_eq_true]at f
  rw[any_cons,any_cons,J4 r f.1,v8 t f.2]
theorem vW {A:Around}{s:Shared}{x:V}{v:Value}(bC:RelV x v) (lD:oK x=true):∀{xs:List V}{us:List Value},Vals xs us→xs.all oK=true→∀u∈us,SeqAt.EqAt A s u v (j6 x u)
 | _,_,.nil,_=>fun u a7=>by cases a7
 | y::xs,u::us,.cons r t,f=>fun n3 a7=>by
  rw[List.all_cons,and_eq_true]at f
  rcases mem_cons.mp a7 with rfl | a7
  ·rw[J4 r f.1];exact Xy r bC f.1 lD
  ·exact vW bC lD t f.2 n3 a7
def hQ (x:V) (xs:List V):Bool:=xs.any fun y=>o8 y x
def Mx (K:PySem.W.Frag) (neg:Bool):i2:=fun x y H Q=>∃p xs,y=.ref p∧(aR K H p xs∨aF K H p xs)∧oK x=true∧xs.all oK=true∧Q (.bV (if neg then !hQ x xs else hQ x xs)) H
theorem Iw:gX X (compareOp .In) (Mx X.K false):=by
 intro pins s σ H x y v u Q I bC bM h
 obtain⟨p,xs,rfl,bN,lD,bL,q⟩:=h
 cases bM
 rcases bN with bN | bN
 ·obtain⟨its,r,pl,hz⟩:=I.list bN
  refine SeqAt.in_listAt (j6 x) pl.isList (fun w hw=>vW bC lD r bL w (by simpa using hw)) ⟨.bV _,H,I,rfl,?_⟩
  rw[show its.toArray.any (j6 x)=its.any (j6 x) by simp,v8 r bL]
  exact q
 ·obtain⟨its,r,pl,hz⟩:=I.tuple bN
  refine SeqAt.in_tupleAt (j6 x) pl (fun w hw=>vW bC lD r bL w (by simpa using hw)) ⟨.bV _,H,I,rfl,?_⟩
  rw[show its.toArray.any (j6 x)=its.any (j6 x) by simp,v8 r bL]
  exact q
theorem Tz:gX X (compareOp .NotIn) (Mx X.K true):=by
 intro pins s σ H x y v u Q I bC bM h
 obtain⟨p,xs,rfl,bN,lD,bL,q⟩:=h
 cases bM
 rcases bN with bN | bN
 ·obtain⟨its,r,pl,hz⟩:=I.list bN
  refine SeqAt.notIn_listAt (j6 x) pl.isList (fun w hw=>vW bC lD r bL w (by simpa using hw)) ⟨.bV _,H,I,rfl,?_⟩
  rw[show its.toArray.any (j6 x)=its.any (j6 x) by simp,v8 r bL]
  exact q
 ·obtain⟨its,r,pl,hz⟩:=I.tuple bN
  refine SeqAt.notIn_tupleAt (j6 x) pl (fun w hw=>vW bC lD r bL w (by simpa using hw)) ⟨.bV _,H,I,rfl,?_⟩
  rw[show its.toArray.any (j6 x)=its.any (j6 x) by simp,v8 r bL]
  exact q
theorem e8:mG X (.builtin "len") (fun xs H Q=>∃p ys,xs=[.ref p]∧(aR X.K H p ys∨aF X.K H p ys)∧Q (.int ys.length) H):=by
 intro pins s σ H xs us Q I r h
 obtain⟨p,ys,rfl,bN,q⟩:=h
 obtain⟨u,rfl,bC⟩:=vals1 r
 cases bC
 have aS:=zk
 rcases bN with bN | bN
 ·obtain⟨its,fz,pl,hz⟩:=I.list bN
  have hlen:=fz.length
  exact Calls.call_len_list pl.isList (by simp only[size_toArray] <;> omega) ⟨.int ys.length,H,I.tok _,⟨s.toks+1,by rw[size_toArray,hlen]⟩,q⟩
 ·obtain⟨its,fz,pl,hz⟩:=I.tuple bN
  have hlen:=fz.length
  exact len_tuple pl (by simp only[size_toArray] <;> omega) ⟨.int ys.length,H,I.tok _,⟨s.toks+1,by rw[size_toArray,hlen]⟩,q⟩
theorem nq:mG X (.type "list") (fun xs H Q=>∃p ys,xs=[.ref p]∧(aR X.K H p ys∨aF X.K H p ys)∧∀l,H l=none→Q (.ref l) (upd H l (.lst ys))):=by
 intro pins s σ H xs us Q I r h
 obtain⟨p,ys,rfl,bN,q⟩:=h
 obtain⟨u,rfl,bC⟩:=vals1 r
 cases bC
 have fin:∀(its:List Value),Vals ys its→ys.length≤sizeLine→∀(h':Heap) (gv:Nat),(∀b fB,s.heap.get? b=some fB→h'.get? b=some fB) →
   h'.get? s.heap.objs.size=some { cls:=.type "list",dict:=none,data:=.seq its.toArray gv,slots := #[] }→hk X pins σ Q (.ref s.heap.objs.size) { s with heap:=h' }:=fun its fz hz h' gv eo e =>
  ⟨.ref s.heap.objs.size,_,I.laid (t':=s.toks) eo (le_refl _) (show fx X.prog X.w _ h' _ (.lst ys) from ⟨hz,its,gv,fz,e⟩),rfl,q _ (I.bD.fresh (le_refl _))⟩
 rcases bN with bN | bN
 ·obtain⟨its,fz,pl,hz⟩:=I.list bN
  have hlen:=fz.length
  obtain⟨o,aH,aj,n,hd⟩:=pl.isList
  exact call_list_seq p (.inl rfl) aH aj hd (fun h' gv eo e=>fin its fz hz h' gv eo e) (by simp only[size_toArray] <;> omega)
 ·obtain⟨its,fz,pl,hz⟩:=I.tuple bN
  have hlen:=fz.length
  obtain⟨o,aH,aj,n,hd⟩:=pl
  exact call_list_seq p (.inr rfl) aH aj hd (fun h' gv eo e=>fin its fz hz h' gv eo e) (by simp only[size_toArray] <;> omega)
def Ek (K:PySem.W.Frag) (T:String) (x:V) (H:ao):Prop:=match x with
 | .str _=>T="str"
 | .int _=>T="int"
 | .ref p=>(T="list"∧∃xs,aR K H p xs)∨(T="tuple"∧∃o,K.lookup p=some o∧o.cls=.type "tuple"∧o.dict=none) ∨
   (T="dict"∧((∃kvs,H p=some (.bQ kvs))∨∃kvs,H p=some (.hu kvs)))∨(T="set"∧∃S n,H p=some (.set S n))
 | _=>False
theorem JN {pins:List (Addr × Obj)}{σ:St}{H:ao}{s:Shared}{T:String}{x:V}{v:Value}(I:Inv X pins σ H s) (r:RelV x v) (ty:Ek X.K T x H) :
  s.TypeIs v T∧∀a,v=.ref a→∃bR,s.heap.get? a=some bR∧bR.dict=none:=by
 cases x with
 | str z =>
  obtain⟨t,rfl⟩:=r
  cases (show T="str" from ty)
  exact⟨typeIs_str s z t,fun _ e=>nomatch e⟩
 | int i =>
  obtain⟨t,rfl⟩:=r
  cases (show T="int" from ty)
  exact⟨typeIs_int s i t,fun _ e=>nomatch e⟩
 | ref p =>
  cases r
  rcases ty with ⟨rfl,xs,bN⟩ | ⟨rfl,o,a8,aj,hd⟩ | ⟨rfl,a8⟩ | ⟨rfl,S,n,a8⟩
  ·obtain⟨its,_,pl,_⟩:=I.list bN
   refine⟨pl.isList.typeIs,fun a e=>?_⟩
   cases e
   obtain⟨o,n,e,c,hd,_⟩:=pl
   exact⟨o,e,hd⟩
  ·refine⟨⟨o,I.gn p o a8,aj⟩,fun a e=>?_⟩
   cases e
   exact⟨o,I.gn _ o a8,hd⟩
  ·have z:∃o,s.heap.get? p=some o∧o.ExactDict:=by
    rcases a8 with ⟨kvs,a8⟩ | ⟨kvs,a8⟩
    ·obtain⟨_,_,_,_,o,_,_,e,ex,_⟩:=I.bD p _ a8
     exact⟨o,e,ex⟩
    ·obtain⟨_,_,_,_,o,_,_,e,ex,_⟩:=I.bD p _ a8
     exact⟨o,e,ex⟩
   obtain⟨o,e,ex⟩:=z
   refine⟨⟨o,e,ex.1⟩,fun a aN=>?_⟩
   cases aN
   exact⟨o,e,ex.2.1⟩
  ·obtain⟨o,_,_,_,e,ex,_⟩:=I.bD p _ a8
   refine⟨⟨o,e,ex.1⟩,fun a aN=>?_⟩
   cases aN
   exact⟨o,e,ex.2.1⟩
 | _=>exact False.elim ty
def YE (K:PySem.W.Frag) (T:String) (r:V→List V→ao→cC→Prop) (to:TE):TE:=fun σ H Q=>to σ H fun x H1=>Ek K T x H1∧r x [] H1 Q
def afK (K:PySem.W.Frag) (T:String) (r:V→List V→ao→cC→Prop) (to:TE) (t:h5):TE:=fun σ H Q=>to σ H fun x H1=>Ek K T x H1∧t σ H1 fun xs au=>r x xs au Q
variable {o e:Expr}{aE:List Expr}{to:TE}{t:h5}{name:Str}{apos gB:Pos}{T id:String}{r:V→List V→ao→cC→Prop}
theorem JY (qt:PlainAttrs T) (slot:Slot T name id) (w5:typeOf (.builtin id)=pure (.type "method_descriptor")) (hm:QO X id r) (aH:b3 X o to)
  (DN:attributeBase o name X.env (eval o X.env)=eval o X.env:=by rfl) (DL:(apos.endLine == gB.line)=true:=by rfl):b3 X (.Call (.Attribute o name apos) [] [] gB) (YE X.K T r to):=by
 intro pins s σ H Q I h
 refine wpAny_Call_method0_late DN DL (bS (aH pins s σ H _ I h) fun v s1 ⟨x,H1,aY,a4,ty,bu⟩=>?_)
 obtain⟨ay,aG⟩:=JN aY a4 ty
 exact⟨T,id,qt,slot,w5,ay,aG,Calls.callWith_builtin rfl (PySem.evalArgs_none (hm pins s1 σ H1 x [] v [] Q aY a4 .nil bu))⟩
theorem jx (qt:PlainAttrs T) (slot:Slot T name id) (w5:typeOf (.builtin id)=pure (.type "method_descriptor")) (hm:QO X id r) (aH:b3 X o to) (aX:lG X (e::aE) t)
  (DN:attributeBase o name X.env (eval o X.env)=eval o X.env:=by rfl)
  (ade:((backTo gB (starEach (e::aE) X.env)).all (fun x => !x.1) && (backToKw gB (keywordEach [] X.env)).all (fun x=>x.1.isSome)
   && decide ((e::aE).length+([]:List Keyword).length+(if ([]:List Keyword).isEmpty then 0 else 1)<30))=true:=by rfl)
  (DL:(apos.endLine == gB.line)=true:=by rfl) (a5:starEach (e::aE) X.env=(false,eval e X.env)::starEach aE X.env:=by rfl) (Xu:(backTo gB (starEach aE X.env)).any (·.1)=false:=by rfl) :
  b3 X (.Call (.Attribute o name apos) (e::aE) [] gB) (afK X.K T r to t):=by
 intro pins s σ H Q I h
 refine wpAny_Call_method_late DN ade DL rfl (bS (aH pins s σ H _ I h) fun v s1 ⟨x,H1,aY,a4,ty,bu⟩=>?_)
 obtain⟨ay,aG⟩:=JN aY a4 ty
 refine⟨T,id,qt,slot,w5,ay,aG,?_⟩
 have r6:=aX gB pins s1 σ H1 _ aY bu
 rw[a5]at r6 ⊢
 refine Calls.callWith_builtin (by show (false || (backTo gB (starEach aE X.env)).any (·.1))=false;rw[Xu] <;> rfl) (Calls.evalArgs_plain ?_)
 exact bS r6 fun us s2 ⟨vs,au,cH,bH,aV⟩=>hm pins s2 σ au x vs v us Q cH a4 bH aV
end
def xB (X:bE) (id:String) (r:V→List V→ao→cC→Prop):Prop :=
 ∀(pins:List (Addr × Obj)) (s:Shared) (σ:St) (H:ao) (x:V) (xs:List V) (v:Value) (us:List Value) (Q:cC),Inv X pins σ H s→RelV x v→Vals xs us→r x xs H Q →
  wpAny (model X.prog X.w) X.A (call (.builtin id) (v::us)) (hk X pins σ Q) X.dF s
theorem Vals.one:∀{x:V}{us:List Value},Vals [x] us→∃u,us=[u]∧RelV x u
 | _,_,.cons r .nil=>⟨_,rfl,r⟩
theorem Vals.two:∀{x y:V}{us:List Value},Vals [x,y] us→∃u v,us=[u,v]∧RelV x u∧RelV y v
 | _,_,_,.cons r (.cons q .nil)=>⟨_,_,rfl,r,q⟩
theorem Vals.zero:∀{us:List Value},Vals [] us→us=[]
 | _,.nil=>rfl
theorem Vals.dropLast {xs:List V}{us:List Value}(h:Vals xs us):Vals xs.dropLast us.dropLast:=by
 induction h with
 | nil=>exact .nil
 | cons r t c6 =>
  cases t with
  | nil=>exact .nil
  | cons q t'=>exact .cons r c6
theorem Ug {α:Type}(l:List α):l.eraseIdx (l.length - 1)=l.dropLast:=by
 induction l with
 | nil=>rfl
 | cons a r c6 =>
  cases r with
  | nil=>rfl
  | cons b r =>
   have e:(a::b::r).length - 1=((b::r).length - 1)+1:=by
    have ay:(a::b::r).length=r.length+2:=rfl
    have aG:(b::r).length=r.length+1:=rfl
    omega
   rw[e,List.eraseIdx_cons_succ,c6]
   all_goals rfl
section
variable {X:bE}{pins:List (Addr × Obj)}{σ:St}{H:ao}{s:Shared}{l b:Addr}{xs ys zs:List V}
theorem Inv.zS {its its':List Value}{n:Nat}{f:Array Value→Array Value}{t':Nat}(I:Inv X pins σ H s) (hr:H l=some (.lst xs))
  (e:s.heap.get? l=some { cls:=.type "list",data:=.seq its.toArray n }) (hf:f its.toArray=its'.toArray) (br:Vals ys its') (hz:ys.length≤sizeLine) :
  Inv X pins σ (upd H l (.lst ys)) { s with heap:=s.heap.update l (Obj.mapSeq f),toks:=t' }:=by
 have q:=PySem.IsL.update e f
 rw[hf]at q
 refine I.write (x:=l) (e:=l) (by rw[hr];exact trivial) (.inl rfl) (fun sf u aa a7=>(get?_update_other s.heap (Obj.mapSeq f) (Ne.symm aa)).trans a7) ⟨_,q⟩ ?_
 exact⟨hz,its',_,br,q⟩
theorem Inv.D1 {its:List Value}{t':Nat}(I:Inv X pins σ H s) (br:Vals ys its) (hz:ys.length≤sizeLine) :
  Inv X pins σ (upd H s.heap.objs.size (.lst ys)) { s with heap:=s.heap.push { cls:=.type "list",data:=.seq its.toArray },toks:=t' } :=
 I.laid (fun _ _ q=>get?_push_of_some _ q) (le_refl _) ⟨hz,its,0,br,get?_push_size _ rfl⟩
theorem Inv.fresh (I:Inv X pins σ H s):H s.heap.objs.size=none:=I.bD.fresh (le_refl _)
theorem Inv.p4 (I:Inv X pins σ H s) (hr:H l=some (.lst xs)):xs.length≤sizeLine∧∃(its:List Value) (n:Nat),Vals xs its∧xs.length=its.length∧s.heap.get? l=some { cls:=.type "list",data:=.seq its.toArray n }:=by
 obtain⟨z,its,n,r,e⟩:=I.bD l _ hr
 exact⟨z,its,n,r,r.length,e⟩
theorem I5 {n:Nat}(h:n≤sizeLine):Builtin.List.listTooLong n=false:=by
 unfold Builtin.List.listTooLong
 exact decide_eq_false (by omega)
end
section
variable {X:bE}
def Wh:V→List V→ao→cC→Prop:=fun x vs H Q=>∃l xs y,x=.ref l∧vs=[y]∧H l=some (.lst xs)∧xs.length<sizeLine∧Q .cE (upd H l (.lst (xs++[y])))
theorem jo:xB X "list.append" Wh:=by
 intro pins s σ H x vs v us Q I bC bp h
 obtain⟨l,xs,y,rfl,rfl,hr,hz,q⟩:=h
 cases bC
 obtain⟨u,rfl,eg⟩:=bp.one
 obtain⟨z,its,n,r,az,e⟩:=I.p4 hr
 refine call_meets F.slot_list_append ⟨_,e,rfl⟩ F.entry_list_append (F.args_list_append_2 _ _) (PySem.list_append l its.toArray n u (by rw[size_toArray];omega)) ⟨e,?_⟩
 refine⟨.cE,_,I.zS (its':=its++[u]) hr e (by simp) (r.append (.cons eg .nil)) ?_,rfl,q⟩
 rw[length_append,length_singleton]
 omega
def Wg:V→List V→ao→cC→Prop:=fun x vs H Q=>∃l b xs zs,x=.ref l∧vs=[.ref b]∧H l=some (.lst xs)∧H b=some (.lst zs)∧xs.length+zs.length≤sizeLine∧Q .cE (upd H l (.lst (xs++zs)))
theorem UN:xB X "list.extend" Wg:=by
 intro pins s σ H x vs v us Q I bC bp h
 obtain⟨l,b,xs,zs,rfl,rfl,hr,pq,hz,q⟩:=h
 cases bC
 obtain⟨u,rfl,eg⟩:=bp.one
 cases eg
 obtain⟨z,its,n,r,az,e⟩:=I.p4 hr
 obtain⟨dU,iO,dC,bH,uH,aN⟩:=I.p4 pq
 have hsz:its.toArray.size+iO.toArray.size≤sizeLine:=by rw[size_toArray,size_toArray];omega
 have DK:¬(!its.toArray.isEmpty && Builtin.List.listTooLong (its.toArray.size+iO.toArray.size))=true:=by
  rw[I5 hsz,Bool.and_false]
  exact Bool.false_ne_true
 refine call_meets F.slot_list_extend ⟨_,e,rfl⟩ F.entry_list_extend (F.args_list_extend_2 _ _)
  (AutoSeq1.list_extend_list_list_0 l its.toArray n b iO.toArray dC DK (by rw[size_toArray];omega) (by omega)) ⟨e,aN,?_⟩
 refine⟨.cE,_,I.zS (its':=its++iO) hr e (by simp) (r.append bH) ?_,rfl,q⟩
 rw[length_append]
 omega
def ZL:V→List V→ao→cC→Prop:=fun x vs H Q=>∃l xs y,x=.ref l∧vs=[]∧H l=some (.lst xs)∧xs[xs.length - 1]?=some y∧Q y (upd H l (.lst xs.dropLast))
theorem J0:xB X "list.pop" ZL:=by
 intro pins s σ H x vs v us Q I bC bp h
 obtain⟨l,xs,y,rfl,rfl,hr,cg,q⟩:=h
 cases bC
 have Fo:=bp.zero
 subst Fo
 obtain⟨z,its,n,r,az,e⟩:=I.p4 hr
 obtain⟨u,a7,eg⟩:=r.get cg
 have uF:its.toArray[its.toArray.size - 1]?=some u:=by
  show its.toArray[its.length - 1]?=some u
  rw[←Array.getElem?_toList,←az]
  exact a7
 refine call_meets F.slot_list_pop ⟨_,e,rfl⟩ F.entry_list_pop (F.args_list_pop_1 _) (MeetsSeq.list_pop_last l its.toArray n u uF (by rw[size_toArray];omega)) ⟨e,?_⟩
 refine⟨y,_,I.zS (its':=its.dropLast) hr e ?_ r.dropLast ?_,eg,q⟩
 ·show its.toArray.eraseIdxIfInBounds (its.toArray.size - 1)=its.dropLast.toArray
  rw[size_toArray,List.eraseIdxIfInBounds_toArray,Ug]
 ·rw[List.length_dropLast]
  omega
def ZO:i2:=fun x y H Q=>∃l b xs zs,x=.ref l∧y=.ref b∧H l=some (.lst xs)∧H b=some (.lst zs)∧xs.length+zs.length≤sizeLine∧∀p,H p=none→Q (.ref p) (upd H p (.lst (xs++zs)))
theorem tB:gX X (binaryOp .Add) ZO:=by
 intro pins s σ H x y v u Q I bC bM h
 obtain⟨l,b,xs,zs,rfl,rfl,hr,pq,hz,q⟩:=h
 cases bC
 cases bM
 obtain⟨z,its,n,r,az,e⟩:=I.p4 hr
 obtain⟨dU,iO,dC,bH,uH,aN⟩:=I.p4 pq
 refine PySem.P.add_list e aN ?_ (by rw[size_toArray,size_toArray];omega)
 have aP:its.toArray++iO.toArray=(its++iO).toArray:=by simp
 rw[aP]
 exact⟨.ref _,_,I.D1 (t':=s.toks) (r.append bH) (by rw[length_append];omega),rfl,q _ I.fresh⟩
end
section
variable {prog:Program}{w:World}{A:Around}{E:Value→Shared→Prop}{s:Shared}
end
section
variable {X:bE}
end
section
variable {κ:Type} [DecidableEq κ]
def dn (kvs:List (κ × V)) (k:κ):Option V:=(kvs.find? fun cz=>decide (cz.1=k)).map (·.2)
def putK (kvs:List (κ × V)) (k:κ) (v:V):List (κ × V) :=
 if (kvs.any fun cz=>decide (cz.1=k))=true then kvs.map (fun cz=>if cz.1=k then (cz.1,v) else cz) else kvs++[(k,v)]
def kx (kvs:List (κ × V)) (k:κ):List (κ × V):=kvs.filter fun cz=>decide (cz.1≠k)
theorem IU {k:κ}:dn ([]:List (κ × V)) k=none:=rfl
theorem lK {p:κ × V}{r:List (κ × V)}{k:κ}(e:p.1=k):dn (p::r) k=some p.2:=by simp[dn,find?_cons,e]
theorem lM {p:κ × V}{r:List (κ × V)}{k:κ}(e:¬p.1=k):dn (p::r) k=dn r k:=by simp[dn,find?_cons,e]
theorem vR (k:κ):∀kvs:List (κ × V),(kvs.any fun cz=>decide (cz.1=k))=(dn kvs k).isSome
 | []=>rfl
 | p::r=>by
  rw[any_cons]
  by_cases e:p.1=k
  ·simp only[lK e,decide_eq_true e,Bool.true_or,Option.isSome_some]
  ·rw[lM e,decide_eq_false e,Bool.false_or];exact vR k r
theorem IV (k j:κ) (y:V):∀kvs:List (κ × V),dn (kvs.map fun cz=>if cz.1=k then (cz.1,y) else cz) j=(dn kvs j).map fun x=>if j=k then y else x
 | []=>rfl
 | p::r=>by
  have c6:=IV k j y r
  rw[map_cons]
  by_cases h:p.1=k
  ·rw[if_pos h]
   by_cases e:p.1=j
   ·rw[lK (p:=(p.1,y)) e,lK e,Option.map_some,if_pos (e.symm.trans h)]
   ·rw[lM (p:=(p.1,y)) e,lM e,c6]
  ·rw[if_neg h]
   by_cases e:p.1=j
   ·rw[lK (p:=p) e,lK e,Option.map_some,if_neg (fun z=>h (e.trans z))]
   ·rw[lM (p:=p) e,lM e,c6]
theorem Ic (k j:κ) (y:V):∀kvs:List (κ × V),dn kvs k=none→dn (kvs++[(k,y)]) j=if j=k then some y else dn kvs j
 | [],_=>by
  by_cases e:k=j
  ·rw[if_pos e.symm];exact lK (p:=(k,y)) e
  ·rw[if_neg (fun z=>e z.symm)];exact lM (p:=(k,y)) e
 | p::r,aS=>by
  rw[List.cons_append]
  have a8:¬p.1=k:=fun z=>by rw[lK z]at aS;cases aS
  rw[lM a8]at aS
  have c6:=Ic k j y r aS
  by_cases e:p.1=j
  ·rw[lK e,lK e,if_neg (fun z=>a8 (e.trans z))]
  ·rw[lM e,lM e,c6]
theorem vQ (kvs:List (κ × V)) (k j:κ) (y:V):dn (putK kvs k y) j=if j=k then some y else dn kvs j:=by
 unfold putK
 by_cases a:(kvs.any fun cz=>decide (cz.1=k))=true
 ·rw[if_pos a,IV]
  rw[vR]at a
  by_cases e:j=k
  ·obtain⟨x,bg⟩:=Option.isSome_iff_exists.mp a
   rw[if_pos e,e,bg,Option.map_some,if_pos rfl]
  ·rw[if_neg e]
   cases dn kvs j with
   | none=>rfl
   | some x=>rw[Option.map_some,if_neg e]
 ·rw[if_neg a]
  refine Ic k j y kvs ?_
  rw[vR]at a
  cases q:dn kvs k with
  | none=>rfl
  | some x=>rw[q]at a;exact (a rfl).elim
theorem pL (kvs:List (κ × V)) (k:κ) (v:V):(putK kvs k v).length≤kvs.length+1:=by
 unfold putK
 split
 ·rw[length_map];omega
 ·rw[length_append,length_cons,length_nil];omega
theorem I3 {kvs:List (κ × V)}{k:κ}(v:V) (h:dn kvs k=none):putK kvs k v=kvs++[(k,v)]:=by
 unfold putK
 rw[vR,h]
 exact if_neg (by decide)
theorem ig.sG {o:Option V}{u:Option Value}(r:ig o u):o.isSome=u.isSome:=by
 cases o with
 | none=>cases u with
  | none=>rfl
  | some _=>exact (show False from r).elim
 | some _=>cases u with
  | none=>exact (show False from r).elim
  | some _=>rfl
theorem ig.getD {o:Option V}{u:Option Value}{d:V}{d':Value}(r:ig o u) (iy:RelV d d'):RelV (o.getD d) (u.getD d'):=by
 cases o with
 | none=>cases u with
  | none=>exact iy
  | some _=>exact (show False from r).elim
 | some _=>cases u with
  | none=>exact (show False from r).elim
  | some _=>exact r
theorem fD.val {kvs:List (κ × V)}{vs:List (κ × Value)}(r:fD kvs vs) (k:κ):ig (dn kvs k) (valueAt vs k):=by
 unfold fD at r
 induction r with
 | nil=>exact True.intro
 | @cons p q ps mb h t c6 =>
  obtain⟨ay,aG⟩:=h
  by_cases e:p.1=k
  ·have cV:q.1=k:=ay.symm.trans e
   have b:valueAt (q::mb) k=some q.2:=by simp[valueAt,find?_cons,cV]
   rw[lK e,b];exact aG
  ·have cV:¬q.1=k:=fun z=>e (ay.trans z)
   have b:valueAt (q::mb) k=valueAt mb k:=by simp[valueAt,find?_cons,cV]
   rw[lM e,b];exact c6
theorem fD.any {kvs:List (κ × V)}{vs:List (κ × Value)}(r:fD kvs vs) (k:κ):(kvs.any fun cz=>decide (cz.1=k))=vs.any fun cz=>decide (cz.1=k):=by
 unfold fD at r
 induction r with
 | nil=>rfl
 | cons h t c6=>rw[any_cons,any_cons,c6,h.1]
theorem fD.DT {kvs:List (κ × V)}{vs:List (κ × Value)}(r:fD kvs vs) (k:κ) {y:V}{u:Value}(bM:RelV y u) :
  fD (kvs.map fun cz=>if cz.1=k then (cz.1,y) else cz) (vs.map fun cz=>if cz.1=k then (cz.1,u) else cz):=by
 unfold fD at r ⊢
 induction r with
 | nil=>exact .nil
 | @cons p q ps mb h t c6 =>
  rw[map_cons,map_cons]
  refine .cons ?_ c6
  obtain⟨ay,aG⟩:=h
  by_cases e:p.1=k
  ·rw[if_pos e,if_pos (ay.symm.trans e)];exact⟨ay,bM⟩
  ·rw[if_neg e,if_neg (fun z=>e (ay.trans z))];exact⟨ay,aG⟩
theorem fD.put {kvs:List (κ × V)}{vs:List (κ × Value)}(r:fD kvs vs) (k:κ) {y:V}{u:Value}(bM:RelV y u):fD (putK kvs k y) (stored vs k u):=by
 unfold putK stored
 rw[r.any k]
 by_cases e:(vs.any fun cz=>decide (cz.1=k))=true
 ·rw[if_pos e,if_pos e];exact r.DT k bM
 ·rw[if_neg e,if_neg e];exact Paired.snoc r ⟨rfl,bM⟩
theorem fD.drop {kvs:List (κ × V)}{vs:List (κ × Value)}(r:fD kvs vs) (k:κ):fD (kx kvs k) (without vs k):=by
 unfold fD at r ⊢
 unfold kx without
 induction r with
 | nil=>exact .nil
 | @cons p q ps mb h t c6 =>
  obtain⟨ay,aG⟩:=h
  rw[filter_cons,filter_cons]
  by_cases e:p.1=k
  ·have a:¬decide (p.1≠k)=true:=by simp[e]
   have b:¬decide (q.1≠k)=true:=by simp[ay.symm.trans e]
   rw[if_neg a,if_neg b];exact c6
  ·have cV:¬q.1=k:=fun z=>e (ay.trans z)
   have a:decide (p.1≠k)=true:=by simp[e]
   have b:decide (q.1≠k)=true:=by simp[cV]
   rw[if_pos a,if_pos b];exact .cons ⟨ay,aG⟩ c6
theorem fD.keys {kvs:List (κ × V)}{vs:List (κ × Value)}(r:fD kvs vs):kvs.map (·.1)=vs.map (·.1):=by
 unfold fD at r
 induction r with
 | nil=>rfl
 | cons h t c6=>rw[map_cons,map_cons,c6,h.1]
theorem fD.length {kvs:List (κ × V)}{vs:List (κ × Value)}(r:fD kvs vs):kvs.length=vs.length:=Paired.length r
theorem Je (kvs:List (κ × V)) (k:κ):(kx kvs k).length≤kvs.length:=length_filter_le _ _
end
theorem nD {P:Program}{w:World}{k:Key}{u:Value}(r:RelV (d9 k) u):(hy P w).is k u=true:=by
 cases k with
 | inl i=>obtain⟨t,e⟩:=(show ∃t,u=Value.int i t from r);subst e;exact TS P w i t
 | inr x=>obtain⟨t,e⟩:=(show ∃t,u=Value.str x t from r);subst e;exact TR P w x t
theorem IB {P:Program}{w:World}:∀{iB:List Key}{us:List Value},Vals (iB.map d9) us→ItemsAre (hy P w) iB us
 | [],_,r=>by rw[map_nil]at r;cases r;exact .nil
 | k::iB,_,r=>by
  rw[map_cons]at r
  cases r with
  | cons h t=>exact .cons (nD h) (IB t)
abbrev KT (H:ao):List (List Key × V)→List (List Key × Addr × Value)→Prop:=Paired fun p q=>p.1=q.1∧H q.2.1=some (.tup (p.1.map d9))∧RelV p.2 q.2.2
theorem KT.val {H:ao}{kvs:List (List Key × V)}{xs:List (List Key × Addr × Value)}(r:KT H kvs xs) (k:List Key):ig (dn kvs k) ((atKey xs k).map (·.2)):=by
 induction r with
 | nil=>exact True.intro
 | @cons p q ps mb h t c6 =>
  obtain⟨ay,_,aG⟩:=h
  by_cases e:p.1=k
  ·have cV:q.1=k:=ay.symm.trans e
   have b:atKey (q::mb) k=some q.2:=by simp[atKey,find?_cons,cV]
   rw[lK e,b];exact aG
  ·have cV:¬q.1=k:=fun z=>e (ay.trans z)
   have b:atKey (q::mb) k=atKey mb k:=by simp[atKey,find?_cons,cV]
   rw[lM e,b];exact c6
theorem KT.DT {H:ao}{kvs:List (List Key × V)}{xs:List (List Key × Addr × Value)}(r:KT H kvs xs) (k:List Key) {y:V}{u:Value}(bM:RelV y u) :
  KT H (kvs.map fun cz=>if cz.1=k then (cz.1,y) else cz) (xs.map (putAt k u)):=by
 induction r with
 | nil=>exact .nil
 | @cons p q ps mb h t c6 =>
  rw[map_cons,map_cons]
  refine .cons ?_ c6
  obtain⟨ay,aG,ct⟩:=h
  unfold putAt
  by_cases e:p.1=k
  ·rw[if_pos e,if_pos (ay.symm.trans e)];exact⟨ay,aG,bM⟩
  ·rw[if_neg e,if_neg (fun z=>e (ay.trans z))];exact⟨ay,aG,ct⟩
theorem KT.put {H:ao}{kvs:List (List Key × V)}{xs:List (List Key × Addr × Value)}(r:KT H kvs xs) (k:List Key) {b:Addr}{y:V}{u:Value}(aa:H b=some (.tup (k.map d9))) (bM:RelV y u) :
  KT H (putK kvs k y) (storedH xs k b u):=by
 have e:(kvs.any fun cz=>decide (cz.1=k))=(atKey xs k).isSome:=by
  rw[vR,(r.val k).sG,Option.isSome_map]
 unfold putK storedH
 rw[e]
 by_cases q:(atKey xs k).isSome=true
 ·rw[if_pos q,if_pos q];exact r.DT k bM
 ·rw[if_neg q,if_neg q];exact Paired.snoc r ⟨rfl,aa,bM⟩
theorem KT.keeps {H ah:ao}{kvs:List (List Key × V)}{xs:List (List Key × Addr × Value)}(r:KT H kvs xs) (a6:∀b ys,H b=some (.tup ys)→ah b=some (.tup ys)):KT ah kvs xs :=
 Paired.D0 r fun _ _ z=>⟨z.1,a6 _ _ z.2.1,z.2.2⟩
section
variable {P:Program}{w:World}{H:ao}{h:Heap}{a:Addr}
theorem Kh {u:fh}(ok:eT P w H h) (e:ni H a u):fx P w H h a u:=e.ok ok
theorem q4 {kvs:List (Key × V)}(ok:eT P w H h) (e:ni H a (.bQ kvs)):kvs.length≤sizeLine∧(a == sysModules)=false∧∃vs,fD kvs vs∧h.DictOf (hy P w) a vs :=
 show fx P w H h a (.bQ kvs) from Kh ok e
theorem tU {kvs:List (Key × V)}(ok:eT P w H h) (e:H a=some (.bQ kvs)):kvs.length≤sizeLine∧(a == sysModules)=false∧∃vs,fD kvs vs∧h.DictOf (hy P w) a vs:=q4 ok (.inl e)
theorem tC {iB:List Key}(ok:eT P w H h) (e:H a=some (.tup (iB.map d9))):(tupleKind (hy P w)).is h iB a:=by
 obtain⟨_,its,r,o,ay,aG,n,ct⟩:=(show fx P w H h a (.tup (iB.map d9)) from ok a _ e)
 exact⟨o,its.toArray,n,ay,aG,ct,by simpa using IB r⟩
theorem q3 {kvs:List (List Key × V)}(ok:eT P w H h) (e:ni H a (.hu kvs)):kvs.length≤sizeLine∧(a == sysModules)=false ∧
  ∃xs,KT H kvs xs∧h.DictOfH (tupleKind (hy P w)) a xs:=by
 obtain⟨z,y,xs,r,o,aE,b7,ay,aG,ct,dN,gQ⟩:=(show fx P w H h a (.hu kvs) from Kh ok e)
 refine⟨z,y,xs,r,o,aE,b7,ay,aG,ct,dN,fun x bg=>?_,gQ⟩
 have all:∀{l:List (List Key × V)} {m:List (List Key × Addr × Value)},KT H l m→∀x∈m,(tupleKind (hy P w)).is h x.1 x.2.1:=by
  intro l m q
  induction q with
  | nil=>intro x bg;exact nomatch bg
  | @cons p q ps mb bN t c6 =>
   intro x bg
   rcases mem_cons.mp bg with e | bg
   ·subst e
    exact tC ok (by rw[←bN.1];exact bN.2.1)
   ·exact c6 x bg
 exact all r x bg
theorem Yp {kvs:List (List Key × V)}(ok:eT P w H h) (e:H a=some (.hu kvs)):kvs.length≤sizeLine∧(a == sysModules)=false ∧
  ∃xs,KT H kvs xs∧h.DictOfH (tupleKind (hy P w)) a xs:=q3 ok (.inl e)
end
def e2 (H:ao) (a:Addr) (y:V) (r:Option V):Prop :=
 (∃kvs k,ni H a (.bQ kvs)∧y=d9 k∧r=dn kvs k)∨∃kvs k b,ni H a (.hu kvs)∧y=.ref b∧H b=some (.tup (k.map d9))∧r=dn kvs k
def nI (H:ao) (a:Addr) (y v:V) (ah:ao):Prop :=
 (∃kvs k,H a=some (.bQ kvs)∧y=d9 k∧kvs.length<sizeLine∧ah=upd H a (.bQ (putK kvs k v))) ∨
 ∃kvs k b,H a=some (.hu kvs)∧y=.ref b∧H b=some (.tup (k.map d9))∧kvs.length<sizeLine∧ah=upd H a (.hu (putK kvs k v))
theorem e2.k {H:ao}{a:Addr}{kvs:List (Key × V)}{k:Key}(e:H a=some (.bQ kvs)):e2 H a (d9 k) (dn kvs k):=.inl ⟨kvs,k,.inl e,rfl,rfl⟩
theorem nI.k {H:ao}{a:Addr}{kvs:List (Key × V)}{k:Key}{v:V}(e:H a=some (.bQ kvs)) (az:kvs.length<sizeLine):nI H a (d9 k) v (upd H a (.bQ (putK kvs k v))):=.inl ⟨kvs,k,e,rfl,az,rfl⟩
section
variable {X:bE}{pins:List (Addr × Obj)}{σ:St}{H:ao}{s:Shared}{a:Addr}{y v:V}{u r:Value}{o:Option V}{A:Around}{E:Value→Shared→Prop}
theorem Inv.big (I:Inv X pins σ H s):sysModules<s.heap.objs.size:=by
 have h:mainGlobals<s.heap.objs.size:=(I.mod.glob.keeps I.hv).lt
 exact Nat.lt_trans (by decide) h
theorem U5 {Q:Value→Shared→Prop}(a7:A.units+1<cLine) (I:Inv X pins σ H s) (g:e2 H a y (some v)) (bM:RelV y u) (h:∀eb aM,Inv X pins σ H aM→RelV v eb→Q eb aM) :
  wpAny (model X.prog X.w) A (getItem (.ref a) u) Q E s:=by
 rcases g with ⟨kvs,k,e,eB,l⟩ | ⟨kvs,k,b,e,eB,dT,l⟩
 ·subst eB
  obtain⟨z,hd,vs,rel,dd⟩:=q4 I.bD e
  obtain⟨eb,hw,j0⟩:=ig.some_of (v:=v) (o:=valueAt vs k) (by rw[l];exact rel.val k)
  exact wpAny_getItem_of (nD bM) dd.mapOf hw (h eb _ (I.tok _) j0)
 ·subst eB
  cases (show u=Value.ref b from bM)
  obtain⟨z,hd,xs,rel,dd⟩:=q3 I.bD e
  obtain⟨eb,hw,j0⟩:=ig.some_of (v:=v) (o:=(atKey xs k).map (·.2)) (by rw[l];exact rel.val k)
  obtain⟨p,aI,ahX⟩:=Option.map_eq_some_iff.mp hw
  refine wpAny_getItem_heap (tupleKind_room_in1 a7) (tC I.bD dT) dd aI ?_
  rw[ahX]
  exact h eb _ (I.tok _) j0
theorem ad4 {Q:Value→Shared→Prop}(a7:A.units+1<cLine) (I:Inv X pins σ H s) (g:e2 H a y o) (bM:RelV y u) (h:∀aM,Inv X pins σ H aM→Q (.bool o.isSome) aM) :
  wpAny (model X.prog X.w) A (compareOp .In u (.ref a)) Q E s:=by
 rcases g with ⟨kvs,k,e,eB,l⟩ | ⟨kvs,k,b,e,eB,dT,l⟩
 ·subst eB
  obtain⟨z,hd,vs,rel,dd⟩:=q4 I.bD e
  refine wpAny_in_of (nD bM) hd dd.mapOf ?_
  rw[←(rel.val k).sG,←l]
  exact h _ (I.tok _)
 ·subst eB
  cases (show u=Value.ref b from bM)
  obtain⟨z,hd,xs,rel,dd⟩:=q3 I.bD e
  refine wpAny_in_heap (tupleKind_room_in1 a7) (tC I.bD dT) hd dd ?_
  have q:=(rel.val k).sG
  rw[Option.isSome_map]at q
  rw[←q,←l]
  exact h _ (I.tok _)
theorem WG {Q:Value→Shared→Prop}(a7:A.units+1<cLine) (I:Inv X pins σ H s) (g:e2 H a y o) (bM:RelV y u) (h:∀aM,Inv X pins σ H aM→Q (.bool (!o.isSome)) aM) :
  wpAny (model X.prog X.w) A (compareOp .NotIn u (.ref a)) Q E s:=by
 rcases g with ⟨kvs,k,e,eB,l⟩ | ⟨kvs,k,b,e,eB,dT,l⟩
 ·subst eB
  obtain⟨z,hd,vs,rel,dd⟩:=q4 I.bD e
  refine wpAny_notIn_of (nD bM) hd dd.mapOf ?_
  rw[←(rel.val k).sG,←l]
  exact h _ (I.tok _)
 ·subst eB
  cases (show u=Value.ref b from bM)
  obtain⟨z,hd,xs,rel,dd⟩:=q3 I.bD e
  refine wpAny_notIn_heap (tupleKind_room_in1 a7) (tC I.bD dT) hd dd ?_
  have q:=(rel.val k).sG
  rw[Option.isSome_map]at q
  rw[←q,←l]
  exact h _ (I.tok _)
theorem s6 {h':Heap}{t':Nat}{bR:fh}(I:Inv X pins σ H s) (kL:xA (H a)) (a5:Heap.SameBut a s.heap h') (he:∃q,h'.get? a=some q) (new:fx X.prog X.w (upd H a bR) h' a bR) :
  Inv X pins σ (upd H a bR) { s with heap:=h',toks:=t' } :=
 I.write (x:=a) (e:=a) kL (.inl rfl) (fun b q aa z=>(a5.2 b aa).trans z) he new
theorem wo {P:Program}{w:World}{ah:ao}{h':Heap}{kvs:List (Key × V)}{vs:List (Key × Value)}(z:kvs.length≤sizeLine) (hd:(a == sysModules)=false) (rel:fD kvs vs) (dd:h'.DictOf (hy P w) a vs) :
  fx P w ah h' a (.bQ kvs):=⟨z,hd,vs,rel,dd⟩
theorem U4 {ah:ao}{Q:Unit→Shared→Prop}(a7:A.units+1<cLine) (I:Inv X pins σ H s) (g:nI H a y v ah) (bM:RelV y u) (bp:RelV v r) (h:∀aM,Inv X pins σ ah aM→Q () aM) :
  wpAny (model X.prog X.w) A (setItem (.ref a) u r) Q E s:=by
 rcases g with ⟨kvs,k,e,eB,l,GS⟩ | ⟨kvs,k,b,e,eB,dT,l,GS⟩
 ·subst eB GS
  obtain⟨z,hd,vs,rel,dd⟩:=tU I.bD e
  have hz:vs.length≤sizeLine:=by rw[←rel.length];exact z
  have az:(putK kvs k v).length≤sizeLine:=by have:=pL kvs k v;omega
  refine wpAny_setItem_pairs (hsz:=hz) (nD bM) dd fun h' j7 a5=>h _ ?_
  have he:∃q,h'.get? a=some q:=let ⟨q,_,_,bN,_⟩:=j7;⟨q,bN⟩
  exact s6 I (by rw[e];exact True.intro) a5 he (wo az hd (rel.put k bp) j7)
 ·subst eB GS
  cases (show u=Value.ref b from bM)
  obtain⟨z,hd,xs,rel,dd⟩:=Yp I.bD e
  have hz:xs.length≤sizeLine:=by rw[←Paired.length rel];exact z
  have az:(putK kvs k v).length≤sizeLine:=by have:=pL kvs k v;omega
  refine wpAny_setItem_heap (hsz:=hz) (tupleKind_room_in1 a7) (tC I.bD dT) dd fun h' j7 a5=>h _ ?_
  obtain⟨q,aE,b7,bN,aG,ct,dN,_,gQ⟩:=j7
  refine s6 I (by rw[e];exact True.intro) a5 ⟨q,bN⟩ ⟨az,hd,_,(rel.put k dT bp).keeps fun c ys fC=>?_,q,aE,b7,bN,aG,ct,dN,gQ⟩
  rw[aA (dK fC e (fun z=>nomatch z))]
  exact fC
end
section
variable {X:bE}{pins:List (Addr × Obj)}{σ:St}{H:ao}{s:Shared}{a:Addr}{kvs:List (Key × V)}{k:Key}{u:Value}{A:Around}{E:Value→Shared→Prop}
theorem alF {Q:Unit→Shared→Prop}(I:Inv X pins σ H s) (e:H a=some (.bQ kvs)) (bM:RelV (d9 k) u) (l:(dn kvs k).isSome=true) (h:∀aM,Inv X pins σ (upd H a (.bQ (kx kvs k))) aM→Q () aM) :
  wpAny (model X.prog X.w) A (delItem (.ref a) u) Q E s:=by
 obtain⟨z,hd,vs,rel,dd⟩:=tU I.bD e
 refine wpAny_delItem_slot dd.typeIs (by decide) PySem.F.slot_dict_delitem
  (call_meetsIn PySem.F.slot_dict_delitem dd.typeIs PySem.F.entry_dict_delitem (PySem.F.args_dict_delitem_2 _ _) (meets_dict_delitem_pairs (hy X.prog X.w) a (nD bM)) ⟨vs,dd,by rw[←rel.length];exact z,by rw[←(rel.val k).sG];exact l,fun h' j7 a5=>h _ ?_⟩)
 have he:∃q,h'.get? a=some q:=let ⟨q,_,_,bN,_⟩:=j7;⟨q,bN⟩
 exact s6 I (by rw[e];exact True.intro) a5 he (wo (le_trans (Je kvs k) z) hd (rel.drop k) j7)
theorem Yq {v:V}{more:List Value}{Q:Value→Shared→Prop}(I:Inv X pins σ H s) (e:H a=some (.bQ kvs)) (bM:RelV (d9 k) u) (l:dn kvs k=some v) (hm:more=[]∨∃x,more=[x])
  (h:∀eb aM,Inv X pins σ (upd H a (.bQ (kx kvs k))) aM→RelV v eb→Q eb aM):wpAny (model X.prog X.w) A (call (.builtin "dict.pop") (.ref a::u::more)) Q E s:=by
 obtain⟨z,hd,vs,rel,dd⟩:=tU I.bD e
 obtain⟨eb,hw,j0⟩:=ig.some_of (v:=v) (o:=valueAt vs k) (by rw[←l];exact rel.val k)
 have aI:(keyPart u).isSome=true:=by
  cases k with
  | inl i=>obtain⟨t,q⟩:=(show ∃t,u=Value.int i t from bM);subst q;rfl
  | inr x=>obtain⟨t,q⟩:=(show ∃t,u=Value.str x t from bM);subst q;rfl
 have aX:argsOk "dict.pop" ⟨.ref a::u::more,[]⟩:=by
  rcases hm with q | ⟨x,q⟩
  ·subst q;exact PySem.F.args_dict_pop_2 _ _
  ·subst q;exact PySem.F.args_dict_pop_3 _ _ _
 refine call_meetsIn PySem.F.slot_dict_pop dd.typeIs PySem.F.entry_dict_pop aX (meets_dict_pop_there (hy X.prog X.w) a (nD bM) more hm aI)
  ⟨vs,eb,dd,by rw[←rel.length];exact z,hw,fun h' j7 a5=>h eb _ ?_ j0⟩
 have he:∃q,h'.get? a=some q:=let ⟨q,_,_,bN,_⟩:=j7;⟨q,bN⟩
 exact s6 I (by rw[e];exact True.intro) a5 he (wo (le_trans (Je kvs k) z) hd (rel.drop k) j7)
end
def Mm (i:Expr):Prop:=∀bT iC,subscripted i false bT iC=operate [bT,iC] (getItem bT iC)
theorem V6 {prog:Program}{w:World}{A:Around}{E:Value→Shared→Prop}{s:Shared}{env:Env}{value slice:Expr}{pos:Pos}{T id:String}{Q:Value→Shared→Prop}
  (az:typeLookup (.type T) "__getitem__"=pure (some (.builtin id))) (a5:Mm slice)
  (h:wpAny (model prog w) A (eval value env) (fun o c5=>wpAny (model prog w) A (eval slice env) (fun i hW=>hW.TypeIs o T∧wpAny (model prog w) A (getItem o i) Q E hW) E c5) E s) :
  wpAny (model prog w) A (eval (.Subscript value slice pos) env) Q E s:=by
 refine Subscript_ (wpAny_mono h (fun o c5 gO=>wpAny_mono gO (fun i hW ml=>?_) fun _ _ x=>x) fun _ _ x=>x)
 obtain⟨iD,ml⟩:=ml
 unfold subscriptTail
 refine wpAny_bind ?_
 rw[getitemInPython_of_ne iD.not_modules]
 refine wpAny_bind (wpAny_specialOf iD az ?_)
 have fin:wpAny (model prog w) A (subscripted slice false o i) (fun r hT=>wpAny (model prog w) A (letTemporaryGo value o r >>= fun _=>pure r) Q E hT) E hW:=by
  rw[a5 o i]
  exact wpAny_operating (wpAny_mono ml (fun r hT x1=>wpAny_bind (wpAny_letTemporaryGo (wpAny_pure x1))) fun _ _ x=>x)
 first
  | exact wpAny_pure (wpAny_bind fin)
  | exact wpAny_bind (wpAny_pure (wpAny_bind fin))
  | exact wpAny_bind fin
theorem TX {X:bE}{pins:List (Addr × Obj)}{σ:St}{H:ao}{s:Shared}{a:Addr}{y:V}{o:Option V}(I:Inv X pins σ H s) (g:e2 H a y o):s.TypeIs (.ref a) "dict":=by
 rcases g with ⟨kvs,k,e,_,_⟩ | ⟨kvs,k,b,e,_,_,_⟩
 ·obtain⟨_,_,vs,_,dd⟩:=q4 I.bD e
  exact dd.typeIs
 ·obtain⟨_,_,xs,_,dd⟩:=q3 I.bD e
  exact dd.typeIs
def XM (gL ty:TE):TE:=fun σ H Q=>gL σ H fun x H1=>ty σ H1 fun y au=>∃a v,x=.ref a∧e2 au a y (some v)∧Q v au
def YD (ty gL:TE):TE:=fun σ H Q=>ty σ H fun y H1=>gL σ H1 fun x au=>∃a o,x=.ref a∧e2 au a y o∧Q (.bV o.isSome) au
def V5 (ty gL:TE):TE:=fun σ H Q=>ty σ H fun y H1=>gL σ H1 fun x au=>∃a o,x=.ref a∧e2 au a y o∧Q (.bV (!o.isSome)) au
def XU (gL ty iU:TE):fU:=fun D σ H=>iU σ H fun v H1=>gL σ H1 fun x au=>ty σ au fun y a9=>∃a cO,x=.ref a∧nI a9 a y v cO∧D.c4 σ cO
section
variable {X:bE}{o i e value:Expr}{pos pos' KL:Pos}{gL ty iU:TE}
theorem ek (a7:X.A.units+1<cLine) (aH:b3 X o gL) (aL:b3 X i ty) (a5:Mm i):b3 X (.Subscript o i pos) (XM gL ty):=by
 intro pins s σ H Q I h
 refine V6 PySem.F.slot_dict_getitem.lookup a5 (bS (aH pins s σ H _ I h) fun u s1 ⟨x,H1,aY,bC,bu⟩=>bS (aL pins s1 σ H1 _ aY bu) fun iC s2 ⟨y,au,cH,bM,a,v,ex,g,aV⟩=>?_)
 subst ex
 obtain rfl:u=Value.ref a:=bC
 exact⟨TX cH g,U5 a7 cH g bM fun eb s3 cQ j0=>⟨v,au,cQ,j0,aV⟩⟩
theorem Du (a7:X.A.units+1<cLine) (aL:b3 X i ty) (aH:b3 X o gL):G5 X .In i o (YD ty gL):=by
 intro pins s σ H Q I h
 refine bS (aL pins s σ H _ I h) fun iC s1 ⟨y,H1,aY,bM,bu⟩=>bS (aH pins s1 σ H1 _ aY bu) fun u s2 ⟨x,au,cH,bC,a,bT,ex,g,aV⟩=>?_
 subst ex
 obtain rfl:u=Value.ref a:=bC
 exact ad4 a7 cH g bM fun s3 cQ=>⟨.bV bT.isSome,au,cQ,rfl,aV⟩
theorem It (a7:X.A.units+1<cLine) (aL:b3 X i ty) (aH:b3 X o gL):G5 X .NotIn i o (V5 ty gL):=by
 intro pins s σ H Q I h
 refine bS (aL pins s σ H _ I h) fun iC s1 ⟨y,H1,aY,bM,bu⟩=>bS (aH pins s1 σ H1 _ aY bu) fun u s2 ⟨x,au,cH,bC,a,bT,ex,g,aV⟩=>?_
 subst ex
 obtain rfl:u=Value.ref a:=bC
 exact WG a7 cH g bM fun s3 cQ=>⟨.bV (!bT.isSome),au,cQ,rfl,aV⟩
theorem lO (a7:X.A.units+1<cLine) (aH:b3 X o gL) (aL:b3 X i ty) (br:b3 X value iU) (a5:swapsWith value (some (.Subscript o i pos')) pos.line X.env=pure false) :
  kh X (.Assign [.Subscript o i pos'] value pos) (XU gL ty iU):=by
 intro pins s σ H D I h
 refine wpAny_Assign_Subscript (bS (br pins s σ H _ I h) fun r s1 ⟨v,H1,aY,bp,bu⟩=>bS (aH pins s1 σ H1 _ aY bu) fun u s2 ⟨x,au,cH,bC,aV⟩=>bS (aL pins s2 σ au _ cH aV) fun iC s3 ⟨y,a9,cQ,bM,a,cO,ex,g,eV⟩=>?_) a5
 subst ex
 obtain rfl:u=Value.ref a:=bC
 exact U4 a7 cQ g bM bp fun s4 kk=>⟨σ,cO,kk,eV⟩
end
theorem CJ {P:Program}{w:World}{H:ao}(h:Heap) (aa:sysModules<h.objs.size):fx P w H (h.push { cls:=.type "dict",data:=.dict #[] }) h.objs.size (.bQ []) :=
 ⟨zero_le _,beq_eq_false_iff_ne.mpr (Ne.symm (ne_of_lt aa)),[],.nil,Heap.DictOf.new h⟩
def WM:TE:=fun _ H Q=>∀p,H p=none→Q (.ref p) (upd H p (.bQ []))
section
variable {X:bE}{pos:Pos}
theorem vU:b3 X (.Dict [] [] pos) WM:=fun pins s σ H Q I h =>
 wpAny_Dict_empty ⟨.ref s.heap.objs.size,_,I.laid (a:=s.heap.objs.size) (o:=.bQ []) (t':=s.toks) (fun _ _ q=>get?_push_of_some _ q) (le_refl _) (CJ s.heap I.big),rfl,h _ (I.bD.fresh (le_refl _))⟩
end
def Dc:List (TE × TE)→St→ao→(List (V × V)→ao→Prop)→Prop
 | [],_,H,Q=>Q [] H
 | (bG,iU)::r,σ,H,Q=>bG σ H fun x H1=>iU σ H1 fun y au=>Dc r σ au fun ps a9=>Q ((x,y)::ps) a9
abbrev SM:List (V × V)→List (Value × Value)→Prop:=Paired fun p q=>RelV p.1 q.1∧RelV p.2 q.2
def Bm (X:bE) (pos:Pos) (keys:List (Option Expr)) (values:List Expr) (oW:List (TE × TE)):Prop :=
 ∀(pins:List (Addr × Obj)) (s:Shared) (σ:St) (H:ao) (Q:List (V × V)→ao→Prop),Inv X pins σ H s→Dc oW σ H Q →
  wpAny (model X.prog X.w) X.A (evalPairs (pairTrees keys values X.env pos)) (fun vs aM=>∃ps ah,Inv X pins σ ah aM∧SM ps vs∧Q ps ah) X.dF s
theorem Wi {X:bE}{pos:Pos}:Bm X pos [] [] []:=fun pins s σ H Q I h=>pairTrees_nil_walk ⟨[],H,I,.nil,h⟩
theorem yR {X:bE}{pos:Pos}{k v:Expr}{iB:List (Option Expr)}{vs:List Expr}{bG iU:TE}{oW:List (TE × TE)}(a8:b3 X k bG) (br:b3 X v iU) (aC:Bm X pos iB vs oW) :
  Bm X pos (some k::iB) (v::vs) ((bG,iU)::oW):=fun pins s σ H Q I h =>
 pairTrees_cons_walk (bS (a8 pins s σ H _ I h) fun u s1 ⟨x,H1,aY,bC,bu⟩=>bS (br pins s1 σ H1 _ aY bu) fun eU s2 ⟨y,au,cH,bM,aV⟩ =>
  bS (aC pins s2 σ au _ cH aV) fun ws s3 ⟨ps,a9,cQ,rel,eV⟩=>⟨(x,y)::ps,a9,cQ,.cons ⟨bC,bM⟩ rel,eV⟩)
def lR (kvs more:List (Key × V)):List (Key × V):=more.foldl (fun acc cz=>putK acc cz.1 cz.2) kvs
theorem fD.merge:∀{more:List (Key × V)}{rs:List (Key × Value)}{kvs:List (Key × V)}{vs:List (Key × Value)},fD more rs→fD kvs vs→fD (lR kvs more) (merged vs rs):=by
 intro more rs kvs vs r
 unfold fD at r
 induction r generalizing kvs vs with
 | nil=>intro q;exact q
 | @cons p q ps mb h t c6 =>
  intro n7
  have e:fD (putK kvs p.1 p.2) (stored vs q.1 q.2):=by
   have:=n7.put p.1 h.2
   rw[←h.1];exact this
  exact c6 e
theorem B2:∀(more kvs:List (Key × V)),(lR kvs more).length≤kvs.length+more.length
 | [],kvs=>by show kvs.length≤kvs.length+0;omega
 | p::r,kvs=>by
  have ay:=B2 r (putK kvs p.1 p.2)
  have aG:=pL kvs p.1 p.2
  show (lR (putK kvs p.1 p.2) r).length≤_
  rw[length_cons];omega
theorem H8 {P:Program}{w:World}:∀{kvs:List (Key × V)}{ws:List (Value × Value)},SM (kvs.map fun cz=>(d9 cz.1,cz.2)) ws→∃rs,Carries (hy P w) ws rs∧fD kvs rs
 | [],_,r=>by rw[map_nil]at r;cases r;exact⟨[],True.intro,.nil⟩
 | p::kvs,_,r=>by
  rw[map_cons]at r
  cases r with
  | @cons a b as bs h t =>
   obtain⟨rs,c,q⟩:=H8 (P:=P) (w:=w) t
   obtain⟨e7,fO⟩:=b
   exact⟨(p.1,fO)::rs,⟨nD h.1,rfl,c⟩,.cons ⟨rfl,h.2⟩ q⟩
def XK (oW:List (TE × TE)):TE:=fun σ H Q=>∀p,H p=none→Dc oW σ (upd H p (.bQ [])) fun ps au=>au p=some (.bQ [])∧∃kvs:List (Key × V),ps=kvs.map (fun cz=>(d9 cz.1,cz.2))∧kvs.length≤15∧Q (.ref p) (upd au p (.bQ (lR [] kvs)))
theorem Wj {X:bE}{pos:Pos}{keys:List (Option Expr)}{values:List Expr}{oW:List (TE × TE)}(h:Bm X pos keys values oW) (uq:keys.all (·.isSome)=true) (az:keys.length=values.length) (h0:keys≠[])
  (aiu:keys.length≤15):b3 X (.Dict keys values pos) (XK oW):=by
 intro pins s σ H Q I q
 have aS:=I.bD.fresh (le_refl s.heap.objs.size)
 have aY:=I.laid (a:=s.heap.objs.size) (o:=.bQ []) (h':=s.heap.push { cls:=.type "dict",data:=.dict #[] }) (t':=s.toks) (fun _ _ q=>get?_push_of_some _ q) (le_refl _) (CJ s.heap I.big)
 refine wpAny_Dict_walk (knd:=hy X.prog X.w) uq az h0 aiu (bS (h pins _ σ _ _ aY (q _ aS)) fun ws s2 ⟨ps,au,cH,rel,e,kvs,b7,lk,aV⟩=>?_)
 subst b7
 obtain⟨rs,c,Gm⟩:=H8 (P:=X.prog) (w:=X.w) rel
 obtain⟨z,hd,alP,n7,dd⟩:=tU cH.bD e
 cases n7
 refine⟨rs,c,dd,fun h' j7 a5=>⟨.ref s.heap.objs.size,_,?_,rfl,aV⟩⟩
 have hz:(lR [] kvs).length≤sizeLine:=by
  have ay:=B2 kvs []
  rw[length_nil]at ay
  rw[sizeLine_eq];omega
 have he:∃q,h'.get? s.heap.objs.size=some q:=let ⟨q,_,_,bN,_⟩:=j7;⟨q,bN⟩
 exact s6 cH (by rw[e];exact True.intro) a5 he (wo hz hd (Gm.merge .nil) j7)
structure alj (X:bE) (o:Expr) (m:Str) (apos:Pos) (e:Expr) (gB:Pos):Prop where
 base:attributeBase o m X.env (eval o X.env)=eval o X.env
 FN:((backTo gB (starEach [e] X.env)).all (fun x => !x.1) && (backToKw gB (keywordEach [] X.env)).all (fun x=>x.1.isSome)
  && decide (([e]:List Expr).length+([]:List Keyword).length+(if ([]:List Keyword).isEmpty then 0 else 1)<30))=true
 line:(apos.endLine == gB.line)=true
 trees:backTo gB (starEach [e] X.env)=[(false,eval e X.env)]
structure M2 (X:bE) (o:Expr) (m:Str) (apos:Pos) (e f:Expr) (gB:Pos):Prop where
 base:attributeBase o m X.env (eval o X.env)=eval o X.env
 FN:((backTo gB (starEach [e,f] X.env)).all (fun x => !x.1) && (backToKw gB (keywordEach [] X.env)).all (fun x=>x.1.isSome)
  && decide (([e,f]:List Expr).length+([]:List Keyword).length+(if ([]:List Keyword).isEmpty then 0 else 1)<30))=true
 line:(apos.endLine == gB.line)=true
 trees:backTo gB (starEach [e,f] X.env)=[(false,eval e X.env),(false,eval f X.env)]
def F_ (H:ao) (a:Addr):Prop:=(∃kvs,ni H a (.bQ kvs))∨∃kvs,ni H a (.hu kvs)
theorem J1 {X:bE}{pins:List (Addr × Obj)}{σ:St}{H:ao}{s:Shared}{a:Addr}(I:Inv X pins σ H s) (d:F_ H a) :
  s.TypeIs (.ref a) "dict"∧(∀b,Value.ref a=.ref b→∃bR,s.heap.get? b=some bR∧bR.dict=none)∧(a == sysModules)=false:=by
 rcases d with ⟨kvs,e⟩ | ⟨kvs,e⟩
 ·obtain⟨_,hd,vs,_,dd⟩:=q4 I.bD e
  refine⟨dd.typeIs,fun b q=>?_,hd⟩
  cases q
  obtain⟨bR,_,_,ay,aG,_⟩:=dd
  exact⟨bR,ay,aG.2.1⟩
 ·obtain⟨_,hd,xs,_,dd⟩:=q3 I.bD e
  refine⟨dd.typeIs,fun b q=>?_,hd⟩
  cases q
  obtain⟨bR,_,_,ay,aG,_⟩:=dd
  exact⟨bR,ay,aG.2.1⟩
section
variable {X:bE}{pins:List (Addr × Obj)}{σ:St}{H:ao}{s:Shared}{a:Addr}{y d:V}{u r:Value}{o:Option V}{A:Around}{E:Value→Shared→Prop}
theorem XA {Q:Value→Shared→Prop}(a7:A.units+1<cLine) (I:Inv X pins σ H s) (g:e2 H a y o) (bM:RelV y u) (iy:RelV d r) (h:∀eb aM,Inv X pins σ H aM→RelV (o.getD d) eb→Q eb aM) :
  wpAny (model X.prog X.w) A (call (.builtin "dict.get") [.ref a,u,r]) Q E s:=by
 rcases g with ⟨kvs,k,e,eB,l⟩ | ⟨kvs,k,b,e,eB,dT,l⟩
 ·subst eB
  obtain⟨z,hd,vs,rel,dd⟩:=q4 I.bD e
  refine call_meetsIn slot_dict_get dd.typeIs PySem.F.entry_dict_get (PySem.F.args_dict_get_3 _ _ _) (meets_dict_get_default (hy X.prog X.w) a (nD bM) hd r) ⟨_,dd.mapOf,h _ _ (I.tok _) ?_⟩
  rw[l]
  exact (rel.val k).getD iy
 ·subst eB
  cases (show u=Value.ref b from bM)
  obtain⟨z,hd,xs,rel,dd⟩:=q3 I.bD e
  refine call_meetsIn slot_dict_get dd.typeIs PySem.F.entry_dict_get (PySem.F.args_dict_get_3 _ _ _) (meetsH_dict_get_default (tupleKind (hy X.prog X.w)) a b hd r) ⟨tupleKind_room_in1 a7,k,xs,tC I.bD dT,dd,h _ _ (I.tok _) ?_⟩
  rw[l]
  exact (rel.val k).getD iy
end
def WN (gL ty Bv:TE):TE:=fun σ H Q=>gL σ H fun x H1=>∃a,x=.ref a∧F_ H1 a∧ty σ H1 fun y au=>Bv σ au fun z a9=>∃o,e2 a9 a y o∧Q (o.getD z) a9
def WL (gL ty:TE):TE:=fun σ H Q=>gL σ H fun x H1=>∃a,x=.ref a∧F_ H1 a∧ty σ H1 fun y au=>∃kvs k v,au a=some (.bQ kvs)∧y=d9 k∧dn kvs k=some v∧Q v (upd au a (.bQ (kx kvs k)))
section
variable {X:bE}{o e f:Expr}{apos gB:Pos}{gL ty Bv:TE}
theorem Vq (a7:X.A.units+1<cLine) (aH:b3 X o gL) (he:b3 X e ty) (hf:b3 X f Bv) (m:M2 X o "get" apos e f gB):b3 X (.Call (.Attribute o "get" apos) [e,f] [] gB) (WN gL ty Bv):=by
 intro pins s σ H Q I h
 refine wpAny_Call_method m.base m.FN m.line PySem.F.plainAttrs_dict slot_dict_get PySem.F.type_dict_get (bS (aH pins s σ H _ I h) fun u s1 ⟨x,H1,aY,bC,a,ex,d,bu⟩=>?_)
 subst ex
 obtain rfl:u=Value.ref a:=bC
 obtain⟨t1,en,_⟩:=J1 aY d
 refine⟨t1,en,?_⟩
 rw[m.trees]
 refine Calls.callWith_builtin rfl (Calls.evalArgs_plain (Calls.spliced_cons (bS (he pins s1 σ H1 _ aY bu) fun iC s2 ⟨y,au,cH,bM,aV⟩ =>
  Calls.spliced_cons (bS (hf pins s2 σ au _ cH aV) fun fv s3 ⟨z,a9,cQ,jf,bT,g,eV⟩=>Calls.spliced_nil ?_))))
 exact XA a7 cQ g bM jf fun eb s4 kk j0=>⟨_,a9,kk,j0,eV⟩
theorem yT (aH:b3 X o gL) (he:b3 X e ty) (m:alj X o "pop" apos e gB):b3 X (.Call (.Attribute o "pop" apos) [e] [] gB) (WL gL ty):=by
 intro pins s σ H Q I h
 refine wpAny_Call_method m.base m.FN m.line PySem.F.plainAttrs_dict PySem.F.slot_dict_pop PySem.F.type_dict_pop (bS (aH pins s σ H _ I h) fun u s1 ⟨x,H1,aY,bC,a,ex,d,bu⟩=>?_)
 subst ex
 obtain rfl:u=Value.ref a:=bC
 obtain⟨t1,en,_⟩:=J1 aY d
 refine⟨t1,en,?_⟩
 rw[m.trees]
 refine Calls.callWith_builtin rfl (Calls.evalArgs_plain (Calls.spliced_cons (bS (he pins s1 σ H1 _ aY bu) fun iC s2 ⟨y,au,cH,bM,kvs,k,v,aP,eB,l,aV⟩=>Calls.spliced_nil ?_)))
 subst eB
 exact Yq cH aP bM l (.inl rfl) fun eb s3 cQ j0=>⟨v,_,cQ,j0,aV⟩
end
section
variable {X:bE}{pins:List (Addr × Obj)}{σ:St}{H:ao}{s:Shared}{a:Addr}{kvs:List (Key × V)}{A:Around}{E:Value→Shared→Prop}
end
section
variable {X:bE}{pins:List (Addr × Obj)}{σ:St}{H:ao}{s:Shared}{a:Addr}{y:V}{u:Value}{A:Around}{E:Value→Shared→Prop}
end
end L2
namespace RW
open PySem PySem.W PySem.Calls PyProof.Rows
theorem Tg {P:Params}{h:Heap}:∀(ns:List Int) (vs:List Value),WellAll P h vs (ns.map WData.int)→IntsAre vs ns:=by
 intro ns
 induction ns with
 | nil =>
  intro vs w
  rw[map_nil]at w
  cases w
  exact .nil
 | cons n ns c6 =>
  intro vs w
  rw[map_cons]at w
  cases w with
  | cons a b =>
   cases a
   exact .cons _ _ (c6 _ b)
theorem Uy {l:OpenLaw}{n:Nat}(aS:l.most=some n) {P:Params}{h:Heap}{args:List WData}{vals:List Value}
  (zU:l.row.toRowW.claim.pre args=true) (Fj:WellAll P h vals args) :
  ∃a vs ns,vals=[Value.ref a]∧args=[WData.list (ns.map WData.int)]∧h.get? a=some { cls:=.type "list",data:=.seq vs.toArray }∧IntsAre vs ns∧ns.length≤n:=by
 have ahP:WShape.hasAll [] args [.list .int]=true:=(pre_splitW zU).1
 have aj:l.pre.holds [] { args:=args }=true:=(pre_splitW zU).2
 obtain⟨d,r,rfl,ay,aG⟩:=hasAllW_cons ahP
 obtain rfl:=hasAllW_nil aG
 obtain⟨xs,rfl,ct⟩:=hasW_list ay
 obtain⟨ns,rfl⟩:=items_int ct
 have hlen:ns.length≤n:=by
  unfold OpenLaw.pre at aj
  have dN:(WTm.not (.lt (.lit (.int (n:Int))) (.len (.arg 0)))).holds [] { args:=[.list (ns.map .int)] }=true:=by
   have dN:=(holds_andW aj).1
   rw[aS]at dN
   exact dN
  have gQ:=condW_of dN (w_not (w_lt w_lit (w_len_list (w_arg rfl))))
  rw[length_map]at gQ
  refine Nat.le_of_not_lt fun q=>?_
  have n8:(n:Int)<((ns.length:Nat):Int):=by omega
  first
   | (rw[decide_eq_true n8]at gQ;exact absurd gQ (by decide))
   | (simp at gQ;omega)
 cases Fj with
 | cons fH eU =>
  cases eU
  cases fH with
  | list aH uq=>exact⟨_,_,ns,rfl,rfl,aH,Tg ns _ uq,hlen⟩
theorem UA (l:OpenLaw) (args:List WData):l.row.toRowW.claim.post args (.bool true) args=true :=
 postW_of (r:=l.row.toRowW) (X:=(true == true))
  (show WShape.has [] (.bool true) .bool=true by first | rfl | decide | simp[WShape.has,WShape.arms,WShape.armsAll])
  (show (WTm.eq .res (.lit (.bool true))).value [] { args:=args,res:=some (.bool true),after:=args }=some (.bool (true == true)) from w_eq_bool (w_res rfl) w_lit) rfl
theorem T4 {l:OpenLaw}{n:Nat}{q:Program}{loose:List Str}{vr:(Str→Option Value)→Heap→Prop}{qF:World→Heap→Prop}{d:DefRec}
  (aS:l.most=some n) (xj:d.params.defaults=[])
  (call:∀(w:World) (fJ c5:Shared) (ai mh:Str→Option Value) (e5:Addr) (o:Obj) (pm cd doc:Value) (a:Addr) (vs:List Value) (ns:List Int),
   Ground q loose [] vr w fJ ai mh c5.heap→qF w c5.heap →
   c5.heap.get? e5=some o→o.data=.func (docDef d.name d.params d.body d.scope pm cd doc)→c5.heap.CodeRec cd d.name→ai d.name=some (.ref e5) →
   c5.heap.get? a=some { cls:=.type "list",data:=.seq vs.toArray }→IntsAre vs ns→ns.length≤n→c5.gens = #[] →
   codeAny (model l.prog w) callerA (.call (.ref e5) ⟨[.ref a],[]⟩) (fun r aM=>r=.ok (.ret (.bool true))∧OldK c5.heap aM.heap∧aM.os=c5.os∧AllBare aM.gens) c5) :
  WalkO q loose vr qF l.row.toRowW d [] (fun f vs=>PySem.call f vs):=by
 intro w fJ c5 ai mh G Y e5 o pm cd doc BP d9 aH hd kG ez xe cA args vals as zU alM al9 Fj l7
 obtain rfl:BP=.none:=Dflts.none ez xj
 obtain rfl:d9=.none:=Dflts.noKw ez
 obtain⟨a,vs,ns,rfl,rfl,D2,hints,hlen⟩:=Uy aS zU Fj
 refine enter_call (codeAny_mono (call w fJ c5 ai mh e5 o pm cd doc a vs ns G Y aH (fd_plain hd) kG xe D2 hints hlen cA) fun r aM bN=>?_)
 obtain⟨rfl,aG,ct,dN⟩:=bN
 exact⟨.inl ⟨.bool true,.bool true,[],rfl,fun _=>rfl,.bool true,UA l _,fun _=>⟨List.Pairwise.nil,fun _ hm=>(nomatch hm)⟩⟩,aG,ct,dN⟩
section
variable {prog:Program}{w:World}{A:Around}{E:Value→Shared→Prop}{s:Shared}{K:Frag}
end
end RW
namespace L2
open PySem PySem.Spec PyProof.Rows
theorem Ib:∀{vs:List Value}{ns:List Int},IntsAre vs ns→Vals (ns.map V.int) vs
 | _,_,.nil=>.nil
 | _,_,.cons n t h=>.cons ⟨t,rfl⟩ (Ib h)
def Ea (H:ao):Prop:=∀b,H b=none∨∃o xs,H b=some (.jc o (.lst xs))
theorem VP {P:Program}{w:World}{K:PySem.W.Frag}{ai mh:Str→Option Value}{eY:ma}{k:Nat}{e5 a:Addr}{fd:FuncData}{x:Str}{sp:c3}{c5:Shared}{vs:List Value}{ns:List Int}
  (ov:K.In c5.heap) (N5:c5.heap.Ns mainGlobals ai) (aa:c5.heap.Ns builtinsNs mh) (ain:∀x:Str,x≠"__name__"→mh x=bootBuiltins x) (ac8:c5.heap.NoLimit) (cA:c5.gens = #[])
  (aX:c5.heap.get? a=some { cls:=.type "list",data:=.seq vs.toArray }) (aL:IntsAre vs ns) (az:ns.length≤sizeLine) (aC:gd k callerA)
  (F:∀base:Heap,K.In base→base.Ns mainGlobals ai→aU P w K ai base eY k e5 fd [x] sp) (Yl:∀(s:Shared) (u:Value),BindsTo s fd ⟨[u],[]⟩ [(x,u)])
  (nO:∀H:ao,Ea H→aR K H a (ns.map V.int)→sp [.ref a] H (fun v _=>v=.bV true) fun _ _ _=>False)
  (FI:∀H e aM,eY [] H c5 (fun _ _ _=>False) e aM→False) :
  codeAny (model P w) callerA (.call (.ref e5) ⟨[.ref a],[]⟩) (fun r aM=>r=.ok (.ret (.bool true))∧OldK c5.heap aM.heap∧aM.os=c5.os∧AllBare aM.gens) c5:=by
 have bp:=Ib aL
 have ab7:=aL.length
 have core:∀H:ao,Ea H→aR K H a (ns.map V.int)→eT P w H c5.heap→(∀b,H b≠none→b=a)→(H a≠none→K.lookup a=none) →
   codeAny (model P w) callerA (.call (.ref e5) ⟨[.ref a],[]⟩) (fun r aM=>r=.ok (.ret (.bool true))∧OldK c5.heap aM.heap∧aM.os=c5.os∧AllBare aM.gens) c5:=by
  intro H x2 mq bD r6 hF
  have JH:∀{b:Addr} {o:Obj},c5.heap.get? b=some o→H b=none→(oT c5.heap H).get? b=some o:=fun e n=>VU e n
  have w1:∀{b:Addr} {o:Obj} {aE:Array DictEntry} {b7:Nat},c5.heap.get? b=some o→o.data=.dict aE b7→H b=none:=fun {b o aE b7} e d=>by
   cases q:H b with
   | none=>rfl
   | some u =>
    have cV:b=a:=r6 b (by rw[q];simp)
    subst cV
    rw[aX]at e;cases e
    have d':Data.seq vs.toArray _=Data.dict aE b7:=d
    cases d'
  have Ad:∀{b:Addr} {m:Str→Option Value},c5.heap.Ns b m→(oT c5.heap H).Ns b m:=fun {b m} ⟨o,aE,b7,e,d,r⟩=>⟨o,aE,b7,JH e (w1 e d),d,r⟩
  have Oi:K.In (oT c5.heap H):=fun b o e=>JH (ov b o e) (by
   cases q:H b with
   | none=>rfl
   | some u =>
    have cV:b=a:=r6 b (by rw[q];simp)
    subst cV
    rw[hF (by rw[q];simp)]at e;cases e)
  have akN:Mod K ai (oT c5.heap H):=⟨Oi,Ad N5,⟨mh,Ad aa,ain⟩,let ⟨u_,ay,aG⟩:=ac8;⟨u_,Ad ay,aG⟩⟩
  have e0:ru P w K ai (oT c5.heap H) callerA [] c5 H:=⟨rfl,akN,fun b o e=>Wt e,le_of_eq (UY _ _),trivial,fun b aa=>absurd (show b∈([]:List Addr) from aa) (by simp),bD,.of_eq cA⟩
  refine codeAny_mono ((F _ Oi (Ad N5)).run callerA [] c5 H ⟨[.ref a],[]⟩ [.ref a] [.ref a] _ _ aC e0 (Yl c5 (.ref a)) (.cons rfl .nil) (nO H x2 mq)) fun r aM h=>?_
  cases r with
  | error e=>exact (FI H e aM h).elim
  | ok gG =>
   cases gG with
   | next=>exact False.elim h
   | brk=>exact False.elim h
   | cont=>exact False.elim h
   | ret u =>
    obtain⟨v,ah,os,bare,un,ac3,fz,q⟩:=h
    have n8:v=.bV true:=q
    subst n8
    obtain rfl:u=Value.bool true:=fz
    refine⟨rfl,OldK.of_keep fun b o e=>?_,os,bare⟩
    cases q:H b with
    | none=>exact un.keep b o e q (by intro z;exact absurd (show b∈([]:List Addr) from z) (by simp)) (by simp)
    | some u =>
     rcases x2 b with z | ⟨bR,xs,z⟩
     ·rw[q]at z;cases z
     ·have dU:=un.nH b bR _ z
      obtain⟨aJ,_⟩:=bD b _ z
      obtain⟨aN,_⟩:=ac3 b _ dU
      rw[e]at aJ;cases aJ
      exact aN
 cases a8:K.lookup a with
 | some o =>
  have e:=ov a o a8
  rw[aX]at e
  cases e
  refine core (fun _=>none) (fun _=>.inl rfl) (.inr ⟨_,vs.toArray,_,a8,rfl,rfl,rfl,by rw[size_toArray,ab7];exact az,by simpa using bp⟩) (fun b u z=>by have iv:(none:Option fh)=some u:=z;cases iv) (fun b z=>absurd rfl z) fun z=>absurd rfl z
 | none =>
  refine core (fun b=>if b=a then some (.jc { cls:=.type "list",data:=.seq vs.toArray } (.lst (ns.map V.int))) else none) (fun b=>?_) (.inl (.inr ⟨{ cls:=.type "list",data:=.seq vs.toArray },if_pos rfl⟩)) (fun b u z=>?_) (fun b z=>?_) fun _=>a8
  ·by_cases aa:b=a
   ·exact .inr ⟨_,_,if_pos aa⟩
   ·exact .inl (if_neg aa)
  ·by_cases aa:b=a
   ·have iv:=(if_pos aa).symm.trans z
    cases iv
    subst aa
    exact⟨aX,by rw[length_map];exact az,vs,_,bp,aX⟩
   ·have iv:=(if_neg aa).symm.trans z
    cases iv
  ·by_cases aa:b=a
   ·exact aa
   ·exact absurd (if_neg aa) z
theorem V3 {l:PySem.W.OpenLaw}{n k:Nat}{q:Program}{loose:List Str}{vr:(Str→Option Value)→Heap→Prop}{qF:World→Heap→Prop}{d:DefRec}{K:Params→PySem.W.Frag}{eY:World→ma}{sp:World→c3}{x:Str}
  (aS:l.most=some n) (AF:n≤sizeLine) (xj:d.params.defaults=[]) (aC:gd k callerA)
  (GH:∀(w:World) (h:Heap),qF w h→(K w.params).In h)
  (F:∀(w:World) (ai:Str→Option Value) (e5:Addr) (h:Heap),(K w.params).In h→h.Ns mainGlobals ai→ai d.name=some (.ref e5) →
   ∃fd:FuncData,(∀(s:Shared) (u:Value),BindsTo s fd ⟨[u],[]⟩ [(x,u)]) ∧
    ∀base:Heap,(K w.params).In base→base.Ns mainGlobals ai→aU l.prog w (K w.params) ai base (eY w) k e5 fd [x] (sp w))
  (nO:∀(w:World) (H:ao) (a:Addr) (ns:List Int),ns.length≤n→Ea H→aR (K w.params) H a (ns.map V.int)→sp w [.ref a] H (fun v _=>v=.bV true) fun _ _ _=>False)
  (FI:∀(w:World) (H:ao) (s:Shared) (e:Value) (aM:Shared),eY w [] H s (fun _ _ _=>False) e aM→False) :
  PySem.W.WalkO q loose vr qF l.row.toRowW d [] (fun f vs=>PySem.call f vs):=by
 refine RW.T4 aS xj fun w fJ c5 ai mh e5 o pm cd doc a vs ns G Y aH hd kG xe D2 hints hlen cA=>?_
 have ov:=GH w _ Y
 obtain⟨fd,aa,akO⟩:=F w ai e5 _ ov G.T.g xe
 exact VP ov G.T.g G.T.b G.T.builtins G.T.nolimit cA D2 hints (le_trans hlen AF) aC akO aa (fun H x2 mq=>nO w H a ns hlen x2 mq) fun H e aM=>FI w H c5 e aM
end L2
namespace L2
open PySem PySem.Spec PyProof.Rows
def inClass (s:Stmt) (j:Nat):Stmt:=match s with
 | .ClassDef _ _ _ body _ _ _ _ _ _ _=>body.getD j (.Pass ⟨0,0,0,0⟩)
 | _=>.Pass ⟨0,0,0,0⟩
def dj (s:Stmt):Arguments:=match s with
 | .FunctionDef _ a _ _ _ _ _ _ _ _=>a
 | _=>{ posonlyargs:=[],args:=[],vararg:=none,kwonlyargs:=[],kw_defaults:=[],kwarg:=none,defaults:=[] }
def cR (s:Stmt):List Stmt:=match s with
 | .FunctionDef _ _ b _ _ _ _ _ _ _=>b
 | _=>[]
def bF (s:Stmt):Scope:=match s with
 | .FunctionDef _ _ _ _ _ _ sc _ _ _=>sc
 | _=>{ kind:=.function,names:=[],isGenerator:=false,isCoroutine:=false }
abbrev bf:ma:=fun _ _ _ _ _ _=>False
abbrev S7:gR:=fun _ _ _=>False
theorem cP {X:bE}:Passes bf X S7:=fun _ _ _ _ _ _ _ h=>h.elim
structure da (K:PySem.W.Frag) (x qual:Str) (st:Stmt) (f:Addr) (fd:FuncData):Prop where
 ex:∃(mc:Value) (fq:Option Addr) (d9 doc pm:Value) (an:Option Addr) (b4 ff:Value) (oZ:Array (Option Value)),
  fd=PySem.W.fnOf x qual (dj st) (cR st) (bF st) .none d9 doc pm an b4 ff∧K.lookup f=some ⟨mc,fq,.func fd,oZ⟩∧PySem.W.codeIn K b4 qual=true
 eo:keepIn K (.ref f)=true
section
variable {P:Program}{w:World}{K:PySem.W.Frag}{ai:Str→Option Value}{base:Heap}
theorem da.ok {x qual:Str}{st:Stmt}{f:Addr}{fd:FuncData}{N ps:List Str}{k:Nat}{sp:c3}(F:da K x qual st f fd) (S:dk N ps (bF st)) (len:∀vs H Q E,sp vs H Q E→vs.length=ps.length)
  (wC:∀(b4:Value) (A:Around) (outer:List Env) (s:Shared) (H:ao) (vs:List V) (Q:cC) (E:gR),gd k (A.deeper (envOfC qual (bF st) s.heap.objs.size f b4))→sp vs H Q E →
   ∃t,gW (fG bf P w K ai base N qual (bF st) f b4 A outer s H E).k_ (cR st) t∧t { c4:=fun _ ah=>Q .cE ah,n6:=Q } (start N vs) H):aU P w K ai base bf (k+1) f fd ps sp:=by
 obtain⟨mc,fq,d9,doc,pm,an,b4,ff,oZ,rfl,lk,kG⟩:=F.ex
 refine Kp lk kG S len fun A outer s H vs Q E aC nO=>?_
 obtain⟨t,h,q⟩:=wC b4 A outer s H vs Q E aC nO
 exact⟨t,h.k_,q⟩
theorem da.binds {x qual:Str}{st:Stmt}{f:Addr}{fd:FuncData}{ps:List Str}(F:da K x qual st f fd)
  (h:∀(d9 doc pm:Value) (an:Option Addr) (b4 ff:Value) (us:List Value),us.length=ps.length→bindArgs (PySem.W.fnOf x qual (dj st) (cR st) (bF st) .none d9 doc pm an b4 ff) ⟨us,[]⟩=pure (ps.zip us)):Binds K fd ps []:=by
 obtain⟨mc,fq,d9,doc,pm,an,b4,ff,oZ,rfl,lk,kG⟩:=F.ex
 exact .all (h d9 doc pm an b4 ff)
theorem dJ {x qual:Str}{st:Stmt}{f:Addr}{mc:Value}{fq an:Option Addr}{oZ:Array (Option Value)}{d9 doc pm b4 ff:Value}(l:K.lookup f=some ⟨mc,fq,.func (PySem.W.fnOf x qual (dj st) (cR st) (bF st) .none d9 doc pm an b4 ff),oZ⟩)
  (c:PySem.W.codeIn K b4 qual=true) (k:keepIn K (.ref f)=true):da K x qual st f (PySem.W.fnOf x qual (dj st) (cR st) (bF st) .none d9 doc pm an b4 ff):=⟨⟨mc,fq,d9,doc,pm,an,b4,ff,oZ,rfl,l,c⟩,k⟩
end
theorem gT {A:Around}{k:Nat}(aC:gd k A):A.units+1<cLine:=lt_of_le_of_lt (Nat.add_le_add_left (by decide:1≤64) _) aC.units
theorem Uw {n:Nat}(h:n≤1000):n<sizeLine:=lt_of_le_of_lt h (by decide)
section
variable {X:bE}
theorem af (i:Nat) {x:Str}{pos:Pos}(gP:X.N[i]?=some x:=by rfl) (br:F3 X.env.scope x:=by first | exact Or.inl rfl | exact Or.inr (Or.inl rfl) | exact Or.inr (Or.inr rfl)) (hd:(x == ("__debug__":Str))=false:=by decide)
  (kG:(x == ("__classdict__":Str))=false:=by decide):b3 X (.Name x pos) (KN i):=W6 gP br hd kG
end
theorem cU {A B:Prop}(h:B):if false=true then A else B:=by
 rw[if_neg Bool.false_ne_true]
 exact h
theorem fm {A B:Prop}(h:A):if true=true then A else B:=by
 rw[if_pos rfl]
 exact h
theorem gk {c A B:Prop} [Decidable c] (ay:c→A) (aG:¬c→B):if c then A else B:=by
 by_cases h:c
 ·rw[if_pos h]
  exact ay h
 ·rw[if_neg h]
  exact aG h
theorem mF {c A B:Prop} [Decidable c] (aj:c) (h:B):if (!decide c)=true then A else B:=by
 rw[decide_eq_true aj]
 exact cU h
def bI (H ah:ao):Prop:=∀b o,H b=some o→ah b=some o
theorem bI.refl (H:ao):bI H H:=fun _ _ h=>h
theorem bI.trans {H H1 au:ao}(a:bI H H1) (b:bI H1 au):bI H au:=fun c o h=>b c o (a c o h)
theorem bI.free {H ah:ao}(e:bI H ah) {l:Addr}(h:ah l=Option.none):H l=Option.none:=by
 cases q:H l with
 | none=>rfl
 | some o =>
  rw[e l o q]at h
  cases h
theorem bI.seq {K:PySem.W.Frag}{H ah:ao}{a:Addr}{xs:List V}(e:bI H ah) (h:aR K H a xs):aR K ah a xs:=by
 rcases h with (h | ⟨o,h⟩) | h
 ·exact .inl (.inl (e _ _ h))
 ·exact .inl (.inr ⟨o,e _ _ h⟩)
 ·exact .inr h
section
variable {κ:Type} [DecidableEq κ]
end
section
variable {X:bE}{pins:List (Addr × Obj)}{σ:St}{H:ao}{s:Shared}
theorem i7.ahq {x:V}{u t:Value}(I:Inv X pins σ H s) (bC:RelV x u) (ty:i7 X.K H x t) :
  ∃Hh:Heap→Prop,PySem.W.KitX X.K u t Hh∧Hh s.heap∧u≠.builtin "__main__.__loader__#opaque":=by
 cases ty with
 | cE=>cases (show u=Value.none from bC);exact⟨_,PySem.W.kitx_none,True.intro,fun z=>nomatch z⟩
 | bV y=>cases (show u=Value.bool y from bC);exact⟨_,PySem.W.kitx_bool,True.intro,fun z=>nomatch z⟩
 | int i=>obtain⟨t,q⟩:=(show ∃t,u=Value.int i t from bC);cases q;exact⟨_,PySem.W.kitx_int,True.intro,fun z=>nomatch z⟩
 | str y=>obtain⟨t,q⟩:=(show ∃t,u=Value.str y t from bC);cases q;exact⟨_,PySem.W.kitx_str,True.intro,fun z=>nomatch z⟩
 | ql y=>obtain⟨t,q⟩:=(show ∃t,u=Value.float y t from bC);cases q;exact⟨_,PySem.W.kitx_float,True.intro,fun z=>nomatch z⟩
 | @lst a xs aP =>
  cases (show u=Value.ref a from bC)
  obtain⟨_,_,n,_,ay⟩:=(show fx X.prog X.w H s.heap a (.lst xs) from I.bD a _ aP)
  exact⟨_,PySem.W.kitx_list,⟨_,ay,rfl⟩,fun z=>nomatch z⟩
 | @jc a bR xs aP =>
  cases (show u=Value.ref a from bC)
  obtain⟨_,_,_,n,_,ay⟩:=(show fx X.prog X.w H s.heap a (.jc bR (.lst xs)) from I.bD a _ aP)
  exact⟨_,PySem.W.kitx_list,⟨_,ay,rfl⟩,fun z=>nomatch z⟩
 | @tup a xs aP =>
  cases (show u=Value.ref a from bC)
  obtain⟨_,_,_,o,ay,aG,_⟩:=(show fx X.prog X.w H s.heap a (.tup xs) from I.bD a _ aP)
  exact⟨_,PySem.W.kitx_tuple,⟨o,ay,aG⟩,fun z=>nomatch z⟩
 | @bQ a kvs aP =>
  cases (show u=Value.ref a from bC)
  obtain⟨_,_,vs,_,o,aE,b7,ay,aG,_⟩:=(show fx X.prog X.w H s.heap a (.bQ kvs) from I.bD a _ aP)
  exact⟨_,PySem.W.kitx_dict,⟨o,ay,aG.1⟩,fun z=>nomatch z⟩
 | @hu a kvs aP =>
  cases (show u=Value.ref a from bC)
  obtain⟨_,_,xs,_,o,aE,b7,ay,aG,_⟩:=(show fx X.prog X.w H s.heap a (.hu kvs) from I.bD a _ aP)
  exact⟨_,PySem.W.kitx_dict,⟨o,ay,aG.1⟩,fun z=>nomatch z⟩
 | @ins a C dx bL aP cl aX aS jE hm =>
  cases (show u=Value.ref a from bC)
  obtain⟨d1,O,_⟩:=v7 I.bD aP
  obtain⟨fq,J,_⟩:=O.look
  exact⟨_,PySem.W.kitx_own (cl.get _) cl.hd aX aS jE hm,J,fun z=>nomatch z⟩
end
section
variable {X:bE}
def ZN (K:PySem.W.Frag):List V→ao→cC→Prop:=fun xs H Q=>∃x t T b,xs=[x,.ty T]∧i7 K H x t∧kitOne K t (.type T)=some b∧Q (.bV b) H
theorem jt:mG X (.builtin "isinstance") (ZN X.K):=by
 intro pins s σ H xs us Q I bp h
 obtain⟨x,t,T,b,rfl,ty,e,q⟩:=h
 obtain⟨u,v,rfl,eg,En⟩:=bp.two
 have uy:v=Value.type T:=En
 subst uy
 exact UT I eg ty e fun bG=>⟨.bV b,H,I.tok bG,rfl,q⟩
theorem Jk:∀{sj:List String}{its:List Value},Vals (sj.map V.ty) its→its=sj.map Value.type
 | [],_,.nil=>rfl
 | T::sj,_,.cons r t=>by
  have e:_=Value.type T:=r
  rw[e,Jk t]
  all_goals rfl
def XX (K:PySem.W.Frag):List V→ao→cC→Prop:=fun xs H Q=>∃(x:V) (t:Value) (p:Addr) (sj:List String) (b:Bool),xs=[x,.ref p]∧i7 K H x t∧H p=some (.tup (sj.map V.ty))∧PySem.W.kitAny K t (sj.map Value.type)=some b∧Q (.bV b) H
theorem U9:mG X (.builtin "isinstance") (XX X.K):=by
 intro pins s σ H xs us Q I bp h
 obtain⟨x,t,p,sj,b,rfl,ty,aI,e,q⟩:=h
 obtain⟨u,v,rfl,eg,En⟩:=bp.two
 cases (show v=Value.ref p from En)
 obtain⟨its,r,⟨o,aH,aj,n,hd⟩,_⟩:=I.tuple (aF.of aI)
 obtain⟨c,dd,Su,dc⟩:=o
 simp only at aj hd
 subst aj hd
 have r_:=Jk r
 subst r_
 obtain⟨Hh,Z,dD,bg⟩:=i7.ahq I eg ty
 exact PySem.W.kia_tup Z I.gn dD aH e bg fun bG=>⟨.bV b,H,I.tok bG,rfl,q⟩
def WZ:i2:=fun x y H Q=>∃a b xs,x=.ref a∧y=.ref b∧H a=some (.lst xs)∧H b=some (.lst [])∧Q (.bV (!xs.isEmpty)) H
theorem I4 (a7:X.A.units<cLine):gX X (compareOp .NotEq) WZ:=by
 intro pins s σ H x y v u Q I bC bM h
 obtain⟨a,b,xs,rfl,rfl,aX,aa,q⟩:=h
 cases bC
 cases bM
 obtain⟨its,r,p,_⟩:=I.list (aR.of aX)
 obtain⟨iO,bH,fQ,_⟩:=I.list (aR.of aa)
 cases bH
 cases xs with
 | nil =>
  cases r
  exact SeqAt.RcNeAt.lists (e:=fun _=>true) p.isList fQ.isList rfl a7 (fun j ay _=>absurd ay (by simp)) X.prog X.w X.dF _ ⟨.bV false,H,I,rfl,q⟩
 | cons x xs =>
  cases r
  exact SeqAt.RcNeAt.lists_lengths p.isList fQ.isList (by simp) a7 X.prog X.w X.dF _ ⟨.bV true,H,I,rfl,q⟩
section
open AutoSeq1 (wpAny_loadPart')
theorem Td (l:Addr) (items:Array Value) (n:Nat) (b:Addr) (wj:Array Value) (dC:Nat) (dd:Option Addr) (dc:Array (Option Value)) (c_:¬(!items.isEmpty && Builtin.List.listTooLong (items.size+wj.size))=true) (ahR:items.size≤sizeLine) (j3:items.size+wj.size≤sizeLine+1) :
  Meets (Builtin.«list.extend» ⟨[.ref l,.ref b],[]⟩) (fun _ R s=>s.heap.get? l=some { cls:=.type "list",dict:=none,data:=.seq items n,slots := #[] }∧s.heap.get? b=some { cls:=.type "tuple",dict:=dd,data:=.seq wj dC,slots:=dc }∧R (.ok (.ret Value.none)) { s with heap:=s.heap.update l (Obj.mapSeq fun x=>x++wj),toks:=s.toks }) :=
 .of_wp fun prog w A R s h=>by
  obtain⟨aI,g,d,bG,os⟩:=s;obtain⟨az,aa,h⟩:=h;have f1:=AutoSeq1.idx_int;have f2:=AutoSeq1.sub_tuple_tuple;have eL:=AutoSeq1.sub_list_list;have f4:=AutoSeq1.sub_tuple_list;have e6:=AutoSeq1.sub_list_tuple;
  have ahD:(items++wj).size≤sizeLine+1:=by rw[Array.size_append];exact j3
  wp_walk using (wpAny_updateSeq az rfl (hz:=ahR) (_hz':=ahD)),wpAny_loadPart' az,wpAny_loadPart' aa;exact⟨_,rfl,h⟩
end
def Vk:V→List V→ao→cC→Prop:=fun x vs H Q=>∃l b xs zs,x=.ref l∧vs=[.ref b]∧H l=some (.lst xs)∧H b=some (.tup zs)∧xs.length+zs.length≤sizeLine∧Q .cE (upd H l (.lst (xs++zs)))
theorem Ua:xB X "list.extend" Vk:=by
 intro pins s σ H x vs v us Q I bC bp h
 obtain⟨l,b,xs,zs,rfl,rfl,hr,pq,hz,q⟩:=h
 cases bC
 obtain⟨u,rfl,eg⟩:=bp.one
 cases eg
 obtain⟨z,its,n,r,az,e⟩:=I.p4 hr
 obtain⟨iO,bH,⟨o,aH,aj,dC,hd⟩,_⟩:=I.tuple (aF.of pq)
 obtain⟨c,dd,Su,dc⟩:=o
 simp only at aj hd
 subst aj hd
 have uH:=bH.length
 have hsz:its.toArray.size+iO.toArray.size≤sizeLine:=by rw[size_toArray,size_toArray];omega
 have DK:¬(!its.toArray.isEmpty && Builtin.List.listTooLong (its.toArray.size+iO.toArray.size))=true:=by
  rw[I5 hsz,Bool.and_false]
  exact Bool.false_ne_true
 refine call_meets F.slot_list_extend ⟨_,e,rfl⟩ F.entry_list_extend (F.args_list_extend_2 _ _)
  (Td l its.toArray n b iO.toArray dC dd dc DK (by rw[size_toArray];omega) (by omega)) ⟨e,aH,?_⟩
 refine⟨.cE,_,I.zS (its':=its++iO) hr e (by simp) (r.append bH) ?_,rfl,q⟩
 rw[length_append]
 omega
def Vl:V→List V→ao→cC→Prop:=fun x vs H Q=>∃l b xs zs,x=.ref l∧vs=[.ref b]∧H l=some (.lst xs)∧(H b=some (.lst zs)∨H b=some (.tup zs))∧xs.length+zs.length≤sizeLine∧Q .cE (upd H l (.lst (xs++zs)))
theorem H2:xB X "list.extend" Vl:=by
 intro pins s σ H x vs v us Q I bC bp h
 obtain⟨l,b,xs,zs,aJ,aN,hr,pq | pq,hz,q⟩:=h
 ·exact UN pins s σ H x vs v us Q I bC bp ⟨l,b,xs,zs,aJ,aN,hr,pq,hz,q⟩
 ·exact Ua pins s σ H x vs v us Q I bC bp ⟨l,b,xs,zs,aJ,aN,hr,pq,hz,q⟩
end
section
variable {X:bE}{a b:Expr}{j9 oX:TT}{pos:Pos}
theorem lQ (aX:g4 X a j9) (aa:g4 X b oX):g4 X (.BoolOp .Or [a,b] pos) (z2 j9 oX):=(pw_or aX (pw_or1 aa)).pt
theorem oD (aX:g4 X a j9) (aa:g4 X b oX):g4 X (.BoolOp .And [a,b] pos) (KQ j9 oX):=(pw_and aX (pw_and1 aa)).pt
end
theorem cS {xs:List V}(h:Nat.ble xs.length 1000=true:=by rfl):xs.length≤sizeLine:=le_trans (le_of_ble_eq_true h) (by decide)
theorem TZ {prog:Program}{w:World}{A:Around}{R:Result→Shared→Prop}{s:Shared}{elt target iter:Expr}{scope:Scope}{pos:Pos}{it acc:Value}{env:Env}(I:Nat→Shared→Prop)
  (turn:∀n s,I n s→wpAny (model prog w) A (pyNext it) (fun r c5=>match r with
   | none=>R (.ok .next) c5
   | some v=>wpAny (model prog w) A (letOwnedTupleGo target it v) (fun _ hW=>wpAny (model prog w) A (assign target env v) (fun _ hT=>wpAny (model prog w) A (eval elt env) (fun x n5 =>
     wpAny (model prog w) A (call (.builtin "list.append") [acc,x]) (fun _ xP=>∃m,m<n∧I m xP) (fun _ _=>False) n5) (fun _ _=>False) hT) (fun _ _=>False) hW) (fun _ _=>False) c5) (fun _ _=>False) s)
  (n:Nat) (h:I n s):codeAny (model prog w) A (.compLoop (.ListComp elt [⟨target,iter,[],0⟩] scope pos) 0 it acc env) R s:=by
 refine codeAny_loop rfl I (fun n s pn=>?_) n h
 show wpAny _ _ ((compTurn (.ListComp elt [⟨target,iter,[],0⟩] scope pos) 0 it acc env).onRaise (fun x=>do noteFrame x env;theTreesLotGoes x)) _ _ s
 refine wpAny_noted ?_
 rw[compTurn_list1]
 refine wpAny_bind (wpAny_standAt (wpAny_bind (wpAny_mono (turn n s pn) (fun r c5 gO=>?_) fun _ _ z=>False.elim z)))
 cases r with
 | none=>exact wpAny_pure gO
 | some v =>
  refine wpAny_bind (wpAny_mono gO (fun _ hW ml=>?_) fun _ _ z=>False.elim z)
  exact wpAny_bind (wpAny_mono ml (fun _ hT x1=>wpAny_bind (wpAny_bind (wpAny_mono x1 (fun x n5 BN=>wpAny_bind (wpAny_mono BN
   (fun _ xP GF=>wpAny_pure (wpAny_pure ⟨rfl,GF⟩)) fun _ _ z=>False.elim z)) fun _ _ z=>False.elim z))) fun _ _ z=>False.elim z)
def gV (X:bE) (d2:List Str) (scope:Scope) (cl:List (Str × Addr)) (C:Addr) (s:Shared) (H:ao) (b5:List Addr):bE :=
 { X with N:=d2,fJ:=s,yi:=H,env:=compEnvC scope cl C X.env,outer:=X.stack,stack:=X.stack,ex:=b5,fn:=fun _=>false,dF:=fun _ _=>False }
def pick (σ:St) (fr:List Nat):St:=fr.map fun j=>(σ[j]?).getD none
structure k8 (X:bE) (x:Str) (fr:List Nat) (d2:List Str) (scope:Scope) (cl:List (Str × Addr)):Prop where
 wL:closureFor scope X.env=pure cl
 cell:∀y∈scope.names,y.2≠.cell
 kind:scope.kind=.function
 names:∀y∈scope.names,y.2=.local→scope.names.lookup y.1=some .local
 loc:scope.names.lookup x=some .local
 sub:∀y c,cl.lookup y=some c→X.env.cells.lookup y=some c
 has:∀y,((relabel scope X.env).names.lookup y=some .cell∨(relabel scope X.env).names.lookup y=some .free)→∃c,cl.lookup y=some c
 bg:d2[0]?=some x
 len:d2.length=fr.length+1
 bl:d2.Nodup
 wR:∀(i j:Nat) (y:Str),d2[i+1]?=some y→fr[i]?=some j→X.N[j]?=some y∧X.env.scope.names.lookup y=some .cell∧(relabel scope X.env).names.lookup y=some .cell
theorem B1:∀{names:List (Str × NameKind)}{y:Str}{k:NameKind},(∀z∈names,z.2=.local)→names.lookup y=some k→k=.local
 | [],_,_,_,h=>by simp at h
 | (n,i0)::r,y,k,aX,h=>by
  rw[lookup_cons]at h
  cases e:y == n with
  | true =>
   rw[e]at h
   have h':some i0=some k:=h
   cases h'
   exact aX (n,i0) mem_cons_self
  | false =>
   rw[e]at h
   exact B1 (fun z hz=>aX z (mem_cons_of_mem _ hz)) h
theorem Ho:∀{names:List (Str × NameKind)}{y:Str × NameKind},(∀z∈names,z.2=.local)→y∈names→names.lookup y.1=some .local
 | [],_,_,h=>by simp at h
 | (n,i0)::r,y,aX,h=>by
  rw[lookup_cons]
  cases e:y.1 == n with
  | true =>
   have:=aX (n,i0) mem_cons_self
   dsimp only at this ⊢
   rw[this]
  | false =>
   rcases mem_cons.mp h with z | z
   ·rw[z]at e
    simp at e
   ·exact Ho (fun z hz=>aX z (mem_cons_of_mem _ hz)) z
theorem Tq {scope:Scope}{env:Env}(h:∀z∈scope.names,z.2=.local):(relabel scope env).names=scope.names:=by
 unfold relabel
 show scope.names.map _=scope.names
 refine map_eq_self fun z hz=>?_
 obtain⟨n,k⟩:=z
 have:=h (n,k) hz
 dsimp only at this
 subst this
 rfl
theorem k8.plain {X:bE}{x:Str}{scope:Scope}(az:∀z∈scope.names,z.2=.local) (a8:scope.kind=.function) (bg:scope.names.lookup x=some .local):k8 X x [] [x] scope [] where
 wL:=closureFor_none fun z hz e=>by rw[az z hz]at e;cases e
 cell:=fun y cg e=>by rw[az y cg]at e;cases e
 kind:=a8
 names:=fun y cg _=>Ho az cg
 loc:=bg
 sub:=fun y c e=>by simp at e
 has:=fun y e=>by
  rw[Tq az]at e
  rcases e with e | e
  ·cases B1 az e
  ·cases B1 az e
 bg:=rfl
 len:=rfl
 bl:=by simp
 wR:=fun i j y _ e=>by simp at e
def tV (J:ki) (b8:TE) (bK:St) (Q:cC) (H:ao) (acc:Addr):Prop :=
 ∃(n:Nat) (W:Nat→List V→ao→Prop),W 0 [] (upd H acc (.lst []))∧∀i ys au,W i ys au→(J.stop i au∧Q (.ref acc) au) ∨
  (J.go i au∧i<n∧∀v a9,J.oV i au v a9→b8 (some v::bK) a9 fun y cO=>cO acc=some (.lst ys)∧ys.length<sizeLine∧W (i+1) (ys++[y]) (upd cO acc (.lst (ys++[y]))))
theorem U7 {X:bE}{pins:List (Addr × Obj)}{σ:St}{H:ao}{s:Shared}{x:Str}{j_:Pos}{elt iter:Expr}{scope:Scope}{pos:Pos}{cl:List (Str × Addr)}{d2:List Str}{fr:List Nat}{b8:TE}{J:ki}{b5:List Addr}{it:Addr}
  {gD:Nat→Heap→Prop} {E:Value→Shared→Prop} {RR:Value→Addr→Result→Shared→Prop} {Q:cC} (B:k8 X x fr d2 scope cl) (aj:X.calm=true) (I:Inv X pins σ H s) (T:Turn X.prog X.w X.K (.Name x j_) J b5 it gD)
  (st:gD 0 s.heap) (hf:∀b∈b5,mK X pins H b) (he:∀C aM ah,b3 (gV X d2 scope cl C aM ah b5) elt b8) (h:∀acc,H acc=none→tV J b8 (pick σ fr) Q H acc)
  (FH:∀acc C ah aM m,Inv X pins σ ah aM→Q (.ref acc) ah→aM.heap.Ns C m→ah C=none→C≠X.env.locals→(C∈X.ex∨X.fJ.heap.objs.size≤C)→(∀y c,X.env.cells.lookup y=some c→c≠C)→(∀p∈X.bz++pins,p.1≠C)→RR (.ref acc) C (.ok .next) aM) :
  wpAny (model X.prog X.w) X.A (newList []) (fun acc hT=>wpAny (model X.prog X.w) X.A (newFunctionEnv scope X.env.globals cl [] X.env.qual none .none (some X.env)) (fun wM n5 =>
   codeAny (model X.prog X.w) X.A (.compStart (.ListComp elt [⟨.Name x j_,iter,[],0⟩] scope pos) 0 (.ref it) acc { wM with scope:=relabel scope X.env }) (RR acc wM.locals) n5) E hT) E s:=by
 refine wpAny_newObj_type (wpAny_newFunctionEnv B.cell (by intro y cg;simp at cg) (fun gO rm rl=>?_) B.kind)
 have cQ:Inv X pins σ (upd H s.heap.objs.size (.lst [])) { s with heap:=s.heap.push { cls:=.type "list",data:=.seq ([]:List Value).toArray } }:=I.D1 (its:=[]) (t':=s.toks) .nil (zero_le _)
 obtain⟨n,W,rY,turn⟩:=h s.heap.objs.size I.fresh
 dsimp only at rm rl ⊢
 generalize w7:({ s with heap:=s.heap.push { cls:=.type "list",data:=.seq ([]:List Value).toArray } }:Shared)=s3 at *
 have xh:s.heap.push { cls:=.type "list",data:=.seq ([]:List Value).toArray }=s3.heap:=by rw[←w7]
 have D5:s.heap.push { cls:=.type "list",dict:=none,data:=.seq ([]:List Value).toArray }=s3.heap:=xh
 rw[D5]at rm rl ⊢
 have mP:∀b o,s3.heap.get? b=some o→b≠s3.heap.objs.size:=fun b o e=>ne_of_lt (lt_size e)
 have mE:∀b o,s3.heap.get? b=some o→gO.get? b=some o:=fun b o e=>rl.extBut b o (mP b o e) (get?_push_of_some _ e)
 have wB:∀b o,s.heap.get? b=some o→s3.heap.get? b=some o:=fun b o e=>by rw[←xh];exact get?_push_of_some _ e
 have lY:gD 0 gO:=T.keep 0 _ _ st fun b _ o e=>mE b o (wB b o e)
 have DV:∀b∈b5,∃o,s3.heap.get? b=some o:=fun b aa=>by
  obtain⟨o,e,_⟩:=T.obj 0 _ st b aa
  exact⟨o,wB b o e⟩
 have q9:∀b,b≠X.env.locals→b∉X.bL→b∉gC X.stack:=fun b ay aG aa=>by
  rcases mem_cons.mp (cQ.v_ b aa) with z | z
  ·exact ay z
  ·exact aG z
 have ok:(gV X d2 scope cl s3.heap.objs.size s3 (upd H s.heap.objs.size (.lst [])) b5).Ok:=by
  refine⟨I.ok.mod,?_,I.ok.glob,I.ok.blt,le_refl _,fun y z c ay aG=>I.ok.inj y z c (B.sub y c ay) (B.sub z c aG),fun y cg=>B.has y cg,fun y c e _=>absurd (show false=true from e) Bool.false_ne_true,I.ok.hd,I.ok.frames,.inl rfl,fun b aa=>?_,cQ.bs,
   le_trans I.ok.lr cQ.e9,fun b o e aa=>?_,fun b aa=>q9 b (hf b aa).2.1 (hf b aa).2.2.1,cQ.stack,cQ.yZ⟩
  ·exact B.kind
  ·obtain⟨o,e⟩:=DV b aa
   exact⟨mP b o e,fun y c e=>(hf b aa).2.2.2.2.1 y c (B.sub y c e)⟩
  ·rcases (hf b aa).2.2.2.1 with z | z
   ·exact I.ok.nE b o e z
   ·exact absurd (lt_of_lt_of_le (lt_size (I.ok.bs b o e).1) z) (lt_irrefl _)
 have cellK:∀c v,s3.heap.IsCell c v→gO.IsCell c v:=fun c v ⟨o,aH,hd⟩=>⟨o,mE c o aH,hd⟩
 have mH:∀{ah:ao},(∀b∈b5,ah b=none)→∀b∈b5,mK (gV X d2 scope cl s3.heap.objs.size s3 (upd H s.heap.objs.size (.lst [])) b5) pins ah b:=fun aS b aa =>
  ⟨aS b aa,(ok.qm b aa).1,q9 b (hf b aa).2.1 (hf b aa).2.2.1,.inl aa,fun y c e=>(hf b aa).2.2.2.2.1 y c (B.sub y c e),(hf b aa).2.2.2.2.2⟩
 have kk:Inv (gV X d2 scope cl s3.heap.objs.size s3 (upd H s.heap.objs.size (.lst [])) b5) pins (none::pick σ fr) (upd H s.heap.objs.size (.lst [])) { s3 with heap:=gO }:=by
  refine⟨ok,rfl,cQ.bare,g0.kept mE,⟨_,rm,fun i y v ay aG ct=>?_⟩,fun y c e=>?_,cQ.fresh,fun y c e=>cQ.jz y c (B.sub y c e),fun p aI=>?_,cQ.bD.kept mE,?_⟩
  ·cases i with
   | zero=>cases (show some none=some (some v) from aG)
   | succ i =>
    have aG:(pick σ fr)[i]?=some (some v):=aG
    unfold pick at aG
    rw[getElem?_map]at aG
    cases pz:fr[i]? with
    | none=>rw[pz]at aG;cases aG
    | some j =>
     rw[pz]at aG
     have o5:(σ[j]?).getD none=some v:=Option.some.inj aG
     have GG:σ[j]?=some (some v):=by
      cases q:σ[j]? with
      | none=>rw[q]at o5;cases o5
      | some o =>
       rw[q]at o5
       have:o=some v:=o5
       rw[this]
     obtain⟨e7,fO,i1⟩:=B.wR i j y ay pz
     obtain⟨eW,_,Fw⟩:=cQ.loc
     obtain⟨u,eg,lk⟩:=Fw j y v e7 GG (.inr (.inl fO))
     refine⟨u,eg,.inr ⟨.inl i1,?_⟩⟩
     rcases lk with ⟨k,_⟩ | ⟨_,c,e,z⟩
     ·have i0:X.env.scope.names.lookup y=some .local:=k
      rw[fO]at i0
      cases i0
     ·obtain⟨gv,cV⟩:=B.has y (.inl i1)
      have:=B.sub y gv cV
      rw[e]at this
      cases this
      exact⟨_,cV,cellK _ _ z⟩
  ·obtain⟨v,z⟩:=cQ.cell y c (B.sub y c e)
   exact⟨v,cellK c v z⟩
  ·obtain⟨e,pf,ne,lB,d⟩:=cQ.pin p aI
   exact⟨mE _ _ e,pf,mP _ _ e,q9 _ ne lB,d⟩
  ·show (none::pick σ fr).length=d2.length
   rw[B.len,length_cons]
   unfold pick
   rw[length_map]
 have fin:∀{ah:ao} {bK:St} {aM:Shared},Inv (gV X d2 scope cl s3.heap.objs.size s3 (upd H s.heap.objs.size (.lst [])) b5) pins bK ah aM→Q (.ref s.heap.objs.size) ah→RR (.ref s.heap.objs.size) s3.heap.objs.size (.ok .next) aM:=fun {ah bK aM} J q=>by
  obtain⟨m,aS,_⟩:=J.loc
  refine FH _ _ ah aM m (cQ.DP (ch:=b5) J.os J.base J.bD J.bare fun b aa=>⟨(hf b aa).2.2.2.1,(hf b aa).2.1,(hf b aa).2.2.2.2.1,(hf b aa).2.2.2.2.2⟩) q aS J.free (ne_of_gt cQ.lt) (.inr cQ.e9) (fun y c e=>?_) fun p aI=>?_
  ·obtain⟨v,o,aH,_⟩:=cQ.cell y c e
   exact mP c o aH
  ·exact mP _ _ (cQ.pin p aI).1
 have loop:∀hT:Shared,hT={ s3 with heap:=gO }→codeAny (model X.prog X.w) X.A (.compLoop (.ListComp elt [⟨.Name x j_,iter,[],0⟩] scope pos) 0 (.ref it) (.ref s.heap.objs.size) (compEnvC scope cl s3.heap.objs.size X.env)) (RR (.ref s.heap.objs.size) s3.heap.objs.size) hT:=by
  rintro hT rfl
  refine TZ (fun m aM=>∃i ys rV ah,Inv (gV X d2 scope cl s3.heap.objs.size s3 (upd H s.heap.objs.size (.lst [])) b5) pins (rV::pick σ fr) ah aM∧gD i aM.heap∧(∀b∈b5,ah b=none)∧W i ys ah∧m=n - i) ?_ n ⟨0,[],none,_,kk,lY,fun b aa=>?_,rY,rfl⟩
  ·rintro m aM ⟨i,ys,rV,ah,gc,g7,xr,eb,rfl⟩
   rcases turn i ys ah eb with ⟨stop,q⟩ | ⟨go,rG,step⟩
   ·refine bS (T.done (gV X d2 scope cl s3.heap.objs.size s3 (upd H s.heap.objs.size (.lst [])) b5) rfl rfl rfl aj i pins aM _ ah (fun _ _=>False) gc (mH xr) g7 stop) fun r s1 ⟨aC,aY⟩=>?_
    subst aC
    exact fin aY q
   ·refine bS (T.item (gV X d2 scope cl s3.heap.objs.size s3 (upd H s.heap.objs.size (.lst [])) b5) rfl rfl rfl aj i pins aM _ ah (fun _ _=>False) gc (mH xr) g7 go) fun r s1 ⟨u,aC,dN⟩=>?_
    subst aC
    refine bS dN fun _ s5 ⟨v,d4,so,m3,xK,mM,xq⟩=>?_
    have xF:=so.pinned (mH xq) (T.obj _ _ mM)
    have xT:(relabel scope X.env).names.lookup x=some .local:=lookup_relabel_local B.loc
    refine bS (fj (X:=gV X d2 scope cl s3.heap.objs.size s3 (upd H s.heap.objs.size (.lst [])) b5) (i:=0) (x:=x) B.bl B.bg (.inl xT) (.inr xT) _ s5 _ d4 v u
     (fun bK kW=>bK=some v::pick σ fr∧kW=d4) xF m3 ⟨rfl,rfl⟩) fun _ je ⟨Gf,kW,yh,aJ,aN⟩=>?_
    subst aJ aN
    refine bS (he _ _ _ _ je _ _ _ yh (step v _ xK)) fun y e_ ⟨lu,fP,kj,bM,e1,hlen,rW⟩=>?_
    refine bS (jo _ e_ _ fP (.ref s.heap.objs.size) [lu] (.ref s.heap.objs.size) [y] (fun _ hi=>hi=upd fP s.heap.objs.size (.lst (ys++[lu]))) kj rfl (.cons bM .nil) ⟨_,ys,lu,rfl,rfl,e1,hlen,rfl⟩) fun _ ly ⟨_,hi,pG,_,pA⟩=>?_
    subst pA
    refine⟨n - (i+1),by omega,i+1,ys++[lu],some v,_,pG.vS,T.keep _ _ _ mM fun b aa o e=>(pG.pin (b,o) (mem_append_right _ (mem_append_right _ (sC aa e)))).1,fun b aa=>?_,rW,rfl⟩
    obtain⟨o,e,d⟩:=T.obj _ _ mM b aa
    exact (pG.pin (b,o) (mem_append_right _ (mem_append_right _ (sC aa e)))).2.1
  ·obtain⟨o,e,_⟩:=T.obj 0 _ st b aa
   rw[aA (ne_of_lt (lt_size e))]
   exact (hf b aa).1
 have cj:({ s with heap:=gO,toks:=s.toks+([]:List (Str × Value)).length }:Shared)={ s3 with heap:=gO }:=by rw[←w7];rfl
 rw[cj]
 exact codeAny_compStart_list (loop _ rfl) (T.self _ 0 _ _ _ lY (loop _ rfl))
section
variable {X:bE}{x y:Str}{j_ py pos zM:Pos}{elt iter:Expr}{scope:Scope}{cl:List (Str × Addr)}{d2:List Str}{fr:List Nat}{hp:TI}{b8:TE}
def XO (hp:TI) (fr:List Nat) (b8:TE):TE:=fun σ H Q=>hp σ H fun J H1=>∀acc,H1 acc=none→tV J b8 (pick σ fr) Q H1 acc
theorem y9 (fr:List Nat) (d2:List Str) (B:k8 X x fr d2 scope cl) (aj:X.calm=true) (aL:qH X (.Name x j_) iter hp) (he:∀C aM ah b5,b3 (gV X d2 scope cl C aM ah b5) elt b8) (a5:∀x,foldedSetIterable iter X.env x=pure x:=by intro _;rfl) :
  b3 X (.ListComp elt [⟨.Name x j_,iter,[],0⟩] scope pos) (XO hp fr b8):=by
 intro pins s σ H Q I h
 rw[eval_ListComp]
 refine wpAny_comprehension_free (use:=none) rfl a5 B.wL B.kind B.names (bS (aL pins s σ H _ I h) fun v s1 ay=>bS ay fun Ay s2 aG=>?_)
 obtain⟨it,b5,gD,J,au,e,cH,T,wQ,f2,aV⟩:=aG
 subst e
 refine U7 (RR:=fun acc C=>compPost (model X.prog X.w) X.A X.dF none (hk X pins σ Q) acc C) B aj cH T wQ f2 (fun C aM ah=>he C aM ah b5) aV ?_
 intro acc C ah aM m gc q aS h0 ay ct dN gQ
 refine⟨m,aS,fun h' lx=>⟨.ref acc,ah,gc.turned (t':=aM.toks) (fun b o aa e=>(lx.2 b aa).trans e) h0 ay ct dN gQ,rfl,q⟩⟩
end
inductive D where
 | int (i:Int)
 | str (x:Str)
 | tup (l:List D)
 | lst (l:List D)
mutual
def D.e9:D→Nat
 | .int _=>1
 | .str _=>1
 | .tup l=>1+e3 l
 | .lst l=>1+e3 l
def e3:List D→Nat
 | []=>0
 | d::r=>d.e9+e3 r
end
mutual
def Rep (H:ao):D→V→Prop
 | .int i,v=>v=.int i
 | .str x,v=>v=.str x
 | .tup l,v=>∃a xs,v=.ref a∧H a=some (.tup xs)∧bk H l xs
 | .lst l,v=>∃a xs,v=.ref a∧H a=some (.lst xs)∧bk H l xs
def bk (H:ao):List D→List V→Prop
 | [],xs=>xs=[]
 | d::r,xs=>∃x t,xs=x::t∧Rep H d x∧bk H r t
end
mutual
theorem Rep.mono {H ah:ao}(s:bI H ah):∀(d:D) (v:V),Rep H d v→Rep ah d v
 | .int _,_,h=>h
 | .str _,_,h=>h
 | .tup l,_,h=>by
  unfold Rep at h ⊢
  obtain⟨a,xs,e,q,r⟩:=h
  exact⟨a,xs,e,s _ _ q,bk.mono s l xs r⟩
 | .lst l,_,h=>by
  unfold Rep at h ⊢
  obtain⟨a,xs,e,q,r⟩:=h
  exact⟨a,xs,e,s _ _ q,bk.mono s l xs r⟩
theorem bk.mono {H ah:ao}(s:bI H ah):∀(l:List D) (xs:List V),bk H l xs→bk ah l xs
 | [],_,h=>h
 | d::r,_,h=>by
  unfold bk at h ⊢
  obtain⟨x,t,e,q,z⟩:=h
  exact⟨x,t,e,Rep.mono s d x q,bk.mono s r t z⟩
end
theorem D.WR:∀d:D,1≤d.e9
 | .int _=>by unfold D.e9;omega
 | .str _=>by unfold D.e9;omega
 | .tup _=>by unfold D.e9;omega
 | .lst _=>by unfold D.e9;omega
theorem mC:e3 []=0:=by unfold e3;rfl
theorem lN (d:D) (r:List D):e3 (d::r)=d.e9+e3 r:=by rw[e3]
theorem WQ (l:List D):(D.tup l).e9=1+e3 l:=by rw[D.e9]
theorem Dd (l:List D):(D.lst l).e9=1+e3 l:=by rw[D.e9]
theorem JQ (i:Int):(D.int i).e9=1:=by rw[D.e9]
theorem JP (x:Str):(D.str x).e9=1:=by rw[D.e9]
theorem yx:∀a b:List D,e3 (a++b)=e3 a+e3 b
 | [],b=>by rw[List.nil_append,mC,zero_add]
 | d::r,b=>by rw[List.cons_append,lN,lN,yx r b];omega
theorem C6:∀a:List D,a.length≤e3 a
 | []=>by rw[mC];exact le_refl _
 | d::r=>by
  have ay:=C6 r
  have aG:=d.WR
  rw[lN,length_cons]
  omega
theorem bk.nil {H:ao}:bk H [] []:=by unfold bk;rfl
theorem bk.cons {H:ao}{d:D}{r:List D}{x:V}{t:List V}(h:Rep H d x) (q:bk H r t):bk H (d::r) (x::t):=by
 unfold bk
 exact⟨x,t,rfl,h,q⟩
theorem bk.inv {H:ao}{d:D}{r:List D}{xs:List V}(h:bk H (d::r) xs):∃x t,xs=x::t∧Rep H d x∧bk H r t:=by
 unfold bk at h
 exact h
theorem bk.lX {H:ao}{xs:List V}(h:bk H [] xs):xs=[]:=by
 unfold bk at h
 exact h
theorem bk.append {H:ao}:∀{a b:List D}{xs ys:List V},bk H a xs→bk H b ys→bk H (a++b) (xs++ys)
 | [],_,_,_,h,q=>by rw[h.lX];exact q
 | d::r,_,_,_,h,q=>by
  obtain⟨x,t,rfl,ay,aG⟩:=h.inv
  exact .cons ay (bk.append aG q)
theorem bk.snoc {H:ao}:∀{a:List D}{d:D}{xs:List V},bk H (a++[d]) xs→∃ys x,xs=ys++[x]∧bk H a ys∧Rep H d x
 | [],d,xs,h=>by
  obtain⟨x,t,rfl,ay,aG⟩:=bk.inv (r:=[]) h
  rw[aG.lX]
  exact⟨[],x,rfl,.nil,ay⟩
 | c::r,d,xs,h=>by
  obtain⟨x,t,rfl,ay,aG⟩:=bk.inv (r:=r++[d]) h
  obtain⟨ys,z,rfl,ct,dN⟩:=bk.snoc aG
  exact⟨x::ys,z,rfl,.cons ay ct,dN⟩
theorem bk.length {H:ao}:∀{a:List D}{xs:List V},bk H a xs→xs.length=a.length
 | [],_,h=>by rw[h.lX];rfl
 | d::r,_,h=>by
  obtain⟨x,t,rfl,ay,aG⟩:=h.inv
  rw[length_cons,length_cons,aG.length]
theorem Rep.int_inv {H:ao}{i:Int}{v:V}(h:Rep H (.int i) v):v=.int i:=by unfold Rep at h;exact h
theorem Rep.str_inv {H:ao}{i:Str}{v:V}(h:Rep H (.str i) v):v=.str i:=by unfold Rep at h;exact h
theorem Rep.qU {H:ao}{l:List D}{v:V}(h:Rep H (.tup l) v):∃a xs,v=.ref a∧H a=some (.tup xs)∧bk H l xs:=by unfold Rep at h;exact h
theorem Rep.lst_inv {H:ao}{l:List D}{v:V}(h:Rep H (.lst l) v):∃a xs,v=.ref a∧H a=some (.lst xs)∧bk H l xs:=by unfold Rep at h;exact h
theorem Rep.gS {H:ao}{l:List D}{a:Addr}{xs:List V}(h:H a=some (.tup xs)) (r:bk H l xs):Rep H (.tup l) (.ref a):=by unfold Rep;exact⟨a,xs,rfl,h,r⟩
theorem Rep.zF {H:ao}{l:List D}{a:Addr}{xs:List V}(h:H a=some (.lst xs)) (r:bk H l xs):Rep H (.lst l) (.ref a):=by unfold Rep;exact⟨a,xs,rfl,h,r⟩
theorem Rep.ofInt {H:ao}{i:Int}:Rep H (.int i) (.int i):=by unfold Rep;rfl
theorem Rep.ofStr {H:ao}{i:Str}:Rep H (.str i) (.str i):=by unfold Rep;rfl
def el (H ah:ao):Prop:=∀b xs,H b=some (.tup xs)→ah b=some (.tup xs)
theorem bI.et {H ah:ao}(s:bI H ah):el H ah:=fun b xs h=>s b _ h
theorem qR {H:ao}{l:Addr}{xs:List V}{o:fh}(h:H l=some (.lst xs)):el H (upd H l o):=fun b ys q=>by
 rw[aA (dK q h (fun z=>nomatch z))]
 exact q
theorem bP {H:ao}{p:Addr}(h:H p=none) (o:fh):bI H (upd H p o):=fun b u q=>by
 rw[aA (cD q h)]
 exact q
theorem bI.kr {H ah:ao}{l:Addr}{o:fh}(s:bI H ah) (h:H l=none):bI H (upd ah l o):=fun b u q=>by
 rw[aA (cD q h)]
 exact s b u q
theorem DA {α:Type}{xs:List α}{k:Int}(h0:0≤k) (ay:k<xs.length):∃v,nZ xs k=some v∧xs[k.toNat]?=some v:=by
 have a8:k.toNat<xs.length:=by omega
 have e:k=((k.toNat:Nat):Int):=by omega
 have q:xs[k.toNat]?=some xs[k.toNat]:=getElem?_eq_getElem a8
 have z:=k4 q
 rw[←e]at z
 exact⟨_,z,q⟩
theorem Xq {n:Nat}{k:Int}(h0:0≤k) (ay:k<n):nM n k=some k.toNat:=by
 unfold nM
 rw[if_pos h0,if_pos ay]
theorem HG {n d:Nat}{k:Int}(h0:0≤k) (ay:k≤n):gi.dO n d (some k)=k.toNat:=by
 have e:k=((k.toNat:Nat):Int):=by omega
 rw[e,gi.Jr,←e]
 omega
theorem Ui {xs:List V}{k:Int}(h0:0≤k) (ay:k≤xs.length):eS xs none (some k)=xs.take k.toNat:=by
 unfold eS
 rw[gi.CB,HG h0 ay,drop_zero,Nat.sub_zero]
theorem Uh {xs:List V}{k:Int}(h0:0≤k) (ay:k≤xs.length):eS xs (some k) none=xs.drop k.toNat:=by
 unfold eS
 rw[gi.CB,HG h0 ay]
 exact List.take_of_length_le (by rw[length_drop];exact le_refl _)
theorem Cc {ns:List Int}{i:Nat}{y:V}(h:(ns.map V.int)[i]?=some y):∃z,y=.int z∧ns[i]?=some z:=by
 rw[getElem?_map]at h
 cases e:ns[i]? with
 | none=>rw[e]at h;cases h
 | some z=>rw[e]at h;exact⟨z,(Option.some.inj h).symm,rfl⟩
def xE (K:PySem.W.Frag) (a:Addr):ki :=
 ⟨fun i H=>∃xs x,aR K H a xs∧xs[i]?=some x,fun i H x ah=>∃p v,H p=none∧x=.ref p∧ah=upd H p (.tup [.int i,v])∧∀xs,aR K H a xs→xs[i]?=some v,fun i H=>∃xs,aR K H a xs∧xs.length≤i⟩
theorem Ur {P:Program}{w:World}{K:PySem.W.Frag}{aE:List Expr}{k1:Nat}{Gk:Pos}(a e it:Addr) (kF:e≠it) :
  Turn P w K (.Tuple aE k1 Gk) (xE K a) [e,it] e (fun i h=>∃old,IsEnum h e it ((i:Nat):Int) old∧h.IsListIter it a i) where
 mem:=by simp
 obj:=fun i h ⟨old,he,hit⟩ b aa=>by
  rcases mem_cons.mp aa with z | z
  ·subst z
   exact⟨_,he,fun v z=>by
    have iv:Data.fields _=Data.cell v:=z
    cases iv⟩
  ·have z:=mem_singleton.mp z
   subst z
   obtain⟨o,e,c,d⟩:=hit
   exact⟨o,e,fun v z=>by rw[d]at z;cases z⟩
 keep:=fun i h h' ⟨old,he,hit⟩ k=>⟨old,k e (by simp) _ he,hit.at fun o x=>k it (by simp) o x⟩
 item:=by
  intro X gs hw hF aj i pins s σ H E I hf st cA
  subst gs hw hF
  obtain⟨old,he,hit⟩:=st
  obtain⟨xs,x,bN,bg⟩:=cA
  obtain⟨its,bp,p,hz⟩:=I.list bN
  obtain⟨u,a7,eg⟩:=bp.get bg
  have vh:=hf e (by simp)
  have mw:=hf it (by simp)
  have Ob:e<s.heap.objs.size:=lt_size he
  refine wpAny_pyNext_enum_item he hit p.isList (x:=u) (by simpa using a7) kF fun gO qg ada ahL al7 ah9=>?_
  refine⟨_,rfl,wpAny_letOwnedTupleGo_enum qg fun ml aii w6=>?_⟩
  replace w6:Heap.SameBut e gO ml:=w6
  have k2:∀b o,b≠e→b≠it→s.heap.get? b=some o→ml.get? b=some o:=fun b o ay aG q=>(w6.2 b ay).trans (ah9 b o ay aG q)
  have en:ml.get? s.heap.objs.size=some { cls:=.type "tuple",data:=.seq #[.int i s.toks,u] }:=(w6.2 _ (ne_of_gt Ob)).trans ahL
  have l2:∀b,b∉[e,it]→b≠e∧b≠it:=fun b h=>⟨fun z=>h (by simp[z]),fun z=>h (by simp[z])⟩
  have Ac:∀b o,H b=some o→b≠e∧b≠it:=fun b o q=>⟨cD q vh.1,cD q mw.1⟩
  have nQ:H s.heap.objs.size=none:=I.fresh
  have r_:((i+1:Nat):Int)=(i:Int)+1:=by omega
  refine⟨.ref s.heap.objs.size,upd H s.heap.objs.size (.tup [.int i,x]),?_,rfl,⟨_,x,nQ,rfl,rfl,fun ys cg=>by rw[I.CF cg bN];exact bg⟩,⟨u,by rw[r_];exact aii,ada.extBut w6.extBut (Ne.symm kF)⟩,fun b aa=>?_⟩
  ·refine Inv.step (s:=s) (h':=ml) (t':=s.toks+1) (g':=s.gens) (d':=s.drawn) (ch:=[e,it]) I (fun b aa=>?_) (fun b o _ _ h q _=>k2 b o (l2 b h).1 (l2 b h).2 q) (fun b o _ _ h q _=>⟨o.slots,k2 b o (l2 b h).1 (l2 b h).2 q⟩)
    (fun b o _ q n=>by rw[aA (ne_of_lt (lt_size q))];exact n) (fun b o h q=>⟨o,k2 b o (l2 b h).1 (l2 b h).2 q⟩) (fun b ys q=>by rw[aA (cD q nQ)];exact q) (fun b o n3 q=>by rw[aA (cD q nQ)];exact q)
    (fun b ps q=>⟨#[],by rw[aA (cD q nQ),q];simp⟩) (fun m hm=>?_) (fun b bR q=>?_) I.bare
   ·rcases mem_cons.mp aa with z | z
    ·rw[z];exact⟨vh.2.2.2.1,vh.2.1,vh.2.2.2.2.1,vh.2.2.2.2.2⟩
    ·rw[mem_singleton.mp z];exact⟨mw.2.2.2.1,mw.2.1,mw.2.2.2.2.1,mw.2.2.2.2.2⟩
   ·obtain⟨o,xu,b7,aH,r⟩:=hm
    exact⟨o,xu,b7,k2 _ o (Ne.symm vh.2.1) (Ne.symm mw.2.1) aH,r⟩
   ·by_cases aa:b=s.heap.objs.size
    ·subst aa
     rw[aQ]at q
     cases q
     exact⟨by show 2≤sizeLine;decide,[.int i s.toks,u],.cons ⟨_,rfl⟩ (.cons eg .nil),_,en,rfl,_,rfl⟩
    ·rw[aA aa]at q
     refine (I.bD b bR q).jA (fun c v aj r=>?_) (fun c r=>by rw[aA (cD r nQ)];exact r) (fun c ys r=>by rw[aA (cD r nQ)];exact r)
     rcases aj with z | z
     ·rw[z]at r ⊢
      exact k2 b v (Ac b bR q).1 (Ac b bR q).2 r
     ·exact k2 c v (Ac c _ z).1 (Ac c _ z).2 r
  ·have uK:b<s.heap.objs.size:=by
    rcases mem_cons.mp aa with z | z
    ·rw[z];exact Ob
    ·rw[mem_singleton.mp z]
     obtain⟨o,q,_⟩:=hit
     exact lt_size q
   rw[aA (ne_of_lt uK)]
   exact (hf b aa).1
 done:=by
  intro X gs hw hF aj i pins s σ H E I hf st cA
  subst gs hw hF
  obtain⟨old,he,hit⟩:=st
  obtain⟨xs,bN,bg⟩:=cA
  obtain⟨its,bp,p,hz⟩:=I.list bN
  obtain⟨f0,f1,f2,eL,f4,e6⟩:=hf it (by simp)
  have az:=bp.length
  exact wpAny_pyNext_enum_end (I.ok.hd aj) he hit p.isList (by simp;omega) fun h' dT=>⟨rfl,I.turned (t':=s.toks) (fun b o aa e=>dT b o aa e) f0 f1 eL f4 e6⟩
 self:=fun _ _ _ _ _ st h=>by
  obtain⟨old,he,_⟩:=st
  exact wpAny_pyIter_enum he h
section
variable {X:bE}
def Ye (K:PySem.W.Frag) (c1:h5):TI:=fun σ H R=>c1 σ H fun vs H1=>∃a,vs=[.ref a]∧(∃xs,aR K H1 a xs)∧R (xE K a) H1
theorem Jx {aE:List Expr}{k1:Nat}{Gk:Pos}{l:Expr}{c1:h5}{p pos:Pos}(cA:kX X "enumerate") (hm:X.ai "enumerate"=none) (aX:lG X [l] c1) (a5:starEach [l] X.env=[(false,eval l X.env)]:=by rfl) :
  qH X (.Tuple aE k1 Gk) (.Call (.Name "enumerate" p) [l] [] pos) (Ye X.K c1):=by
 intro pins s σ H R I h
 refine Call_ (pV I cA hm boot_enumerate (PyProof.Rows.callWith_type1 (bS (aX pos pins s σ H _ I h) fun us s1 ⟨vs,H1,aY,a4,bu⟩=>?_) a5 rfl))
 obtain⟨a,e,⟨xs,bN⟩,q⟩:=bu
 subst e
 cases a4 with
 | cons r pd =>
  cases pd
  cases r
  obtain⟨its,bp,p,hz⟩:=aY.list bN
  refine call_enumerate_list p.isList fun h' he hit hsz a8=>?_
  refine wpAny_pyIter_enum he ?_
  refine⟨s1.heap.objs.size+1,[s1.heap.objs.size+1,s1.heap.objs.size],_,_,H1,rfl,aY.kept (t':=s1.toks) a8,Ur a _ _ (Nat.succ_ne_self _),⟨.none,he,hit⟩,fun b aa=>?_,q⟩
  rcases mem_cons.mp aa with z | z
  ·rw[z]
   exact aY.rr (le_succ _) (aY.bD.fresh (le_succ _))
  ·rw[mem_singleton.mp z]
   exact aY.rr (le_refl _) (aY.bD.fresh (le_refl _))
end
theorem Jc {K:PySem.W.Frag}{a:Addr}{xs:List V}{g:jU}{dG:fU}{D:Ends}{σ:St}{H:ao}(Pv:Nat→St→ao→Prop) (h0:Pv 0 σ H) (az:∀i σ H,i≤xs.length→Pv i σ H→aR K H a xs)
  (a5:∀i x σ H p,xs[i]?=some x→Pv i σ H→H p=none→g (.ref p) σ (upd H p (.tup [.int i,x])) fun g9 au=>dG { D with c4:=Pv (i+1),ff:=Pv (i+1),hv:=D.c4 } g9 au) (hd:∀σ H,Pv xs.length σ H→D.c4 σ H) :
  ∃W:Nat→Nat→St→ao→Prop,(∃m,W 0 m σ H)∧∀i m σ H,W i m σ H →
   ((xE K a).stop i H∧D.c4 σ H)∨((xE K a).go i H∧∃N:St→ao→Prop,(∀bK ah,N bK ah→∃fS,fS<m∧W (i+1) fS bK ah)∧∀x ah,(xE K a).oV i H x ah→g x σ ah fun g9 au=>dG { D with c4:=N,ff:=N,hv:=D.c4 } g9 au):=by
 refine⟨fun i m σ H=>m=xs.length - i∧i≤xs.length∧Pv i σ H,⟨xs.length,by simp,zero_le _,h0⟩,?_⟩
 rintro i m σ H ⟨rfl,aL,p⟩
 have q:=az i σ H aL p
 by_cases dw:i<xs.length
 ·refine .inr ⟨⟨xs,xs[i],q,by simp[dw]⟩,Pv (i+1),fun bK ah ec=>⟨xs.length - (i+1),by omega,rfl,dw,ec⟩,fun x ah y=>?_⟩
  obtain⟨pr,v,n,rfl,rfl,y⟩:=y
  exact a5 i v σ _ pr (y xs q) p n
 ·have e:i=xs.length:=by omega
  subst e
  exact .inl ⟨⟨xs,q,le_refl _⟩,hd σ H p⟩
theorem TF:typeLookup (.type "list") "keys"=pure none:=by rw[typeLookup_type,builtinLookup_eq_fast];kernel_rfl
theorem Te {prog:Program}{w:World}{A:Around}{E:Value→Shared→Prop}{s:Shared}{a:Addr}{xs:Array Value}{k:Nat}{Q:Option Value→Shared→Prop}
  (bg:s.heap.get? a=some { cls:=.type "list",data:=.seq xs k }) (r6:A.handled=none)
  (h:∀h' bG,(∀b o,s.heap.get? b=some o→h'.get? b=some o)→Q none { s with heap:=h',toks:=bG }) :
  wpAny (model prog w) A (getAttr? (.ref a) "keys") Q E s:=by
 obtain⟨aI,g,d,bG,os⟩:=s
 have iD:∀Mr,(⟨aI,g,d,Mr,os⟩:Shared).TypeIs (.ref a) "list":=fun _=>⟨_,bg,rfl⟩
 have f1:=sub_AttributeError
 have eL:=F.slot_list_getattribute.lookup
 have f4:=F.slot_list_getattribute.bind (.ref a)
 have e6:=am_list_getattr_none
 unfold getAttr? getAttrBy? getAttrBy
 repeat (any_goals (first | assumption | exact iD _ | ((with_reducible show wpAny _ _ (call (Value.builtin "list.__getattribute__") _ _) _ _ _);refine call_meets F.slot_list_getattribute (iD _) am_entry_list_getattribute (F.args_list_getattribute_2 _ _) (meets_getattribute_miss_list a xs k #[] "keys" _ TF (by decide +kernel) (by size_fits)) ⟨bg,r6,fun h' Mr e NY=>?_⟩) | wp_step))
 obtain⟨t',n3,he⟩:=NY.there
 show wpAny _ _ (getattributeRaised _ _ _ _ _ _ _) _ _ _
 unfold getattributeRaised
 repeat (any_goals (first | assumption | wp_step))
 exact h _ _ NY.of.keeps
theorem yl:plainId "dict.update.loop"=true:=by decide +kernel
theorem Hl:entryFor table "dict.update.loop"=some Builtin.«dict.update.loop» := entryFor_of_tree (by kernel_rfl)
def zu (H:ao) (x:V) (cz:Key × V):Prop:=∃a,x=.ref a∧H a=some (.tup [d9 cz.1,cz.2])
def putAll (m:List (Key × V)) (kvs:List (Key × V)):List (Key × V):=kvs.foldl (fun m cz=>putK m cz.1 cz.2) m
theorem U_ {H:ao}{a:Addr}{o:fh}(h:H a=some o):upd H a o=H:=by
 funext b
 unfold upd
 split
 ·rename_i e;rw[e,h]
 ·rfl
theorem TN {X:bE}{pins:List (Addr × Obj)}{σ:St}{A:Around}{R:Result→Shared→Prop}{d p it:Addr}{ys:List V}{kvs:List (Key × V)}(dD:A.handled=none):∀(n i:Nat) (s:Shared) (H:ao) (m:List (Key × V)),
  ys.length - i=n→i≤ys.length→Inv X pins σ H s→H d=some (.bQ m)→H p=some (.lst ys)→(∀(j:Nat) (x:V),ys[j]?=some x→∃cz,kvs[j]?=some cz∧zu H x cz)→kvs.length=ys.length→m.length+(ys.length - i)≤sizeLine →
  s.heap.IsListIter it p i→mK X pins H it→(∀aM,Inv X pins σ (upd H d (.bQ (putAll m (kvs.drop i)))) aM→R (.ok (.ret .none)) aM) →
  wpAny (model X.prog X.w) A.in1 (Builtin.«dict.update.loop» ⟨[.ref d,.ref it,rawInt i,.none],[]⟩)
   (fun fin aM=>match fin with | .done f=>R (.ok f) aM | .again gv=>gv.quiet=true∧codeAny (model X.prog X.w) A gv R aM) (fun e aM=>R (.error e) aM) s:=by
 intro n
 induction n with
 | zero =>
  intro i s H m aS aL I hd aI gs az hz st hf q
  obtain⟨its,bp,pl,_⟩:=I.list (aR.of aI)
  have hlen:=bp.length
  show wpAny _ _ (pyNext (.ref it) >>= _) _ _ s
  refine wpAny_bind (wpAny_pyNext_list_end dD st pl.isList (by simp;omega) fun h' dT=>?_)
  obtain⟨f0,f1,f2,eL,f4,e6⟩:=hf
  have aY:Inv X pins σ H { s with heap:=h' }:=I.turned (t':=s.toks) (fun b o aa e=>dT b o aa e) f0 f1 eL f4 e6
  have e0:upd H d (.bQ (putAll m (kvs.drop i)))=H:=by
   rw[List.drop_eq_nil_of_le (by omega)]
   exact U_ hd
  show wpAny _ _ (Builtin.Dict.addKeywords d [] >>= _) _ _ _
  exact wpAny_bind (wpAny_pure (wpAny_pure (q _ (by rw[e0];exact aY))))
 | succ n c6 =>
  intro i s H m aS aL I hd aI gs az hz st hf q
  obtain⟨its,bp,pl,_⟩:=I.list (aR.of aI)
  have hlen:=bp.length
  have dw:i<ys.length:=by omega
  obtain⟨cz,aia,a,aP,aX⟩:=gs i ys[i] (getElem?_eq_getElem dw)
  obtain⟨u,a7,eg⟩:=bp.get (getElem?_eq_getElem dw)
  rw[aP]at eg
  cases eg
  show wpAny _ _ (pyNext (.ref it) >>= _) _ _ s
  refine wpAny_bind (wpAny_pyNext_list_item st pl.isList (x:=.ref a) (by simpa using a7) fun h' g7 lx=>?_)
  obtain⟨f0,f1,f2,eL,f4,e6⟩:=hf
  have aY:Inv X pins σ H { s with heap:=h' }:=I.turned (t':=s.toks) (fun b o aa e=>(lx.2 b aa).trans e) f0 f1 eL f4 e6
  obtain⟨iO,bH,⟨o,aH,aj,dC,Ln⟩,_⟩:=aY.tuple (aF.of aX)
  obtain⟨cl,dd,Su,dc⟩:=o
  simp only at aj Ln
  subst aj Ln
  have iD:(⟨h',s.gens,s.drawn,s.toks,s.os⟩:Shared).TypeIs (.ref a) "tuple":=⟨_,aH,rfl⟩
  show wpAny _ _ (holding [.ref a] _ >>= _) _ _ _
  refine wpAny_bind (wpAny_holding (wpAny_bind (wpAny_tryCatch ?_)))
  unfold Builtin.Dict.pairItems
  refine wpAny_bind (wpAny_typeOf iD ?_)
  rw[if_pos (by decide)]
  refine wpAny_bind (wpAny_seqItems aH rfl (wpAny_pure ?_))
  obtain⟨R2,R1,rfl,Gm,afZ⟩:=bH.two
  show wpAny _ _ (holding [R2,R1] (dictSet d R2 R1)) _ _ _
  refine wpAny_holding ?_
  obtain⟨z,qh,vs,rel,j7⟩:=tU aY.bD hd
  have amb:(putK m cz.1 cz.2).length≤m.length+1:=pL m cz.1 cz.2
  refine wpAny_dictSet_pairs (knd:=hy X.prog X.w) (k:=cz.1) (nD Gm) j7 (fun aG OF j3=>?_) (by rw[←rel.length];exact z)
  have cH:Inv X pins σ (upd H d (.bQ (putK m cz.1 cz.2))) { s with heap:=aG,toks:=s.toks+1 } :=
   s6 (s:={ s with heap:=h' }) aY (by rw[hd];exact True.intro) j3 (let ⟨q,_,_,bN,_⟩:=OF;⟨q,bN⟩) (wo (by omega) qh (rel.put cz.1 afZ) OF)
  have agz:p≠d:=dK aI hd (fun z=>nomatch z)
  have MG:it≠d:=(cD hd f0).symm
  have rL:((i:Int)+1)=((i+1:Nat):Int):=by omega
  rw[rL]
  refine wpAny_pure ⟨plainId_quiet yl _,codeAny_builtin Hl ?_⟩
  rw[Around.under_plainId yl _]
  refine c6 (i+1) _ _ (putK m cz.1 cz.2) (by omega) (by omega) cH aQ (by rw[aA agz];exact aI) (fun j x bg=>?_) az (by omega) (g7.extBut j3.extBut MG) ⟨by rw[aA MG];exact f0,f1,f2,eL,f4,e6⟩ fun aM gc=>q aM ?_
  ·obtain⟨ahn,ay,b,aG,ct⟩:=gs j x bg
   exact⟨ahn,ay,b,aG,by rw[aA (dK ct hd (fun z=>nomatch z))];exact ct⟩
  ·have aJ:kvs.drop i=cz::kvs.drop (i+1):=by
    obtain⟨a8,e⟩:=List.getElem?_eq_some_iff.mp aia
    rw[←e]
    exact List.drop_eq_getElem_cons a8
   rw[qT]at gc
   rw[aJ]
   exact gc
def W3:List V→ao→cC→Prop:=fun xs H Q=>∃p ys kvs,xs=[.ref p]∧H p=some (.lst ys)∧(∀(j:Nat) (x:V),ys[j]?=some x→∃cz,kvs[j]?=some cz∧zu H x cz)∧kvs.length=ys.length∧ys.length≤1000 ∧
 ∀d,H d=none→Q (.ref d) (upd H d (.bQ (putAll [] kvs)))
theorem Uo {X:bE}(dD:X.A.handled=none):mG X (.type "dict") W3:=by
 intro pins s σ H xs us Q I bp h
 obtain⟨p,ys,kvs,rfl,aI,gs,az,hz,q⟩:=h
 obtain⟨u,rfl,eg⟩:=bp.one
 cases eg
 refine callType_codes (Q₁:=fun obj c5=>obj=.ref s.heap.objs.size∧c5={ s with heap:=s.heap.push { cls:=.type "dict",data:=.dict #[] } }) F.kt_called_dict (F.kt_typeCall_dict_1 _) F.entry_dict_init (kt_code_dict_new _ ⟨rfl,rfl⟩) ?_
 rintro obj c5 ⟨rfl,rfl⟩
 have aY:Inv X pins σ (upd H s.heap.objs.size (.bQ [])) { s with heap:=s.heap.push { cls:=.type "dict",data:=.dict #[] } } :=
  I.laid (a:=s.heap.objs.size) (o:=.bQ []) (t':=s.toks) (fun _ _ q=>get?_push_of_some _ q) (le_refl _) (CJ s.heap I.big)
 have fr:H s.heap.objs.size=none:=I.fresh
 have np:p≠s.heap.objs.size:=cD aI fr
 have ro:(s.heap.push { cls:=.type "dict",data:=.dict #[] }).DictOf (hy X.prog X.w) s.heap.objs.size []:=Heap.DictOf.new s.heap
 refine⟨ro.typeIs,F.args_dict_init_2 _ _,?_⟩
 have Fq:(upd H s.heap.objs.size (.bQ [])) p=some (.lst ys):=by rw[aA np];exact aI
 obtain⟨_,its,pf,n7,e0,Sp⟩:=aY.p4 Fq
 unfold Builtin.«dict.__init__»
 refine wpAny_bind ?_
 unfold Builtin.Dict.selfAndRest
 refine wpAny_bind (wpAny_notOrdered_dict ro.typeIs ?_)
 show wpAny _ _ (pure (s.heap.objs.size,[Value.ref p])) _ _ _
 refine wpAny_pure ?_
 show wpAny _ _ (Builtin.Dict.updateFrom "dict.__init__" s.heap.objs.size (.ref p) [] .none) _ _ _
 unfold Builtin.Dict.updateFrom
 refine wpAny_bind (wpAny_typeOf (T:="list") ⟨_,Sp,rfl⟩ ?_)
 rw[if_pos (by decide)]
 refine wpAny_bind (Te Sp dD fun h' bG qz=>?_)
 have cH:Inv X pins σ (upd H s.heap.objs.size (.bQ [])) { s with heap:=h',toks:=bG }:=aY.kept (t':=bG) qz
 obtain⟨iO,bH,pl,_⟩:=cH.list (aR.of Fq)
 show wpAny _ _ (rule _ >>= fun _=>pyIter (.ref p) >>= _) _ _ _
 refine wpAny_bind (wpAny_rule (wpAny_bind (wpAny_pyIter_list pl.isList ?_)))
 refine wpAny_pure ⟨plainId_quiet yl _,codeAny_builtin Hl ?_⟩
 rw[Around.under_plainId yl _]
 have cQ:=cH.kept (t':=bG) (h':=h'.push { cls:=.type "list_iterator",data:=.fields #[.ref p,.int 0 0] }) fun b o e=>get?_push_of_some _ e
 refine TN (A:=X.A.in1) (it:=h'.objs.size) (ys:=ys) (kvs:=kvs) (p:=p) dD ys.length 0 _ _ [] rfl (zero_le _) cQ aQ Fq (fun j x bg=>?_) az (by rw[length_nil,zero_add];exact le_of_lt (Uw hz)) ⟨_,get?_push_size _ rfl,rfl,rfl⟩ (cH.rr (le_refl _) (cH.bD.fresh (le_refl _))) fun aM gc=>?_
 ·obtain⟨cz,ay,a,aG,ct⟩:=gs j x bg
  exact⟨cz,ay,a,aG,by rw[aA (cD ct fr)];exact ct⟩
 ·rw[qT,drop_zero]at gc
  exact⟨rfl,.ref s.heap.objs.size,_,gc,rfl,q _ fr⟩
def gU {α:Type}(R:α→V→Prop) (l:List α) (xs:List V):Prop:=l.length=xs.length∧∀(i:Nat) (a:α) (x:V),l[i]?=some a→xs[i]?=some x→R a x
section
variable {α:Type}{R SP:α→V→Prop}{l:List α}{xs:List V}
theorem gU.nil:gU R [] []:=⟨rfl,fun i a x h _=>by simp at h⟩
theorem gU.get (h:gU R l xs) {i:Nat}{x:V}(e:xs[i]?=some x):∃a,l[i]?=some a∧R a x:=by
 have aL:i<xs.length:=(List.getElem?_eq_some_iff.mp e).1
 have az:i<l.length:=by rw[h.1];exact aL
 exact⟨l[i],getElem?_eq_getElem az,h.2 i _ x (getElem?_eq_getElem az) e⟩
theorem gU.mono (h:gU R l xs) (f:∀a x,R a x→SP a x):gU SP l xs:=⟨h.1,fun i a x ay aG=>f a x (h.2 i a x ay aG)⟩
theorem gU.snoc {a:α}{x:V}(h:gU R l xs) (q:R a x):gU R (l++[a]) (xs++[x]):=by
 refine⟨by rw[length_append,length_append,h.1];rfl,fun i b y ay aG=>?_⟩
 by_cases aL:i<l.length
 ·rw[getElem?_append_left aL]at ay
  rw[getElem?_append_left (by rw[←h.1];exact aL)]at aG
  exact h.2 i b y ay aG
 ·rw[getElem?_append_right (by omega)]at ay
  have bg:xs.length≤i:=by rw[←h.1];omega
  rw[getElem?_append_right bg,←h.1]at aG
  cases z:i - l.length with
  | zero =>
   rw[z]at ay aG
   have aJ:a=b:=Option.some.inj ay
   have aN:x=y:=Option.some.inj aG
   rw[←aJ,←aN]
   exact q
  | succ n=>rw[z]at ay;simp at ay
theorem gU.drop (h:gU R l xs) (n:Nat):gU R (l.drop n) (xs.drop n):=by
 refine⟨by rw[length_drop,length_drop,h.1],fun i a x ay aG=>?_⟩
 rw[List.getElem?_drop]at ay aG
 exact h.2 _ a x ay aG
end
theorem qN (ns:List Int) (j:Nat) (z:Int):(ns.map V.int).set j (.int z)=(ns.set j z).map V.int:=by rw[List.map_set]
theorem yu {ns:List Int}{i:Nat}{z:Int}(h:ns[i]?=some z):(ns.map V.int)[i]?=some (.int z):=by rw[getElem?_map,h];rfl
theorem ku {ns:List Int}{k:Int}(h0:0≤k) (ay:k<(ns.length:Int)):∃z,ns[k.toNat]?=some z∧nZ (ns.map V.int) k=some (.int z):=by
 obtain⟨v,aJ,aN⟩:=DA (xs:=ns.map V.int) h0 (by rw[length_map];exact ay)
 obtain⟨z,rfl,b2⟩:=Cc aN
 exact⟨z,b2,aJ⟩
theorem II (ns:List Int):(ns.map V.int).all oK=true:=by
 rw[List.all_eq_true]
 intro v br
 obtain⟨z,_,rfl⟩:=mem_map.mp br
 rfl
theorem VS (d:Int) (ns:List Int):hQ (.int d) (ns.map V.int)=decide (d∈ns):=by
 unfold hQ
 induction ns with
 | nil=>rfl
 | cons n r c6 =>
  rw[map_cons,any_cons,c6]
  have e:o8 (.int n) (.int d)=(n == d):=rfl
  rw[e]
  by_cases h:n=d
  ·subst h
   simp
  ·have h':¬d=n:=fun z=>h z.symm
   simp[h,h']
theorem yr {env:Env}{fv y:Str}:∀{names:List (Str × NameKind)}{k:NameKind},(∀z∈names,z.2≠.cell)→(∀z∈names,z.2=.free→z.1=fv) →
  (names.map fun (n,k)=>if (k == NameKind.free && env.scope.kind == .function && env.kindOf n == some .cell) then (n,NameKind.cell) else (n,k)).lookup y=some k→(k=.cell∨k=.free)→y=fv
 | [],_,_,_,h,_=>by simp at h
 | (n,k0)::r,k,ay,aG,h,a8=>by
  rw[map_cons,lookup_cons]at h
  have ah4:=ay (n,k0) mem_cons_self
  have Oa:=aG (n,k0) mem_cons_self
  by_cases aj:(k0 == NameKind.free && env.scope.kind == .function && env.kindOf n == some .cell)=true
  ·simp only[aj,if_true]at h
   cases e:y == n with
   | true =>
    have:k0=.free:=by
     rw[and_eq_true,and_eq_true]at aj
     exact beq_iff_eq.mp aj.1.1
    rw[beq_iff_eq.mp e]
    exact Oa this
   | false =>
    rw[e]at h
    exact yr (fun z hz=>ay z (mem_cons_of_mem _ hz)) (fun z hz=>aG z (mem_cons_of_mem _ hz)) h a8
  ·simp only[aj,Bool.false_eq_true,if_false]at h
   cases e:y == n with
   | true =>
    rw[e]at h
    have h':some k0=some k:=h
    cases h'
    rw[beq_iff_eq.mp e]
    rcases a8 with z | z
    ·exact absurd z ah4
    ·exact Oa z
   | false =>
    rw[e]at h
    exact yr (fun z hz=>ay z (mem_cons_of_mem _ hz)) (fun z hz=>aG z (mem_cons_of_mem _ hz)) h a8
theorem k8.one {X:bE}{x fv:Str}{j:Nat}{c:Addr}{scope:Scope}(Yk:closureFor scope X.env=pure [(fv,c)]) (tS:∀y∈scope.names,y.2≠.cell) (lS:∀y∈scope.names,y.2=.free→y.1=fv) (DM:scope.kind=.function)
  (Xv:∀y∈scope.names,y.2=.local→scope.names.lookup y.1=some .local) (ac7:scope.names.lookup x=some .local) (aj:X.env.cells.lookup fv=some c) (kF:x≠fv) (gP:X.N[j]?=some fv) (a8:X.env.scope.names.lookup fv=some .cell)
  (aC:(relabel scope X.env).names.lookup fv=some .cell):k8 X x [j] [x,fv] scope [(fv,c)] where
 wL:=Yk
 cell:=tS
 kind:=DM
 names:=Xv
 loc:=ac7
 sub:=fun y d e=>by
  rw[lookup_cons]at e
  cases z:y == fv with
  | true =>
   rw[z]at e
   have cV:some c=some d:=e
   cases cV
   rw[beq_iff_eq.mp z]
   exact aj
  | false=>rw[z]at e;simp at e
 has:=fun y cg=>by
  have:y=fv:=by
   rcases cg with h | h
   ·exact yr tS lS h (.inl rfl)
   ·exact yr tS lS h (.inr rfl)
  subst this
  exact⟨c,by rw[lookup_cons,beq_self_eq_true]⟩
 bg:=rfl
 len:=rfl
 bl:=by
  rw[nodup_cons]
  exact⟨fun m=>kF (mem_singleton.mp m),by simp⟩
 wR:=fun i k y ay aG=>by
  cases i with
  | zero =>
   have aJ:fv=y:=Option.some.inj ay
   have aN:j=k:=Option.some.inj aG
   subst aJ aN
   exact⟨gP,a8,aC⟩
  | succ i=>simp at aG
theorem Uk {K:PySem.W.Frag}{a:Addr}{ns:List Int}{b8:TE}{bK:St}{Q:cC}{H:ao}{acc:Addr}{w:V}(aX:H a=some (.lst (ns.map V.int))) (h0:H acc=none) (hz:ns.length≤1000)
  (he:∀(z:Int) a9 (k:cC),(∀p,a9 p=none→k (.ref p) (upd a9 p (.tup [.int z,w])))→b8 (some (.int z)::bK) a9 k)
  (q:∀(ys:List V) (ah:ao),bI H ah→ah acc=some (.lst ys)→gU (fun z x=>zu ah x (Sum.inl z,w)) ns ys→Q (.ref acc) ah):tV (o_ K a) b8 bK Q H acc:=by
 have Aj:a≠acc:=cD aX h0
 refine⟨ns.length,fun i ys au=>i≤ns.length∧bI H au∧au acc=some (.lst ys)∧gU (fun z x=>zu au x (Sum.inl z,w)) (ns.take i) ys,⟨zero_le _,bP h0 _,aQ,.nil⟩,?_⟩
 rintro i ys au ⟨aL,c2,e1,aI⟩
 have mW:=c2 _ _ aX
 by_cases dw:i<ns.length
 ·refine .inr ⟨⟨_,.int ns[i],aR.of mW,yu (getElem?_eq_getElem dw)⟩,dw,?_⟩
  rintro v a9 ⟨rfl,br⟩
  have ev:v=.int ns[i]:=by
   have:=br _ (aR.of mW)
   rw[yu (getElem?_eq_getElem dw)]at this
   exact (Option.some.inj this).symm
  subst ev
  refine he _ _ _ fun p kE=>?_
  have MD:p≠acc:=(cD e1 kE).symm
  have Ym:(upd a9 p (.tup [.int ns[i],w])) acc=some (.lst ys):=by rw[aA MD.symm];exact e1
  have l3:ys.length=i:=by rw[←aI.1,length_take];omega
  refine⟨Ym,lt_of_le_of_lt (by omega:ys.length≤1000) (by decide),dw,(c2.trans (bP kE _)).kr h0,aQ,?_⟩
  rw[take_add_one,getElem?_eq_getElem dw]
  refine gU.snoc (aI.mono fun z x bg=>?_) ⟨p,rfl,by rw[aA MD,aQ];rfl⟩
  obtain⟨b,aJ,aN⟩:=bg
  exact⟨b,aJ,by rw[aA (dK aN e1 (fun z=>nomatch z)),aA (cD aN kE)];exact aN⟩
 ·have e:i=ns.length:=by omega
  subst e
  rw[take_length]at aI
  exact .inl ⟨⟨_,aR.of mW,by rw[length_map];exact le_refl _⟩,q ys au c2 e1 aI⟩
theorem putAll_has (w:V):∀(ns:List Int) (m:List (Key × V)) (z:Int),(dn (putAll m (ns.map fun n=>((Sum.inl n:Key),w))) (Sum.inl z)).isSome=(decide (z∈ns) || (dn m (Sum.inl z)).isSome)
 | [],m,z=>by
  show (dn m (Sum.inl z)).isSome=_
  simp
 | n::r,m,z=>by
  have c6:=putAll_has w r (putK m (Sum.inl n) w) z
  show (dn (putAll (putK m (Sum.inl n) w) (r.map fun n=>((Sum.inl n:Key),w))) (Sum.inl z)).isSome=_
  rw[c6,vQ]
  by_cases h:z=n
  ·subst h
   simp
  ·have h':¬((Sum.inl z:Key)=Sum.inl n):=fun e=>h (Sum.inl.inj e)
   simp[h,h']
theorem TJ {prog:Program}{w:World}{A:Around}{R:Result→Shared→Prop}{s:Shared}{elt target iter c:Expr}{scope:Scope}{pos:Pos}{it acc:Value}{env:Env}(I:Nat→Shared→Prop)
  (turn:∀n s,I n s→wpAny (model prog w) A (pyNext it) (fun r c5=>match r with
   | none=>R (.ok .next) c5
   | some v=>wpAny (model prog w) A (letOwnedTupleGo target it v) (fun _ hW=>wpAny (model prog w) A (assign target env v) (fun _ hT=>wpAny (model prog w) A (isTrue c env (eval c env)) (fun ok n5 =>
     if ok=true then wpAny (model prog w) A (eval elt env) (fun x xP =>
      wpAny (model prog w) A (call (.builtin "list.append") [acc,x]) (fun _ R5=>∃m,m<n∧I m R5) (fun _ _=>False) xP) (fun _ _=>False) n5
     else ∃m,m<n∧I m n5) (fun _ _=>False) hT) (fun _ _=>False) hW) (fun _ _=>False) c5) (fun _ _=>False) s)
  (n:Nat) (h:I n s):codeAny (model prog w) A (.compLoop (.ListComp elt [⟨target,iter,[c],0⟩] scope pos) 0 it acc env) R s:=by
 refine codeAny_loop rfl I (fun n s pn=>?_) n h
 show wpAny _ A ((compTurn (.ListComp elt [⟨target,iter,[c],0⟩] scope pos) 0 it acc env).onRaise (fun x=>do noteFrame x env;theTreesLotGoes x)) _ _ s
 refine wpAny_noted ?_
 rw[compTurn_list]
 refine wpAny_bind (wpAny_standAt (wpAny_bind (wpAny_mono (turn n s pn) (fun r c5 gO=>?_) fun _ _ z=>False.elim z)))
 cases r with
 | none=>exact wpAny_pure gO
 | some v =>
  refine wpAny_bind (wpAny_mono gO (fun _ hW ml=>?_) fun _ _ z=>False.elim z)
  refine wpAny_bind (wpAny_mono ml (fun _ hT x1=>wpAny_bind (wpAny_mono (wpAny_tests_one x1) (fun ok n5 BN=>?_) fun _ _ z=>False.elim z)) fun _ _ z=>False.elim z)
  cases ok with
  | false=>exact wpAny_pure ⟨rfl,BN⟩
  | true=>exact wpAny_bind (wpAny_bind (wpAny_mono BN (fun x xP GF=>wpAny_bind (wpAny_mono GF (fun _ R5 akM=>wpAny_pure (wpAny_pure ⟨rfl,akM⟩)) fun _ _ z=>False.elim z)) fun _ _ z=>False.elim z))
def DB (J:ki) (tt:TT) (b8:TE) (bK:St) (Q:cC) (H:ao) (acc:Addr):Prop :=
 ∃(n:Nat) (W:Nat→List V→ao→Prop),W 0 [] (upd H acc (.lst []))∧∀i ys au,W i ys au→(J.stop i au∧Q (.ref acc) au) ∨
  (J.go i au∧i<n∧∀v a9,J.oV i au v a9→tt (some v::bK) a9 fun b QW=>if b=true then b8 (some v::bK) QW fun y cO=>cO acc=some (.lst ys)∧ys.length<sizeLine∧W (i+1) (ys++[y]) (upd cO acc (.lst (ys++[y]))) else W (i+1) ys QW)
theorem Ul {X:bE}{pins:List (Addr × Obj)}{σ:St}{H:ao}{s:Shared}{x:Str}{j_:Pos}{elt iter c:Expr}{scope:Scope}{pos:Pos}{cl:List (Str × Addr)}{d2:List Str}{fr:List Nat}{b8:TE}{tt:TT}{J:ki}{b5:List Addr}{it:Addr}
  {gD:Nat→Heap→Prop} {E:Value→Shared→Prop} {RR:Value→Addr→Result→Shared→Prop} {Q:cC} (B:k8 X x fr d2 scope cl) (aj:X.calm=true) (I:Inv X pins σ H s) (T:Turn X.prog X.w X.K (.Name x j_) J b5 it gD)
  (st:gD 0 s.heap) (hf:∀b∈b5,mK X pins H b) (bN:∀C aM ah,g4 (gV X d2 scope cl C aM ah b5) c tt) (he:∀C aM ah,b3 (gV X d2 scope cl C aM ah b5) elt b8) (h:∀acc,H acc=none→DB J tt b8 (pick σ fr) Q H acc)
  (FH:∀acc C ah aM m,Inv X pins σ ah aM→Q (.ref acc) ah→aM.heap.Ns C m→ah C=none→C≠X.env.locals→(C∈X.ex∨X.fJ.heap.objs.size≤C)→(∀y c,X.env.cells.lookup y=some c→c≠C)→(∀p∈X.bz++pins,p.1≠C)→RR (.ref acc) C (.ok .next) aM) :
  wpAny (model X.prog X.w) X.A (newList []) (fun acc hT=>wpAny (model X.prog X.w) X.A (newFunctionEnv scope X.env.globals cl [] X.env.qual none .none (some X.env)) (fun wM n5 =>
   codeAny (model X.prog X.w) X.A (.compStart (.ListComp elt [⟨.Name x j_,iter,[c],0⟩] scope pos) 0 (.ref it) acc { wM with scope:=relabel scope X.env }) (RR acc wM.locals) n5) E hT) E s:=by
 refine wpAny_newObj_type (wpAny_newFunctionEnv B.cell (by intro y cg;simp at cg) (fun gO rm rl=>?_) B.kind)
 have cQ:Inv X pins σ (upd H s.heap.objs.size (.lst [])) { s with heap:=s.heap.push { cls:=.type "list",data:=.seq ([]:List Value).toArray } }:=I.D1 (its:=[]) (t':=s.toks) .nil (zero_le _)
 obtain⟨n,W,rY,turn⟩:=h s.heap.objs.size I.fresh
 dsimp only at rm rl ⊢
 generalize w7:({ s with heap:=s.heap.push { cls:=.type "list",data:=.seq ([]:List Value).toArray } }:Shared)=s3 at *
 have xh:s.heap.push { cls:=.type "list",data:=.seq ([]:List Value).toArray }=s3.heap:=by rw[←w7]
 have D5:s.heap.push { cls:=.type "list",dict:=none,data:=.seq ([]:List Value).toArray }=s3.heap:=xh
 rw[D5]at rm rl ⊢
 have mP:∀b o,s3.heap.get? b=some o→b≠s3.heap.objs.size:=fun b o e=>ne_of_lt (lt_size e)
 have mE:∀b o,s3.heap.get? b=some o→gO.get? b=some o:=fun b o e=>rl.extBut b o (mP b o e) (get?_push_of_some _ e)
 have wB:∀b o,s.heap.get? b=some o→s3.heap.get? b=some o:=fun b o e=>by rw[←xh];exact get?_push_of_some _ e
 have lY:gD 0 gO:=T.keep 0 _ _ st fun b _ o e=>mE b o (wB b o e)
 have DV:∀b∈b5,∃o,s3.heap.get? b=some o:=fun b aa=>by
  obtain⟨o,e,_⟩:=T.obj 0 _ st b aa
  exact⟨o,wB b o e⟩
 have q9:∀b,b≠X.env.locals→b∉X.bL→b∉gC X.stack:=fun b ay aG aa=>by
  rcases mem_cons.mp (cQ.v_ b aa) with z | z
  ·exact ay z
  ·exact aG z
 have ok:(gV X d2 scope cl s3.heap.objs.size s3 (upd H s.heap.objs.size (.lst [])) b5).Ok:=by
  refine⟨I.ok.mod,?_,I.ok.glob,I.ok.blt,le_refl _,fun y z c ay aG=>I.ok.inj y z c (B.sub y c ay) (B.sub z c aG),fun y cg=>B.has y cg,fun y c e _=>absurd (show false=true from e) Bool.false_ne_true,I.ok.hd,I.ok.frames,.inl rfl,fun b aa=>?_,cQ.bs,
   le_trans I.ok.lr cQ.e9,fun b o e aa=>?_,fun b aa=>q9 b (hf b aa).2.1 (hf b aa).2.2.1,cQ.stack,cQ.yZ⟩
  ·exact B.kind
  ·obtain⟨o,e⟩:=DV b aa
   exact⟨mP b o e,fun y c e=>(hf b aa).2.2.2.2.1 y c (B.sub y c e)⟩
  ·rcases (hf b aa).2.2.2.1 with z | z
   ·exact I.ok.nE b o e z
   ·exact absurd (lt_of_lt_of_le (lt_size (I.ok.bs b o e).1) z) (lt_irrefl _)
 have cellK:∀c v,s3.heap.IsCell c v→gO.IsCell c v:=fun c v ⟨o,aH,hd⟩=>⟨o,mE c o aH,hd⟩
 have mH:∀{ah:ao},(∀b∈b5,ah b=none)→∀b∈b5,mK (gV X d2 scope cl s3.heap.objs.size s3 (upd H s.heap.objs.size (.lst [])) b5) pins ah b:=fun aS b aa =>
  ⟨aS b aa,(ok.qm b aa).1,q9 b (hf b aa).2.1 (hf b aa).2.2.1,.inl aa,fun y c e=>(hf b aa).2.2.2.2.1 y c (B.sub y c e),(hf b aa).2.2.2.2.2⟩
 have kk:Inv (gV X d2 scope cl s3.heap.objs.size s3 (upd H s.heap.objs.size (.lst [])) b5) pins (none::pick σ fr) (upd H s.heap.objs.size (.lst [])) { s3 with heap:=gO }:=by
  refine⟨ok,rfl,cQ.bare,g0.kept mE,⟨_,rm,fun i y v ay aG ct=>?_⟩,fun y c e=>?_,cQ.fresh,fun y c e=>cQ.jz y c (B.sub y c e),fun p aI=>?_,cQ.bD.kept mE,?_⟩
  ·cases i with
   | zero=>cases (show some none=some (some v) from aG)
   | succ i =>
    have aG:(pick σ fr)[i]?=some (some v):=aG
    unfold pick at aG
    rw[getElem?_map]at aG
    cases pz:fr[i]? with
    | none=>rw[pz]at aG;cases aG
    | some j =>
     rw[pz]at aG
     have o5:(σ[j]?).getD none=some v:=Option.some.inj aG
     have GG:σ[j]?=some (some v):=by
      cases q:σ[j]? with
      | none=>rw[q]at o5;cases o5
      | some o =>
       rw[q]at o5
       have:o=some v:=o5
       rw[this]
     obtain⟨e7,fO,i1⟩:=B.wR i j y ay pz
     obtain⟨eW,_,Fw⟩:=cQ.loc
     obtain⟨u,eg,lk⟩:=Fw j y v e7 GG (.inr (.inl fO))
     refine⟨u,eg,.inr ⟨.inl i1,?_⟩⟩
     rcases lk with ⟨k,_⟩ | ⟨_,c,e,z⟩
     ·have i0:X.env.scope.names.lookup y=some .local:=k
      rw[fO]at i0
      cases i0
     ·obtain⟨gv,cV⟩:=B.has y (.inl i1)
      have:=B.sub y gv cV
      rw[e]at this
      cases this
      exact⟨_,cV,cellK _ _ z⟩
  ·obtain⟨v,z⟩:=cQ.cell y c (B.sub y c e)
   exact⟨v,cellK c v z⟩
  ·obtain⟨e,pf,ne,lB,d⟩:=cQ.pin p aI
   exact⟨mE _ _ e,pf,mP _ _ e,q9 _ ne lB,d⟩
  ·show (none::pick σ fr).length=d2.length
   rw[B.len,length_cons]
   unfold pick
   rw[length_map]
 have fin:∀{ah:ao} {bK:St} {aM:Shared},Inv (gV X d2 scope cl s3.heap.objs.size s3 (upd H s.heap.objs.size (.lst [])) b5) pins bK ah aM→Q (.ref s.heap.objs.size) ah→RR (.ref s.heap.objs.size) s3.heap.objs.size (.ok .next) aM:=fun {ah bK aM} J q=>by
  obtain⟨m,aS,_⟩:=J.loc
  refine FH _ _ ah aM m (cQ.DP (ch:=b5) J.os J.base J.bD J.bare fun b aa=>⟨(hf b aa).2.2.2.1,(hf b aa).2.1,(hf b aa).2.2.2.2.1,(hf b aa).2.2.2.2.2⟩) q aS J.free (ne_of_gt cQ.lt) (.inr cQ.e9) (fun y c e=>?_) fun p aI=>?_
  ·obtain⟨v,o,aH,_⟩:=cQ.cell y c e
   exact mP c o aH
  ·exact mP _ _ (cQ.pin p aI).1
 have loop:∀hT:Shared,hT={ s3 with heap:=gO }→codeAny (model X.prog X.w) X.A (.compLoop (.ListComp elt [⟨.Name x j_,iter,[c],0⟩] scope pos) 0 (.ref it) (.ref s.heap.objs.size) (compEnvC scope cl s3.heap.objs.size X.env)) (RR (.ref s.heap.objs.size) s3.heap.objs.size) hT:=by
  rintro hT rfl
  refine TJ (fun m aM=>∃i ys rV ah,Inv (gV X d2 scope cl s3.heap.objs.size s3 (upd H s.heap.objs.size (.lst [])) b5) pins (rV::pick σ fr) ah aM∧gD i aM.heap∧(∀b∈b5,ah b=none)∧W i ys ah∧m=n - i) ?_ n ⟨0,[],none,_,kk,lY,fun b aa=>?_,rY,rfl⟩
  ·rintro m aM ⟨i,ys,rV,ah,gc,g7,xr,eb,rfl⟩
   rcases turn i ys ah eb with ⟨stop,q⟩ | ⟨go,rG,step⟩
   ·refine bS (T.done (gV X d2 scope cl s3.heap.objs.size s3 (upd H s.heap.objs.size (.lst [])) b5) rfl rfl rfl aj i pins aM _ ah (fun _ _=>False) gc (mH xr) g7 stop) fun r s1 ⟨aC,aY⟩=>?_
    subst aC
    exact fin aY q
   ·refine bS (T.item (gV X d2 scope cl s3.heap.objs.size s3 (upd H s.heap.objs.size (.lst [])) b5) rfl rfl rfl aj i pins aM _ ah (fun _ _=>False) gc (mH xr) g7 go) fun r s1 ⟨u,aC,dN⟩=>?_
    subst aC
    refine bS dN fun _ s5 ⟨v,d4,so,m3,xK,mM,xq⟩=>?_
    have xF:=so.pinned (mH xq) (T.obj _ _ mM)
    have xT:(relabel scope X.env).names.lookup x=some .local:=lookup_relabel_local B.loc
    refine bS (fj (X:=gV X d2 scope cl s3.heap.objs.size s3 (upd H s.heap.objs.size (.lst [])) b5) (i:=0) (x:=x) B.bl B.bg (.inl xT) (.inr xT) _ s5 _ d4 v u
     (fun bK kW=>bK=some v::pick σ fr∧kW=d4) xF m3 ⟨rfl,rfl⟩) fun _ je ⟨Gf,kW,yh,aJ,aN⟩=>?_
    subst aJ aN
    have again:∀{hi:ao} {zs:List V} {ly:Shared},Inv (gV X d2 scope cl s3.heap.objs.size s3 (upd H s.heap.objs.size (.lst [])) b5) (pins++wg b5 s5.heap) (some v::pick σ fr) hi ly→W (i+1) zs hi →
      ∃m,m<n - i∧∃i ys rV ah,Inv (gV X d2 scope cl s3.heap.objs.size s3 (upd H s.heap.objs.size (.lst [])) b5) pins (rV::pick σ fr) ah ly∧gD i ly.heap∧(∀b∈b5,ah b=none)∧W i ys ah∧m=n - i:=fun {hi zs ly} pG aki=>by
     refine⟨n - (i+1),by omega,i+1,zs,some v,_,pG.vS,T.keep _ _ _ mM fun b aa o e=>(pG.pin (b,o) (mem_append_right _ (mem_append_right _ (sC aa e)))).1,fun b aa=>?_,aki,rfl⟩
     obtain⟨o,e,d⟩:=T.obj _ _ mM b aa
     exact (pG.pin (b,o) (mem_append_right _ (mem_append_right _ (sC aa e)))).2.1
    refine bS (bN _ _ _ _ je _ _ _ yh (step v _ xK)) fun ok afX ⟨aml,QV,My⟩=>?_
    cases ok with
    | false=>exact again QV My
    | true =>
     refine bS (he _ _ _ _ afX _ _ _ QV My) fun y e_ ⟨lu,fP,kj,bM,e1,hlen,rW⟩=>?_
     refine bS (jo _ e_ _ fP (.ref s.heap.objs.size) [lu] (.ref s.heap.objs.size) [y] (fun _ hi=>hi=upd fP s.heap.objs.size (.lst (ys++[lu]))) kj rfl (.cons bM .nil) ⟨_,ys,lu,rfl,rfl,e1,hlen,rfl⟩) fun _ ly ⟨_,hi,pG,_,pA⟩=>?_
     subst pA
     exact again pG rW
  ·obtain⟨o,e,_⟩:=T.obj 0 _ st b aa
   rw[aA (ne_of_lt (lt_size e))]
   exact (hf b aa).1
 have cj:({ s with heap:=gO,toks:=s.toks+([]:List (Str × Value)).length }:Shared)={ s3 with heap:=gO }:=by rw[←w7];rfl
 rw[cj]
 exact codeAny_compStart_list (loop _ rfl) (T.self _ 0 _ _ _ lY (loop _ rfl))
section
variable {X:bE}{x y:Str}{j_ py pos zM:Pos}{elt iter c:Expr}{scope:Scope}{cl:List (Str × Addr)}{d2:List Str}{fr:List Nat}{hp:TI}{b8:TE}{tt:TT}
def WO (hp:TI) (fr:List Nat) (tt:TT) (b8:TE):TE:=fun σ H Q=>hp σ H fun J H1=>∀acc,H1 acc=none→DB J tt b8 (pick σ fr) Q H1 acc
def WY (i:Nat) (hp:TI) (fr:List Nat) (tt:TT) (b8:TE):fU:=fun D σ H=>WO hp fr tt b8 σ H fun v H1=>D.c4 (σ.set i (some v)) H1
theorem Vo {i:Nat}(fr:List Nat) (d2:List Str) (gP:X.N.Nodup) (jF:X.N[i]?=some y) (cg:X.env.kindOf y=some .local) (B:k8 X x fr d2 scope cl) (aj:X.calm=true) (aL:qH X (.Name x j_) iter hp)
  (bN:∀C aM ah b5,g4 (gV X d2 scope cl C aM ah b5) c tt) (he:∀C aM ah b5,b3 (gV X d2 scope cl C aM ah b5) elt b8) (ahM:swapsWith (.ListComp elt [⟨.Name x j_,iter,[c],0⟩] scope pos) (some (.Name y py)) zM.line X.env=pure true:=by rfl) (a5:∀x,foldedSetIterable iter X.env x=pure x:=by intro _;rfl) :
  kh X (.Assign [.Name y py] (.ListComp elt [⟨.Name x j_,iter,[c],0⟩] scope pos) zM) (WY i hp fr tt b8):=by
 intro pins s σ H D I h
 rw[exec_Assign_Name_used _ _ _ _ ahM]
 refine wpAny_bind (wpAny_standAt (wpAny_bind ?_))
 show wpAny _ X.A (do let _ ← comprehension (.ListComp elt [⟨.Name x j_,iter,[c],0⟩] scope pos) scope X.env _ (newList []) false (eval iter X.env) (some (assign (.Name y py) X.env))) _ _ s
 refine wpAny_bind (wpAny_mono (wpAny_comprehension_free (use:=some (assign (.Name y py) X.env)) (Q:=fun _ aM=>sl X pins D .next aM) rfl a5 B.wL B.kind B.names (bS (aL pins s σ H _ I h) fun v s1 ay=>bS ay fun Ay s2 aG=>?_))
  (fun _ aM bN=>wpAny_pure (wpAny_pure bN)) fun _ _ e=>e)
 obtain⟨it,b5,gD,J,au,e,cH,T,wQ,f2,aV⟩:=aG
 subst e
 refine Ul (RR:=fun acc C=>compPost (model X.prog X.w) X.A X.dF (some (assign (.Name y py) X.env)) (fun _ aM=>sl X pins D .next aM) acc C) B aj cH T wQ f2 (fun C aM ah=>bN C aM ah b5) (fun C aM ah=>he C aM ah b5) aV ?_
 intro acc C ah aM m gc q aS h0 ay ct dN gQ
 show wpAny _ X.A (assign (.Name y py) X.env (.ref acc)) _ _ _
 refine wpAny_assign_Name (Ig (v:=.ref acc) gc gP jF (.inl cg) rfl (fun wU ajD ahQ=>?_) (.inr cg))
 obtain⟨a,lx,aX⟩:=ahQ
 have ait:C≠a:=by
  rcases aX with z | z
  ·rw[z];exact ay
  ·exact Ne.symm (dN _ _ z)
 refine⟨m,aS.sameBut lx ait,fun h' afW=>⟨_,ah,ajD.turned (t':=wU.toks) (fun b o aa e=>(afW.2 b aa).trans e) h0 ay ct dN gQ,q⟩⟩
end
inductive dg where
 | put (d:Int) (p:Nat) (o n:Int)
 | fin (d:Int)
 deriving DecidableEq
def zr (log:List dg) (d:Int):Bool:=log.any fun ln=>match ln with
 | .fin e=>e == d
 | .put .. => false
def Cu (full:List dg):List dg→Nat→Option Int
 | [],_=>none
 | .put d p o _::r,q=>if p=q∧zr full d=false then some o else Cu full r q
 | .fin _::r,q=>Cu full r q
def za:List dg→Nat→Option Int→Option Int
 | [],_,a=>a
 | .put _ p _ n::r,q,a=>za r q (if p=q then some n else a)
 | .fin _::r,q,a=>za r q a
structure ajB (log:List dg) (ss:List Int) (q:Nat) (t vn cz:Int):Prop where
 dG:t = -1∨(0≤t∧t≤2)
 fN:∀x,za log q none=some x→x=vn
 hY:za log q none=none→vn=cz
 fr:t = -1→vn=cz∧∀d o n,dg.put d q o n∈log→zr log d=true
 bG:0≤t→∃d,ss[t.toNat]?=some d∧Cu log log q=some cz∧∀d' o n,dg.put d' q o n∈log→zr log d'=false→d'=d
structure afA (m:Int) (log:List dg) (ss:List Int):Prop where
 len:ss.length=3
 lt:∀(s:Nat) (d:Int),ss[s]?=some d→d<m∧zr log d=false
 inj:∀(s aM:Nat) (d:Int),ss[s]?=some d→ss[aM]?=some d→s=aM
 mw:∀d,dg.fin d∈log→d<m
 pu:∀d p o n,dg.put d p o n∈log→d<m
structure amD (n:Nat) (m:Int) (log:List dg) (ds iB ss aO:List Int):Prop where
 num:afA m log ss
 cp:∀q,q<n→∃t vn cz,aO[q]?=some t∧ds[q]?=some vn∧iB[q]?=some cz∧ajB log ss q t vn cz
def kB (H:ao):dg→V→Prop
 | .put d p o n,x=>∃a,x=.ref a∧H a=some (.tup [.str "put",.int d,.int (p:Nat),.int o,.int n])
 | .fin d,x=>∃a,x=.ref a∧H a=some (.tup [.str "end",.int d])
def dg.ok (c:Nat):dg→Prop
 | .put _ p _ _=>p<c
 | .fin _=>True
theorem kB.mono {H ah:ao}(k:el H ah):∀{ln:dg}{x:V},kB H ln x→kB ah ln x
 | .put d p o n,x,⟨a,e,h⟩=>⟨a,e,k _ _ h⟩
 | .fin d,x,⟨a,e,h⟩=>⟨a,e,k _ _ h⟩
abbrev gj (H:ao) (log:List dg) (xs:List V):Prop:=gU (kB H) log xs
theorem sX {n j:Nat}(h:j<n):nM n (j:Int)=some j:=by
 rw[Xq (Int.natCast_nonneg _) (by omega)]
 rfl
theorem s7 (xs:List V) (k:Nat):eS xs (some (k:Int)) none=xs.drop k:=by
 unfold eS
 rw[gi.CB,gi.Jr]
 rw[List.take_of_length_le (by rw[length_drop];exact le_refl _)]
 by_cases h:k≤xs.length
 ·rw[Nat.min_eq_left h]
 ·rw[Nat.min_eq_right (by omega),List.drop_length,List.drop_eq_nil_of_le (by omega)]
theorem VZ (ns:List Int) (k:Nat):eS (ns.map V.int) (some (k:Int)) none=(ns.drop k).map V.int:=by rw[s7,List.map_drop]
theorem ints_of:∀{ys:List V},(∀v∈ys,∃z:Int,v=.int z)→∃ns:List Int,ys=ns.map V.int
 | [],_=>⟨[],rfl⟩
 | y::r,h=>by
  obtain⟨z,rfl⟩:=h y mem_cons_self
  obtain⟨ns,rfl⟩:=ints_of (ys:=r) fun v br=>h v (mem_cons_of_mem _ br)
  exact⟨z::ns,rfl⟩
theorem qW {n:Nat}(h:n≤2000):n<sizeLine:=lt_of_le_of_lt h (by decide)
theorem zC:¬(V.str "end"=V.str "put"):=by decide +kernel
theorem Yo:¬(V.str "put"=V.str "end"):=by decide +kernel
structure pJ (cW:ao) (n:Nat) (r:Addr) (H:ao) (i:Nat) (xs:List V) (log:List dg):Prop where
 c2:bI cW H
 az:H r=some (.lst xs)
 cX:gj H log xs
 ok:∀ln∈log,ln.ok n
 le:log.length≤i
structure amA (cW:ao) (n:Nat) (l cB eo dc bG:Addr) (H:ao) (i:Nat) (xs:List V) (log:List dg) (ds iB ss aO:List Int):Prop where
 g:pJ cW n l H i xs log
 hd:H cB=some (.lst (ds.map V.int))
 a8:H eo=some (.lst (iB.map V.int))
 a5:H dc=some (.lst (ss.map V.int))
 a6:H bG=some (.lst (aO.map V.int))
 bl:ds.length=n
 qw:iB.length=n
 ns:ss.length=3
 mg:aO.length=n
structure alN (cW:ao) (l cB eo dc bG:Addr):Prop where
 ay:cW l=none
 aG:cW cB=none
 ct:cW eo=none
 dN:cW dc=none
 gQ:cW bG=none
 al4:l≠cB
 al3:l≠eo
 al2:l≠dc
 al1:l≠bG
 al0:cB≠eo
 alZ:cB≠dc
 alY:cB≠bG
 alX:eo≠dc
 alW:eo≠bG
 alV:dc≠bG
section
variable {cW:ao}{n:Nat}{l cB eo dc bG:Addr}{H:ao}{i:Nat}{xs:List V}{log:List dg}{ds iB ss aO:List Int}
end
theorem C_ {K:PySem.W.Frag}{t:Addr}{x y:V}{H:ao}{Q:cC}(a6:H t=some (.lst [x,y])) (ay:Q x H) (aG:Q y H) (k:Bool):DU K (.ref t) (.int (if k then 1 else 0)) H Q:=by
 cases k with
 | false=>exact⟨t,_,0,x,rfl,rfl,aR.of a6,rfl,ay⟩
 | true=>exact⟨t,_,1,y,rfl,rfl,aR.of a6,rfl,aG⟩
def jw (q:Nat):dg→Bool
 | .put _ p _ _=>decide (p=q)
 | .fin _=>false
section
variable {X:bE}{K:PySem.W.Frag}
theorem VQ (h:X.K=K):Bp X (DU K):=by subst h;exact eH
end
theorem B5:∀{xs:List V}{us:List Value},us.length=xs.length→(∀(j:Nat) (u:Value),us[j]?=some u→∃x,xs[j]?=some x∧RelV x u)→Vals xs us
 | [],[],_,_=>.nil
 | [],_::_,h,_=>by simp at h
 | _::_,[],h,_=>by simp at h
 | x::xs,u::us,h,f=>by
  obtain⟨y,e,r⟩:=f 0 u rfl
  have cV:x=y:=Option.some.inj e
  subst cV
  refine .cons r (B5 (by simpa using h) fun j n3 a7=>?_)
  obtain⟨z,aN,bH⟩:=f (j+1) n3 (by simpa using a7)
  exact⟨z,by simpa using aN,bH⟩
section
variable {X:bE}
def W0:List V→ao→cC→Prop:=fun xs H Q=>∃d kvs,xs=[.ref d]∧H d=some (.bQ kvs)∧∀l,H l=none→Q (.ref l) (upd H l (.lst (kvs.map fun z=>d9 z.1)))
theorem Cp (dD:X.A.handled=none):mG X (.type "list") W0:=by
 intro pins s σ H xs us Q I bp h
 obtain⟨d,kvs,rfl,hd,q⟩:=h
 obtain⟨u,rfl,eg⟩:=bp.one
 cases eg
 obtain⟨z,qh,vs,rel,dd⟩:=tU I.bD hd
 obtain⟨b7,akX⟩:=dd.dictAt
 have az:kvs.length=vs.length:=rel.length
 refine PySem.W.kdl_call (PySem.W.kdl_dict qh) dD akX (by rw[←az];exact z) fun h' bG zY gv a8 ez e1=>?_
 have br:Vals (kvs.map fun z=>d9 z.1) zY.toList:=by
  refine B5 (by rw[length_map,Array.length_toList,e1.1,az]) fun j u a7=>?_
  obtain⟨k,x,e,a8⟩:=e1.2 j u (by rw[←Array.getElem?_toList];exact a7)
  have de:j<kvs.length:=by rw[az];exact (List.getElem?_eq_some_iff.mp e).1
  have Yh:=rel.keys
  have aN:(kvs.map (·.1))[j]?=some k:=by rw[Yh,getElem?_map,e];rfl
  rw[getElem?_map,getElem?_eq_getElem de]at aN
  have b2:kvs[j].1=k:=Option.some.inj aN
  refine⟨d9 k,by rw[getElem?_map,getElem?_eq_getElem de,←b2];rfl,?_⟩
  rcases nt a8 with ⟨i,t,rfl,rfl⟩ | ⟨y,t,rfl,rfl⟩
  ·exact⟨t,rfl⟩
  ·exact⟨t,rfl⟩
 refine⟨.ref s.heap.objs.size,_,I.laid (t':=bG) (o:=.lst (kvs.map fun z=>d9 z.1)) a8 (le_refl _) ⟨by rw[length_map];exact z,zY.toList,gv,br,by rw[Array.toArray_toList];exact ez⟩,rfl,q _ I.fresh⟩
theorem HJ:∀(ns:List Int) (j:Nat),j≤ns.length→preSum (fun i=>ns.getD i 0) j=(ns.take j).sum
 | _,0,_=>rfl
 | ns,j+1,h=>by
  have de:j<ns.length:=by omega
  show preSum (fun i=>ns.getD i 0) j+ns.getD j 0=_
  rw[HJ ns j (by omega),take_add_one,getElem?_eq_getElem de,sum_append,getD_eq_getElem?_getD,getElem?_eq_getElem de]
  simp
def ZH (K:PySem.W.Frag):List V→ao→cC→Prop:=fun xs H Q=>∃(l:Addr) (ns:List Int),xs=[.ref l]∧aR K H l (ns.map V.int)∧Q (.int ns.sum) H
theorem V1 (dD:X.A.handled=none):mG X (.builtin "sum") (ZH X.K):=by
 intro pins s σ H xs us Q I bp h
 obtain⟨l,ns,rfl,az,q⟩:=h
 obtain⟨u,rfl,eg⟩:=bp.one
 cases eg
 obtain⟨its,r,p,hz⟩:=I.list az
 have jO:=r.length
 rw[length_map]at jO
 refine call_sum_walkAnyS ?_
 refine wpAny_pyIter_list p.isList ?_
 have kF:l≠s.heap.objs.size:=by
  obtain⟨o,aH,_⟩:=p.isList
  exact ne_of_lt (lt_size aH)
 refine⟨s.heap.objs.size,_,_,_,its.toArray.size,_,_,fun i=>ns.getD i 0,rfl,(Walks.list (A:=X.A.in1) dD s.heap.objs.size l kF its.toArray).toS,⟨⟨_,get?_push_size _ rfl,rfl,rfl⟩,p.isList.push _⟩,fun b aa=>?_,fun i v br=>?_,fun aM t' M=>?_⟩
 ·rw[size_push]
  rcases mem_cons.mp aa with z | z
  ·rw[z];exact Nat.lt_succ_self _
  ·rw[mem_singleton.mp z]
   obtain⟨o,aH,_⟩:=p.isList
   exact Nat.lt_succ_of_lt (lt_size aH)
 ·have l5:its[i]?=some v:=by simpa using br
  have aL:i<ns.length:=by rw[jO];exact (List.getElem?_eq_some_iff.mp l5).1
  obtain⟨u,e,eg⟩:=r.get (yu (getElem?_eq_getElem aL))
  rw[l5]at e
  cases e
  obtain⟨t,iE⟩:=eg
  refine⟨t,?_⟩
  have akV:ns.getD i 0=ns[i]:=by rw[getD_eq_getElem?_getD,getElem?_eq_getElem aL];rfl
  show _=Value.int (ns.getD i 0) t
  rw[iE,akV]
 ·have e:preSum (fun i=>ns.getD i 0) its.toArray.size=ns.sum:=by
   rw[size_toArray,←jO,HJ ns ns.length (le_refl _),take_length]
  rw[e]
  have qz:∀b o,s.heap.get? b=some o→aM.heap.get? b=some o:=fun b o dT=>M.heap b o (fun aa=>absurd (mem_singleton.mp aa) (ne_of_lt (lt_size dT))) (get?_push_of_some _ dT)
  obtain⟨h',g',d',t0,os'⟩:=aM
  obtain rfl:g'=s.gens:=M.gens
  obtain rfl:d'=s.drawn:=M.drawn
  obtain rfl:os'=s.os:=M.os
  exact⟨.int ns.sum,H,I.kept (t':=t0) qz,⟨t',rfl⟩,q⟩
end
theorem UO:typeLookup (.type "list_reverseiterator") "__len__"=pure none:=by rw[typeLookup_type,builtinLookup_eq_fast];kernel_rfl
theorem VO:typeLookup (.type "list_reverseiterator") "__length_hint__"=pure (some (.builtin "list_reverseiterator.__length_hint__")):=by rw[typeLookup_type,builtinLookup_eq_fast];kernel_rfl
theorem Vg {prog:Program}{w:World}{A:Around}{E:Value→Shared→Prop}{s:Shared}{r:Addr}{Q:Bool→Shared→Prop}(iD:s.TypeIs (.ref r) "list_reverseiterator") (h:Q false s):wpAny (model prog w) A (Builtin.List.listLengthHint (.ref r)) Q E s:=by
 unfold Builtin.List.listLengthHint
 refine wpAny_bind (wpAny_specialOf iD UO ?_)
 show wpAny _ A (specialOf (Value.ref r) (Str.ofString "__length_hint__") >>= _) _ _ _
 refine wpAny_bind (wpAny_specialOf iD VO ?_)
 generalize N8:("list_reverseiterator.__length_hint__":String)=ahA
 wp_delta
 rw[show splitId ahA=some ("list_reverseiterator","__length_hint__") from by subst N8;decide +kernel]
 subst N8
 refine wpAny_bind (wpAny_isInstance (T:="list_reverseiterator") (b:=true) iD (by rw[isSubtype_type];kernel_rfl) ?_)
 refine wpAny_ite_split (fun xo=>absurd xo (by decide)) (fun _=>?_)
 refine wpAny_ite_split (fun _=>?_) (fun xo=>absurd (by decide +kernel) xo)
 refine wpAny_ite_split (fun xo=>absurd xo (by decide +kernel)) (fun _=>?_)
 exact wpAny_pure h
theorem Vf {prog:Program}{w:World}{A:Around}{E:Value→Shared→Prop}{s:Shared}{it l:Addr}{items:Array Value}{Q:Value→Shared→Prop}(dD:A.handled=none) (hit:s.heap.IsRevIter it l ((items.size:Int) - 1)) (az:s.heap.IsList l items) (kF:l≠it) (aS:items.size≤sizeLine)
  (pk:∀h' bG acc c,(∀b o,b≠it→s.heap.get? b=some o→h'.get? b=some o)→h'.get? s.heap.objs.size=some { cls:=.type "list",dict:=none,data:=.seq acc c,slots := #[] }→ItemsOf (fun i v=>items[items.size - 1 - i]?=some v) acc items.size→Q (.ref s.heap.objs.size) { s with heap:=h',toks:=bG }) :
  wpAny (model prog w) A (call (.type "list") [.ref it]) Q E s:=by
 refine callType_codes (Q₁:=fun bR c5=>bR=.ref s.heap.objs.size∧c5={ s with heap:=s.heap.push { cls:=.type "list",data:=.seq #[] } }) PySem.F.called_list (PySem.F.typeCall_list_1 _) PySem.F.entry_list_init (code_list_new _ ⟨rfl,rfl⟩) fun bR c5 Ft=>?_
 obtain⟨rfl,rfl⟩:=Ft
 have Lm:it<s.heap.objs.size:=by obtain⟨o,aH,_⟩:=hit;exact lt_size aH
 have ah7:l<s.heap.objs.size:=by obtain⟨o,aH,_⟩:=az;exact lt_size aH
 have g1:(s.heap.push { cls:=.type "list",data:=.seq #[] }).get? s.heap.objs.size=some { cls:=.type "list",data:=.seq #[] }:=get?_push_size _ rfl
 refine⟨⟨_,g1,rfl⟩,PySem.F.args_list_init_2 _ _,?_⟩
 show wpAny _ _ (do let old ← Builtin.List.listItems (.ref s.heap.objs.size);Builtin.List.listUpdate (.ref s.heap.objs.size) (fun _ => #[]);letGo old.toList.reverse;Builtin.List.listExtendWith (.ref s.heap.objs.size) (.ref it) .none) _ _ _
 refine wpAny_bind ?_
 unfold Builtin.List.listItems
 refine wpAny_bind (wpAny_seqItems g1 rfl (wpAny_pure ?_))
 show wpAny _ _ (updateSeq s.heap.objs.size (fun _ => #[]) >>= fun _=>letGo (#[]:Array Value).toList.reverse >>= fun _=>Builtin.List.listExtendWith (.ref s.heap.objs.size) (.ref it) .none) _ _ _
 refine wpAny_bind (wpAny_updateSeq g1 rfl ?_)
 have g2:=get?_update_self (Obj.mapSeq (fun _=>(#[]:Array Value))) g1 rfl
 have zP:∀b o,s.heap.get? b=some o→((s.heap.push { cls:=.type "list",data:=.seq #[] }).update s.heap.objs.size (Obj.mapSeq (fun _=>(#[]:Array Value)))).get? b=some o :=
  fun b o e=>(get?_update_other _ _ (ne_of_gt (lt_size e))).trans (get?_push_of_some _ e)
 refine wpAny_bind (wpAny_letGo ?_)
 have ala:=(Walks.listRev (prog:=prog) (w:=w) (A:=A.in1.in1) dD it l kF items)
 have aiq:s.heap.objs.size∉[it,l]:=fun hm=>by
  rcases mem_cons.mp hm with z | z
  ·exact ne_of_gt Lm z
  ·exact ne_of_gt ah7 (mem_singleton.mp z)
 have e0:(items.size:Int) - 1 - ((0:Nat):Int)=(items.size:Int) - 1:=by omega
 have key:∀(h:Heap) (c₁ bG:Nat),(∀b o,s.heap.get? b=some o→h.get? b=some o)→h.get? s.heap.objs.size=some { cls:=.type "list",data:=.seq #[] c₁ } →
   codeAny (model prog w) A.in1 (.builtin "list.extend.loop" ⟨[.ref s.heap.objs.size,.ref it,.none],[]⟩) (wants (fun r hW=>r=.none∧Q (.ref s.heap.objs.size) hW) E) { s with heap:=h,toks:=bG }:=by
  intro h c₁ bG a8 g
  refine codeAny_extend_loopS ala.toS aS s.heap.objs.size aiq .none items.size 0 _ #[] c₁ rfl (zero_le _) ⟨zero_le _,by rw[e0];exact hit.at fun o e=>a8 it o e,az.at fun o e=>a8 l o e⟩ g (ItemsOf.nil _) fun aM zY gv hm g' e1=>?_
  rw[Moved.eq_with hm]
  refine⟨rfl,pk aM.heap aM.toks zY gv (fun b o aa e=>hm.heap b o (fun ac5=>?_) (a8 b o e)) g' e1⟩
  rcases mem_cons.mp ac5 with z | z
  ·exact absurd (lt_size e) (by rw[z];exact lt_irrefl _)
  ·exact aa (mem_singleton.mp z)
 have iD:Shared.TypeIs { s with heap:=(s.heap.push { cls:=.type "list",data:=.seq #[] }).update s.heap.objs.size (Obj.mapSeq (fun _=>(#[]:Array Value))) } (.ref it) "list_reverseiterator":=(hit.at fun o e=>zP it o e).typeIs
 unfold Builtin.List.listExtendWith
 refine wpAny_bind (wpAny_typeOf iD ?_)
 have ay:Builtin.List.listSameRef (.ref s.heap.objs.size) (.ref it)=false:=by simp[Builtin.List.listSameRef,ne_of_gt Lm]
 rw[if_neg (by rw[ay];decide)]
 refine wpAny_bind (wpAny_pyIter_revIter (hit.at fun o e=>zP it o e) ?_)
 refine wpAny_bind (wpAny_holding (Vg iD ?_))
 refine wpAny_ite_split (fun _=>?_) (fun _=>wpAny_pure ⟨plainId_quiet PySem.F.plain_extend_loop _,key _ _ _ zP g2⟩)
 refine wpAny_bind (wpAny_rule ?_)
 refine wpAny_bind ?_
 show wpAny _ _ (updateSeq s.heap.objs.size (·.push .none) >>= fun _=>updateSeq s.heap.objs.size (·.pop)) _ _ _
 refine wpAny_bind (wpAny_updateSeq g2 rfl ?_)
 have g3:=get?_update_self (Obj.mapSeq (·.push Value.none)) g2 rfl
 refine wpAny_updateSeq (hz:=by seq_fits) g3 rfl ?_
 have gF:=get?_update_self (Obj.mapSeq (·.pop)) g3 rfl
 refine wpAny_pure ⟨plainId_quiet PySem.F.plain_extend_loop _,key _ _ _ (fun b o e=>?_) gF⟩
 exact (get?_update_other _ _ (ne_of_gt (lt_size e))).trans ((get?_update_other _ _ (ne_of_gt (lt_size e))).trans (zP b o e))
section
variable {X:bE}
def Vc (K:PySem.W.Frag) (b8:TE):TE:=fun σ H Q=>b8 σ H fun x H1=>∃a xs,x=.ref a∧aR K H1 a xs∧∀l,H1 l=none→Q (.ref l) (upd H1 l (.lst xs.reverse))
theorem HX {e:Expr}{b8:TE}{hX fQ u7 Gr:Pos}(dD:X.A.handled=none) (cA:kX X "list") (hm:X.ai "list"=none) (aid:kX X "reversed") (ah6:X.ai "reversed"=none) (he:b3 X e b8)
  (a5:starEach [.Call (.Name "reversed" fQ) [e] [] u7] X.env=[(false,eval (.Call (.Name "reversed" fQ) [e] [] u7) X.env)]:=by rfl) (j3:starEach [e] X.env=[(false,eval e X.env)]:=by rfl) :
  b3 X (.Call (.Name "list" hX) [.Call (.Name "reversed" fQ) [e] [] u7] [] Gr) (Vc X.K b8):=by
 intro pins s σ H Q I h
 refine Call_ (pV I cA hm boot_list (PyProof.Rows.callWith_type1 ?_ a5 rfl))
 rw[a5]
 show wpAny _ _ (spliced [(false,eval (.Call (.Name "reversed" fQ) [e] [] u7) X.env)]) _ _ s
 refine Calls.spliced_cons ?_
 refine Call_ (pV I aid ah6 boot_reversed (PyProof.Rows.callWith_type1 ?_ j3 rfl))
 rw[j3]
 show wpAny _ _ (spliced [(false,eval e X.env)]) _ _ s
 refine Calls.spliced_cons (bS (he pins s σ H _ I h) fun u s1 ⟨x,H1,aY,a4,a,xs,ex,bg,q⟩=>?_)
 subst ex
 cases a4
 obtain⟨its,bp,pl,hz⟩:=aY.list bg
 have jO:=bp.length
 refine Calls.spliced_nil (call_reversed_list pl.isList ?_)
 refine Calls.spliced_nil ?_
 have kF:a≠s1.heap.objs.size:=by
  obtain⟨o,aH,_⟩:=pl.isList
  exact ne_of_lt (lt_size aH)
 refine Vf (items:=its.toArray) dD ⟨_,get?_push_size _ rfl,rfl,rfl⟩ (pl.isList.push _) kF (by rw[size_toArray];omega) fun h' bG acc c a8 ez e1=>?_
 have aic:∀b o,s1.heap.get? b=some o→h'.get? b=some o:=fun b o dT=>a8 b o (ne_of_lt (lt_size dT)) (get?_push_of_some _ dT)
 have br:Vals xs.reverse acc.toList:=by
  refine B5 (by rw[length_reverse,Array.length_toList,e1.1,size_toArray,jO]) fun j u a7=>?_
  have aJ:=e1.2 j u (by rw[←Array.getElem?_toList];exact a7)
  have de:j<xs.length:=by
   have:=(List.getElem?_eq_some_iff.mp a7).1
   rw[Array.length_toList,e1.1,size_toArray]at this
   omega
  rw[size_toArray]at aJ
  have aN:its[its.length - 1 - j]?=some u:=by simpa using aJ
  have uI:its.length - 1 - j<xs.length:=by omega
  obtain⟨hS,b2,hq⟩:=bp.get (getElem?_eq_getElem uI)
  rw[aN]at b2
  cases b2
  refine⟨_,?_,hq⟩
  rw[getElem?_reverse de]
  have cj:xs.length - 1 - j=its.length - 1 - j:=by omega
  rw[cj]
  exact getElem?_eq_getElem uI
 rw[size_push]at ez
 have fe:(s1.heap.push (revObj a ((its.toArray.size:Int) - 1))).objs.size=s1.heap.objs.size+1:=size_push ..
 have nQ:H1 (s1.heap.objs.size+1)=none:=aY.bD.fresh (le_succ _)
 show hk X pins σ Q (.ref (s1.heap.push (revObj a ((its.toArray.size:Int) - 1))).objs.size) _
 rw[fe]
 refine⟨.ref (s1.heap.objs.size+1),upd H1 (s1.heap.objs.size+1) (.lst xs.reverse),?_,rfl,q _ nQ⟩
 refine Inv.laid (s:=s1) (t':=bG) (a:=s1.heap.objs.size+1) (o:=.lst xs.reverse) aY aic (le_succ _) ⟨by rw[length_reverse];exact hz,acc.toList,c,br,by rw[Array.toArray_toList];exact ez⟩
end
def xC (K:PySem.W.Frag) (a:Addr) (n:Nat):ki :=
 ⟨fun i H=>i<n∧∃xs x,aR K H a xs∧xs[n - 1 - i]?=some x,fun i H x ah=>ah=H∧∀xs,aR K H a xs→xs[n - 1 - i]?=some x,fun i _=>i=n⟩
theorem Vb {P:Program}{w:World}{K:PySem.W.Frag}{fp:Expr}(a it:Addr) (n:Nat):Turn P w K fp (xC K a n) [it] it (fun i h=>h.IsRevIter it a ((n:Int) - 1 - (i:Int))) where
 mem:=by simp
 obj:=fun i h st b aa=>by
  have e:b=it:=by simpa using aa
  subst e
  obtain⟨o,e,c,d⟩:=st
  exact⟨o,e,fun v z=>by rw[d]at z;cases z⟩
 keep:=fun i h h' st k=>st.at fun o e=>k it (by simp) o e
 item:=by
  intro X gs hw hF aj i pins s σ H E I hf st cA
  subst gs hw hF
  obtain⟨aS,xs,x,bN,bg⟩:=cA
  obtain⟨its,bp,p,hz⟩:=I.list bN
  obtain⟨u,a7,eg⟩:=bp.get bg
  obtain⟨f0,f1,f2,eL,f4,e6⟩:=hf it (by simp)
  have r_:(n:Int) - 1 - (i:Int)=((n - 1 - i:Nat):Int):=by omega
  have afL:s.heap.IsRevIter it a ((n - 1 - i:Nat):Int):=by rw[←r_];exact st
  refine wpAny_pyNext_rev_item afL p.isList (x:=u) (by simpa using a7) fun h' g7 lx=>?_
  have aY:Inv X pins σ H { s with heap:=h' }:=I.turned (t':=s.toks) (fun b o aa e=>(lx.2 b aa).trans e) f0 f1 eL f4 e6
  have pz:((n - 1 - i:Nat):Int) - 1=(n:Int) - 1 - ((i+1:Nat):Int):=by omega
  rw[pz]at g7
  obtain⟨o,e,c,d⟩:=id g7
  exact⟨u,rfl,zI (s:={ s with heap:=h' }) e c d (by decide) ⟨x,H,aY,eg,⟨rfl,fun ys cg=>by rw[I.CF cg bN];exact bg⟩,g7,fun b aa=>(hf b aa).1⟩⟩
 done:=by
  intro X gs hw hF aj i pins s σ H E I hf st cA
  subst gs hw hF
  have cA:i=n:=cA
  subst cA
  obtain⟨f0,f1,f2,eL,f4,e6⟩:=hf it (by simp)
  have r_:(i:Int) - 1 - (i:Int) = -1:=by omega
  rw[r_]at st
  exact wpAny_pyNext_rev_end (I.ok.hd aj) st fun h' dT=>⟨rfl,I.turned (t':=s.toks) (fun b o aa e=>dT b o aa e) f0 f1 eL f4 e6⟩
 self:=fun _ _ _ _ _ st h=>wpAny_pyIter_revIter st h
section
variable {X:bE}{fp:Expr}
def acZ (K:PySem.W.Frag) (b8:TE):TI:=fun σ H R=>b8 σ H fun x H1=>∃a xs,x=.ref a∧aR K H1 a xs∧R (xC K a xs.length) H1
theorem W5 {l:Expr}{hD:TE}{p pos:Pos}(cA:kX X "reversed") (hm:X.ai "reversed"=none) (az:b3 X l hD) (a5:starEach [l] X.env=[(false,eval l X.env)]:=by rfl):qH X fp (.Call (.Name "reversed" p) [l] [] pos) (acZ X.K hD):=by
 intro pins s σ H R I h
 refine Call_ (pV I cA hm boot_reversed (PyProof.Rows.callWith_type1 ?_ a5 rfl))
 rw[a5]
 show wpAny _ _ (spliced [(false,eval l X.env)]) _ _ s
 refine Calls.spliced_cons (bS (az pins s σ H _ I h) fun u s1 ⟨x,H1,aY,a4,a,xs,ex,bg,q⟩=>?_)
 subst ex
 cases a4
 obtain⟨its,bp,pl,hz⟩:=aY.list bg
 have jO:=bp.length
 refine Calls.spliced_nil (call_reversed_list pl.isList ?_)
 have st:(s1.heap.push (revObj a ((its.toArray.size:Int) - 1))).IsRevIter s1.heap.objs.size a ((xs.length:Int) - 1 - ((0:Nat):Int)):=by
  have e:((its.toArray.size:Nat):Int) - 1=(xs.length:Int) - 1 - ((0:Nat):Int):=by rw[size_toArray];omega
  rw[←e]
  exact⟨_,get?_push_size _ rfl,rfl,rfl⟩
 refine wpAny_pyIter_revIter (s:={ s1 with heap:=s1.heap.push (revObj a ((its.toArray.size:Int) - 1)) }) st ?_
 refine⟨s1.heap.objs.size,[s1.heap.objs.size],_,_,H1,rfl,aY.kept (t':=s1.toks) fun b o e=>get?_push_of_some _ e,Vb a _ xs.length,st,fun b aa=>?_,q⟩
 have e:b=s1.heap.objs.size:=by simpa using aa
 subst e
 exact aY.rr (le_refl _) (aY.bD.fresh (le_refl _))
end
structure alO (X:bE) (m:Nat) (fr:List Nat) (d2:List Str) (scope:Scope) (cl:List (Str × Addr)):Prop where
 wL:closureFor scope X.env=pure cl
 cell:∀y∈scope.names,y.2≠.cell
 kind:scope.kind=.function
 names:∀y∈scope.names,y.2=.local→scope.names.lookup y.1=some .local
 sub:∀y c,cl.lookup y=some c→X.env.cells.lookup y=some c
 has:∀y,((relabel scope X.env).names.lookup y=some .cell∨(relabel scope X.env).names.lookup y=some .free)→∃c,cl.lookup y=some c
 len:d2.length=m+fr.length
 bl:d2.Nodup
 wR:∀(i j:Nat) (y:Str),d2[i+m]?=some y→fr[i]?=some j→X.N[j]?=some y∧X.env.scope.names.lookup y=some .cell∧(relabel scope X.env).names.lookup y=some .cell
section
variable {X:bE}{y:Str}{py pos zM:Pos}{fp:Expr}{g:jU}{m:Nat}{elt iter c:Expr}{scope:Scope}{cl:List (Str × Addr)}{d2:List Str}{fr:List Nat}{hp:TI}{b8:TE}{tt:TT}
end
def dg.D:dg→D
 | .put d p o n=>.tup [.str "put",.int d,.int (p:Nat),.int o,.int n]
 | .fin d=>.tup [.str "end",.int d]
inductive bO where
 | line (ln:dg)
 | eO (p:Nat) (n:Int)
 | cut (k:Nat)
def bO.D:bO→D
 | .line ln=>.tup [.str "line",ln.D]
 | .eO p n=>.tup [.str "page",.int (p:Nat),.int n]
 | .cut k=>.tup [.str "cut",.int (k:Nat)]
inductive b1 where
 | begin
 | put (d p n:Int)
 | fin (d:Int)
 | drop (d:Int)
 | look (p:Int)
 | carry (p:Int)
 | cut
def b1.D:b1→D
 | .begin=>.tup [.str "begin"]
 | .put d p n=>.tup [.str "put",.int d,.int p,.int n]
 | .fin d=>.tup [.str "end",.int d]
 | .drop d=>.tup [.str "drop",.int d]
 | .look p=>.tup [.str "look",.int p]
 | .carry p=>.tup [.str "carry",.int p]
 | .cut=>.tup [.str "cut"]
inductive dp where
 | num (i:Int)
 | word (x:Str)
def dp.D:dp→D
 | .num i=>.int i
 | .word x=>.str x
def dp.v:dp→V
 | .num i=>.int i
 | .word x=>.str x
mutual
def D.flat:D→Bool
 | .int _=>true
 | .str _=>true
 | .tup l=>q2 l
 | .lst _=>false
def q2:List D→Bool
 | []=>true
 | d::r=>d.flat && q2 r
end
mutual
theorem Rep.keep {H ah:ao}(k:el H ah):∀(d:D) (v:V),d.flat=true→Rep H d v→Rep ah d v
 | .int _,_,_,h=>h
 | .str _,_,_,h=>h
 | .tup l,_,f,h=>by
  unfold Rep at h ⊢
  obtain⟨a,xs,e,q,r⟩:=h
  unfold D.flat at f
  exact⟨a,xs,e,k _ _ q,bk.keep k l xs f r⟩
 | .lst l,_,f,_=>by unfold D.flat at f;cases f
theorem bk.keep {H ah:ao}(k:el H ah):∀(l:List D) (xs:List V),q2 l=true→bk H l xs→bk ah l xs
 | [],_,_,h=>h
 | d::r,_,f,h=>by
  unfold bk at h ⊢
  unfold q2 at f
  rw[and_eq_true]at f
  obtain⟨x,t,e,q,z⟩:=h
  exact⟨x,t,e,Rep.keep k d x f.1 q,bk.keep k r t f.2 z⟩
end
theorem eG {α:Type}{f:α→D}(h:∀a,(f a).flat=true):∀l:List α,q2 (l.map f)=true
 | []=>by unfold q2;rfl
 | a::r=>by
  rw[map_cons]
  unfold q2
  rw[h a,eG h r]
  rfl
theorem bO.gA (s:bO):s.D.flat=true:=by
 cases s with
 | line ln=>cases ln <;> rfl
 | eO p n=>rfl
 | cut k=>rfl
theorem b1.gA (d:b1):d.D.flat=true:=by cases d <;> rfl
theorem kZ {H:ao}{a:D}{v:V}(h:Rep H (.tup [a]) v):∃c x,v=.ref c∧H c=some (.tup [x])∧Rep H a x:=by
 obtain⟨c,xs,rfl,aj,r⟩:=h.qU
 obtain⟨x,t,rfl,ay,r⟩:=r.inv
 cases r.lX
 exact⟨c,x,rfl,aj,ay⟩
theorem er {H:ao}{a b:D}{v:V}(h:Rep H (.tup [a,b]) v):∃c x y,v=.ref c∧H c=some (.tup [x,y])∧Rep H a x∧Rep H b y:=by
 obtain⟨c,xs,rfl,aj,r⟩:=h.qU
 obtain⟨x,t,rfl,ay,r⟩:=r.inv
 obtain⟨y,t,rfl,aG,r⟩:=r.inv
 cases r.lX
 exact⟨c,x,y,rfl,aj,ay,aG⟩
theorem yP {H:ao}{a b d:D}{v:V}(h:Rep H (.tup [a,b,d]) v):∃c x y z,v=.ref c∧H c=some (.tup [x,y,z])∧Rep H a x∧Rep H b y∧Rep H d z:=by
 obtain⟨c,xs,rfl,aj,r⟩:=h.qU
 obtain⟨x,t,rfl,ay,r⟩:=r.inv
 obtain⟨y,t,rfl,aG,r⟩:=r.inv
 obtain⟨z,t,rfl,ct,r⟩:=r.inv
 cases r.lX
 exact⟨c,x,y,z,rfl,aj,ay,aG,ct⟩
theorem qS {H:ao}{a b d e:D}{v:V}(h:Rep H (.tup [a,b,d,e]) v):∃c x y z u,v=.ref c∧H c=some (.tup [x,y,z,u])∧Rep H a x∧Rep H b y∧Rep H d z∧Rep H e u:=by
 obtain⟨c,xs,rfl,aj,r⟩:=h.qU
 obtain⟨x,t,rfl,ay,r⟩:=r.inv
 obtain⟨y,t,rfl,aG,r⟩:=r.inv
 obtain⟨z,t,rfl,ct,r⟩:=r.inv
 obtain⟨u,t,rfl,dN,r⟩:=r.inv
 cases r.lX
 exact⟨c,x,y,z,u,rfl,aj,ay,aG,ct,dN⟩
theorem Vh {H:ao}{a b d e f:D}{v:V}(h:Rep H (.tup [a,b,d,e,f]) v):∃c x y z u w,v=.ref c∧H c=some (.tup [x,y,z,u,w])∧Rep H a x∧Rep H b y∧Rep H d z∧Rep H e u∧Rep H f w:=by
 obtain⟨c,xs,rfl,aj,r⟩:=h.qU
 obtain⟨x,t,rfl,ay,r⟩:=r.inv
 obtain⟨y,t,rfl,aG,r⟩:=r.inv
 obtain⟨z,t,rfl,ct,r⟩:=r.inv
 obtain⟨u,t,rfl,dN,r⟩:=r.inv
 obtain⟨w,t,rfl,gQ,r⟩:=r.inv
 cases r.lX
 exact⟨c,x,y,z,u,w,rfl,aj,ay,aG,ct,dN,gQ⟩
theorem kB.zE {H:ao}{ln:dg}{x:V}(h:Rep H ln.D x):kB H ln x:=by
 cases ln with
 | put d p o n =>
  obtain⟨c,u5,xM,akh,amu,amt,rfl,aj,ay,aG,ct,dN,gQ⟩:=Vh h
  cases ay.str_inv
  cases aG.int_inv
  cases ct.int_inv
  cases dN.int_inv
  cases gQ.int_inv
  exact⟨c,rfl,aj⟩
 | fin d =>
  obtain⟨c,u5,xM,rfl,aj,ay,aG⟩:=er h
  cases ay.str_inv
  cases aG.int_inv
  exact⟨c,rfl,aj⟩
structure av where
 b0:List Int
 aB:List Int
 log:List dg
 aT:List (Int × List (Nat × Int))
 room:Int
 begun:Nat
 d8:List bO
namespace av
def isOpen (h:av) (d:Int):Bool:=h.aT.any fun z=>z.1 == d
def bound (h:av):Int:=(h.aT.map fun z=>(z.2.length:Int)+1).sum
def dh (h:av) (d:Int):List (Nat × Int):=((h.aT.find? fun z=>z.1 == d).map (·.2)).getD []
def d5 (h:av) (p:Nat):Option Int:=(h.aT.find? fun z=>z.2.any fun y=>y.1 == p).map (·.1)
def cT (h:av) (s:bO):av:=match s with
 | .line ln=>{ h with d8:=h.d8++[s],log:=h.log++[ln] }
 | .eO p n=>{ h with d8:=h.d8++[s],b0:=h.b0.set p n }
 | .cut k=>{ h with d8:=h.d8++[s],log:=h.log.drop k }
end av
def ee (ce ak:List Int) (op:Int→Bool):List dg→Nat
 | []=>0
 | .fin _::r=>ee ce ak op r+1
 | .put d p _ _::r=>if op d=true∨(r.any (jw p)=false∧ce[p]?≠ak[p]?) then 0 else ee ce ak op r+1
namespace av
def dW (h:av):av:=if 0<ee h.b0 h.aB h.isOpen h.log then h.cT (.cut (ee h.b0 h.aB h.isOpen h.log)) else h
def ea (h:av) (p:Nat):av:=if h.b0[p]?=h.aB[p]? then h else h.cT (.eO p (h.aB.getD p 0))
def fZ (h:av) (more:Int):Bool:=decide ((h.log.length:Int)+h.bound+more≤h.room)
def ed (h:av):av:=((List.range h.aB.length).foldl ea h).dW
def full (h:av) (more:Int):av × Bool:=if h.fZ more=true then (h,false) else (h.ed, !h.ed.fZ more)
def putIn (h:av) (d:Int) (p:Nat) (n:Int):av:={ h.cT (.line (.put d p (h.aB.getD p 0) n)) with aB:=h.aB.set p n }
def eu (h:av) (d:Int):av:=(h.dh d).reverse.foldl (fun h z=>h.putIn d z.1 z.2) h
def jV (h:av) (d:Int):av:={ h.cT (.line (.fin d)) with aT:=h.aT.filter fun z=>z.1 != d }
def dA (h:av) (d:Int) (p:Nat):av:={ h with aT:=h.aT.map fun z=>if z.1=d then (z.1,z.2++[(p,h.aB.getD p 0)]) else z }
def began (h:av):av:={ h with begun:=h.begun+1 }
def opened (h:av):av:={ h with aT:=h.aT++[(((h.begun:Int) - 1),[])] }
def refusal (h:av):b1→Option Str
 | .begin=>none
 | .put d p _=>if h.isOpen d=false then some "no dealing" else if p<0∨(h.aB.length:Int)≤p then some "no page" else if h.d5 p.toNat=none∨h.d5 p.toNat=some d then none else some "taken"
 | .fin d=>if h.isOpen d=false then some "no dealing" else none
 | .drop d=>if h.isOpen d=false then some "no dealing" else none
 | .look p=>if p<0∨(h.aB.length:Int)≤p then some "no page" else none
 | .carry p=>if p<0∨(h.aB.length:Int)≤p then some "no page" else none
 | .cut=>none
def fy (h:av):b1→av × dp
 | .begin=>if (h.began.full 1).2=true then ((h.began.full 1).1,.word "no room") else ((h.began.full 1).1.opened,.num h.begun)
 | .put d p n=>if (h.full 2).2=true then ((h.full 2).1,.word "no room") else ((((h.full 2).1.dA d p.toNat).putIn d p.toNat n),.word "done")
 | .fin d=>(h.jV d,.word "done")
 | .drop d=>((h.eu d).jV d,.word "done")
 | .look p=>(h,.num (h.aB.getD p.toNat 0))
 | .carry p=>(h.ea p.toNat,.word "done")
 | .cut=>(h.dW,.word "done")
def a_ (h:av) (x:b1):av × dp:=match h.refusal x with
 | some w=>(h,.word w)
 | none=>h.fy x
end av
open PySem
theorem Vi {H:ao}{a:Addr}{p:Nat}{n:Int}(h:H a=some (.tup [.str "page",.int (p:Nat),.int n])):Rep H (bO.eO p n).D (.ref a) :=
 Rep.gS h (.cons .ofStr (.cons .ofInt (.cons .ofInt .nil)))
theorem We {H:ao}{a:Addr}{k:Nat}(h:H a=some (.tup [.str "cut",.int (k:Nat)])):Rep H (bO.cut k).D (.ref a) :=
 Rep.gS h (.cons .ofStr (.cons .ofInt .nil))
theorem HE:∀l:List bO,e3 (l.map bO.D)≤l.length * 8
 | []=>by rw[map_nil,mC];exact zero_le _
 | s::r=>by
  have:=HE r
  rw[map_cons,lN,length_cons]
  have h:s.D.e9≤8:=by
   cases s with
   | line ln=>cases ln <;> exact le_of_ble_eq_true rfl
   | eO p n=>exact le_of_ble_eq_true rfl
   | cut k=>exact le_of_ble_eq_true rfl
  omega
inductive h6 where
 | line (v:V)
 | eO (p:Nat) (n:Int)
 | cut (k:Int)
def D_ (H:ao):h6→V→Prop
 | .line v,x=>∃a,x=.ref a∧H a=some (.tup [.str "line",v])
 | .eO p n,x=>∃a,x=.ref a∧H a=some (.tup [.str "page",.int (p:Nat),.int n])
 | .cut k,x=>∃a,x=.ref a∧H a=some (.tup [.str "cut",.int k])
def h6.ok (c:Nat):h6→Prop
 | .eO p _=>p<c
 | _=>True
def h6.cp (ps:List V):h6→List V
 | .eO p n=>ps.set p (.int n)
 | _=>ps
def h6.cX (ls:List V):h6→List V
 | .line v=>ls++[v]
 | .cut k=>eS ls (some k) none
 | _=>ls
inductive F6 (H:ao):List h6→List V→Prop where
 | nil:F6 H [] []
 | snoc {Mt:List h6} {xs:List V} {fK:h6} {x:V} (h:F6 H Mt xs) (q:D_ H fK x):F6 H (Mt++[fK]) (xs++[x])
theorem yI {α β:Type}(f:β→α→β) (b:β) (l:List α) (i:Nat) (x:α) (h:l[i]?=some x):(l.take (i+1)).foldl f b=f ((l.take i).foldl f b) x:=by
 rw[take_add_one,h,foldl_append]
 rfl
theorem Yr:¬(V.str "cut"=V.str "page"):=by decide +kernel
theorem Dt:¬(("pages":Str)="log"):=by decide +kernel
def k7 (cp cX:Addr):List (Str × V):=dR "log" (.ref cX) (dR "pages" (.ref cp) [])
theorem CK (cp cX:Addr):k7 cp cX=([("pages",V.ref cp),("log",V.ref cX)]:List (Str × V)):=by
 show (if ("pages":Str)="log" then [(("pages":Str),V.ref cX)] else (("pages":Str),V.ref cp)::dR "log" (V.ref cX) [])=_
 rw[if_neg Dt]
 rfl
theorem Cd (cp cX:Addr):(k7 cp cX).lookup ("pages":Str)=some (.ref cp):=by
 unfold k7
 rw[qO,if_neg Dt,qO,if_pos rfl]
theorem yJ (cp cX:Addr):(k7 cp cX).lookup ("log":Str)=some (.ref cX):=by
 unfold k7
 rw[qO,if_pos rfl]
theorem V0 (cp cX:Addr) {m:Str}(ay:¬m="log") (aG:¬m="pages"):(k7 cp cX).lookup m=none:=by
 unfold k7
 rw[qO,if_neg ay,qO,if_neg aG]
 rfl
theorem U8 (cp cX l4:Addr):dR "log" (.ref l4) (k7 cp cX)=k7 cp l4:=by
 rw[CK,CK]
 show (if ("pages":Str)="log" then _ else (("pages":Str),V.ref cp)::(if ("log":Str)="log" then [(("log":Str),V.ref l4)] else _))=_
 rw[if_neg Dt,if_pos rfl]
structure zv (C:Addr) (H:ao) (c cp cX:Addr) (ps ls:List V):Prop where
 bR:∃dx,H c=some (.ins C dx (k7 cp cX))
 aI:H cp=some (.lst ps)
 az:H cX=some (.lst ls)
 ne:cp≠cX
structure pN (K:PySem.W.Frag) (ai:Str→Option Value) (C:Addr):Prop where
 cl:kJ K C
 BD:i3 K C "pages"
 u9:i3 K C "log"
 Al:ai "Cellar"=some (.ref C)
def CT (C:Addr):c3:=fun vs H Q _=>∃(c dx a b:Addr) (ps ls:List V),vs=[.ref c,.ref a,.ref b]∧H c=some (.ins C dx [])∧H a=some (.lst ps)∧H b=some (.lst ls) ∧
 ∀(cp cX:Addr) (ah:ao),H cp=none→H cX=none→zv C ah c cp cX ps ls→(∀b o,H b=some o→b≠c→ah b=some o)→Q .cE ah
def a8 (ce ak lo pu st:Addr) (room begun:Int):List (Key × V):=[(Sum.inr "cellar",.ref ce),(Sum.inr "desk",.ref ak),(Sum.inr "log",.ref lo),(Sum.inr "puts",.ref pu),(Sum.inr "room",.int room),(Sum.inr "begun",.int begun),(Sum.inr "strokes",.ref st)]
section
variable (ce ak lo pu st lo' g7:Addr) (room begun J7:Int)
theorem UX:dn (a8 ce ak lo pu st room begun) (Sum.inr "cellar")=some (.ref ce):=by kernel_rfl
theorem WB:dn (a8 ce ak lo pu st room begun) (Sum.inr "desk")=some (.ref ak):=by kernel_rfl
theorem Xw:dn (a8 ce ak lo pu st room begun) (Sum.inr "log")=some (.ref lo):=by kernel_rfl
theorem WA:dn (a8 ce ak lo pu st room begun) (Sum.inr "puts")=some (.ref pu):=by kernel_rfl
theorem Wz:dn (a8 ce ak lo pu st room begun) (Sum.inr "room")=some (.int room):=by kernel_rfl
theorem VT:dn (a8 ce ak lo pu st room begun) (Sum.inr "begun")=some (.int begun):=by kernel_rfl
theorem Ue:dn (a8 ce ak lo pu st room begun) (Sum.inr "strokes")=some (.ref st):=by kernel_rfl
theorem IC:putK (a8 ce ak lo pu st room begun) (Sum.inr "log") (.ref lo')=a8 ce ak lo' pu st room begun:=by kernel_rfl
theorem HN:putK (a8 ce ak lo pu st room begun) (Sum.inr "begun") (.int J7)=a8 ce ak lo pu st room J7:=by kernel_rfl
theorem Tt:putK (a8 ce ak lo pu st room begun) (Sum.inr "strokes") (.ref g7)=a8 ce ak lo pu g7 room begun:=by kernel_rfl
end
def pairD (z:Nat × Int):D:=.tup [.int (z.1:Nat),.int z.2]
theorem g5 (z:Nat × Int):(pairD z).flat=true:=rfl
def dX (pl:List (Int × Addr)):List (Key × V):=pl.map fun z=>(Sum.inl z.1,V.ref z.2)
def own (h ce ak pu st:Addr) (pl:List (Int × Addr)):List Addr:=h::ce::ak::pu::st::pl.map (·.2)
structure bB (H:ao) (h ce ak lo pu st:Addr) (pl:List (Int × Addr)) (x:av):Prop where
 dD:H h=some (.bQ (a8 ce ak lo pu st x.room x.begun))
 aj:H ce=some (.lst (x.b0.map V.int))
 hd:H ak=some (.lst (x.aB.map V.int))
 az:∃xs,H lo=some (.lst xs)∧gj H x.log xs
 aI:H pu=some (.bQ (dX pl))
 eK:pl.map (·.1)=x.aT.map (·.1)
 af:∀(i:Nat) z w,pl[i]?=some z→x.aT[i]?=some w→∃ys,H z.2=some (.lst ys)∧bk H (w.2.map pairD) ys
 bz:(x.aT.map (·.1)).Nodup
 fK:∃zs,H st=some (.lst zs)∧bk H (x.d8.map bO.D) zs
 ap:(own h ce ak pu st pl).Nodup
 nl:lo∉own h ce ak pu st pl
 cd:x.b0.length=x.aB.length
def gq (f5:List Addr) (H ah:ao):Prop:=∀b o,b∉f5→H b=some o→ah b=some o
theorem gq.refl (f5:List Addr) (H:ao):gq f5 H H:=fun _ _ _ h=>h
theorem gq.trans {f5:List Addr}{H H1 au:ao}(a:gq f5 H H1) (b:gq f5 H1 au):gq f5 H au:=fun c o aj h=>b c o aj (a c o aj h)
theorem bI.dQ {f5:List Addr}{H ah:ao}(s:bI H ah):gq f5 H ah:=fun b o _ h=>s b o h
theorem ju {f5:List Addr}{H:ao}{a:Addr}{o:fh}(h:a∈f5):gq f5 H (upd H a o):=fun b u aa q=>by
 rw[aA (fun e=>aa (by rw[e];exact h))]
 exact q
section
variable {H ah:ao}{h ce ak lo pu st:Addr}{pl:List (Int × Addr)}{x:av}
theorem bB.same (A:bB H h ce ak lo pu st pl x) (s:bI H ah):bB ah h ce ak lo pu st pl x:=by
 obtain⟨xs,aJ,aN⟩:=A.az
 obtain⟨zs,b2,cj⟩:=A.fK
 refine⟨s _ _ A.dD,s _ _ A.aj,s _ _ A.hd,⟨xs,s _ _ aJ,aN.mono fun a y q=>q.mono s.et⟩,s _ _ A.aI,A.eK,fun i z w a b=>?_,A.bz,⟨zs,s _ _ b2,bk.mono s _ _ cj⟩,A.ap,A.nl,A.cd⟩
 obtain⟨ys,bu,aV⟩:=A.af i z w a b
 exact⟨ys,s _ _ bu,bk.mono s _ _ aV⟩
theorem bB.ne (A:bB H h ce ak lo pu st pl x):h≠ce∧h≠ak∧h≠pu∧h≠st∧ce≠ak∧ce≠pu∧ce≠st∧ak≠pu∧ak≠st∧pu≠st∧lo≠h∧lo≠ce∧lo≠ak∧lo≠pu∧lo≠st∧(∀z∈pl,z.2≠h∧z.2≠ce∧z.2≠ak∧z.2≠pu∧z.2≠st∧z.2≠lo):=by
 have ap:=A.ap
 have nl:=A.nl
 unfold own at ap nl
 simp only[nodup_cons,mem_cons,not_or]at ap nl
 obtain⟨⟨a1,a2,kU,qE,pF⟩,⟨fO,i1,oq,G2⟩,⟨ep,f_,kT⟩,⟨akY,GW⟩,fe,_⟩:=ap
 obtain⟨fN,hY,qy,m6,gr,BK⟩:=nl
 refine⟨a1,a2,kU,qE,fO,i1,oq,ep,f_,akY,fN,hY,qy,m6,gr,fun z hz=>?_⟩
 have hm:z.2∈pl.map (·.2):=mem_map.mpr ⟨z,hz,rfl⟩
 exact⟨fun e=>pF (e ▸ hm),fun e=>G2 (e ▸ hm),fun e=>kT (e ▸ hm),fun e=>GW (e ▸ hm),fun e=>fe (e ▸ hm),fun e=>BK (e ▸ hm)⟩
theorem bB.setC (A:bB H h ce ak lo pu st pl x) {c:List Int}(aj:c.length=x.aB.length):bB (upd H ce (.lst (c.map V.int))) h ce ak lo pu st pl { x with b0:=c }:=by
 obtain⟨dH,dC,ej,e4,fL,f6,gN,gM,kK,lg,fM,fb,eW,f7,iZ,np⟩:=A.ne
 have kt:el H (upd H ce (.lst (c.map V.int))):=qR A.aj
 obtain⟨xs,aJ,aN⟩:=A.az
 obtain⟨zs,b2,cj⟩:=A.fK
 refine⟨by rw[aA dH];exact A.dD,aQ,by rw[aA fL.symm];exact A.hd,⟨xs,by rw[aA fb];exact aJ,aN.mono fun a y q=>q.mono kt⟩,by rw[aA f6.symm];exact A.aI,A.eK,fun i z w a b=>?_,A.bz,⟨zs,by rw[aA gN.symm];exact b2,bk.keep kt _ _ (eG bO.gA _) cj⟩,A.ap,A.nl,aj⟩
 obtain⟨ys,bu,aV⟩:=A.af i z w a b
 exact⟨ys,by rw[aA (np z (mem_of_getElem? a)).2.1];exact bu,bk.keep kt _ _ (eG g5 _) aV⟩
theorem bB.q7 (A:bB H h ce ak lo pu st pl x) {c:List Int}(aj:c.length=x.aB.length):bB (upd H ak (.lst (c.map V.int))) h ce ak lo pu st pl { x with aB:=c }:=by
 obtain⟨dH,dC,ej,e4,fL,f6,gN,gM,kK,lg,fM,fb,eW,f7,iZ,np⟩:=A.ne
 have kt:el H (upd H ak (.lst (c.map V.int))):=qR A.hd
 obtain⟨xs,aJ,aN⟩:=A.az
 obtain⟨zs,b2,cj⟩:=A.fK
 refine⟨by rw[aA dC];exact A.dD,by rw[aA fL];exact A.aj,aQ,⟨xs,by rw[aA eW];exact aJ,aN.mono fun a y q=>q.mono kt⟩,by rw[aA gM.symm];exact A.aI,A.eK,fun i z w a b=>?_,A.bz,⟨zs,by rw[aA kK.symm];exact b2,bk.keep kt _ _ (eG bO.gA _) cj⟩,A.ap,A.nl,by rw[A.cd,aj]⟩
 obtain⟨ys,bu,aV⟩:=A.af i z w a b
 exact⟨ys,by rw[aA (np z (mem_of_getElem? a)).2.2.1];exact bu,bk.keep kt _ _ (eG g5 _) aV⟩
theorem bB.KS (A:bB H h ce ak lo pu st pl x) {s:bO}{v:V}{zs:List V}(b2:H st=some (.lst zs)) (cj:bk H (x.d8.map bO.D) zs) (br:Rep H s.D v):bB (upd H st (.lst (zs++[v]))) h ce ak lo pu st pl { x with d8:=x.d8++[s] }:=by
 obtain⟨dH,dC,ej,e4,fL,f6,gN,gM,kK,lg,fM,fb,eW,f7,iZ,np⟩:=A.ne
 have kt:el H (upd H st (.lst (zs++[v]))):=qR b2
 obtain⟨xs,aJ,aN⟩:=A.az
 refine⟨by rw[aA e4];exact A.dD,by rw[aA gN];exact A.aj,by rw[aA kK];exact A.hd,⟨xs,by rw[aA iZ];exact aJ,aN.mono fun a y q=>q.mono kt⟩,by rw[aA lg];exact A.aI,A.eK,fun i z w a b=>?_,A.bz,⟨zs++[v],aQ,?_⟩,A.ap,A.nl,A.cd⟩
 ·obtain⟨ys,bu,aV⟩:=A.af i z w a b
  exact⟨ys,by rw[aA (np z (mem_of_getElem? a)).2.2.2.2.1];exact bu,bk.keep kt _ _ (eG g5 _) aV⟩
 ·show bk _ ((x.d8++[s]).map bO.D) _
  rw[map_append]
  exact (bk.keep kt _ _ (eG bO.gA _) cj).append (.cons (Rep.keep kt _ _ (bO.gA s) br) .nil)
theorem bB.DS (A:bB H h ce ak lo pu st pl x) {lo':Addr}{log:List dg}{xs:List V}(aJ:H lo'=some (.lst xs)) (aN:gj H log xs) (aS:lo'∉own h ce ak pu st pl):bB (upd H h (.bQ (putK (a8 ce ak lo pu st x.room x.begun) (Sum.inr "log") (.ref lo')))) h ce ak lo' pu st pl { x with log:=log }:=by
 obtain⟨dH,dC,ej,e4,fL,f6,gN,gM,kK,lg,fM,fb,eW,f7,iZ,np⟩:=A.ne
 rw[IC]
 have kt:el H (upd H h (.bQ (a8 ce ak lo' pu st x.room x.begun))):=fun b ys q=>by
  rw[aA (dK q A.dD (fun z=>nomatch z))]
  exact q
 obtain⟨zs,b2,cj⟩:=A.fK
 have ME:lo'≠h:=fun e=>aS (by rw[e];exact mem_cons_self)
 refine⟨aQ,by rw[aA dH.symm];exact A.aj,by rw[aA dC.symm];exact A.hd,⟨xs,by rw[aA ME];exact aJ,aN.mono fun a y q=>q.mono kt⟩,by rw[aA ej.symm];exact A.aI,A.eK,fun i z w a b=>?_,A.bz,⟨zs,by rw[aA e4.symm];exact b2,bk.keep kt _ _ (eG bO.gA _) cj⟩,A.ap,aS,A.cd⟩
 obtain⟨ys,bu,aV⟩:=A.af i z w a b
 exact⟨ys,by rw[aA (np z (mem_of_getElem? a)).1];exact bu,bk.keep kt _ _ (eG g5 _) aV⟩
theorem bB.setB (A:bB H h ce ak lo pu st pl x) {n:Nat}{b:Int}(aa:b=(n:Int)):bB (upd H h (.bQ (putK (a8 ce ak lo pu st x.room x.begun) (Sum.inr "begun") (.int b)))) h ce ak lo pu st pl { x with begun:=n }:=by
 subst aa
 obtain⟨dH,dC,ej,e4,fL,f6,gN,gM,kK,lg,fM,fb,eW,f7,iZ,np⟩:=A.ne
 rw[HN]
 have kt:el H (upd H h (.bQ (a8 ce ak lo pu st x.room (n:Int)))):=fun b ys q=>by
  rw[aA (dK q A.dD (fun z=>nomatch z))]
  exact q
 obtain⟨xs,aJ,aN⟩:=A.az
 obtain⟨zs,b2,cj⟩:=A.fK
 refine⟨aQ,by rw[aA dH.symm];exact A.aj,by rw[aA dC.symm];exact A.hd,⟨xs,by rw[aA fM];exact aJ,aN.mono fun a y q=>q.mono kt⟩,by rw[aA ej.symm];exact A.aI,A.eK,fun i z w a b=>?_,A.bz,⟨zs,by rw[aA e4.symm];exact b2,bk.keep kt _ _ (eG bO.gA _) cj⟩,A.ap,A.nl,A.cd⟩
 obtain⟨ys,bu,aV⟩:=A.af i z w a b
 exact⟨ys,by rw[aA (np z (mem_of_getElem? a)).1];exact bu,bk.keep kt _ _ (eG g5 _) aV⟩
end
def bO.okIn (x:av):bO→Prop
 | .line ln=>ln.ok x.aB.length
 | .eO p _=>p<x.aB.length
 | .cut _=>True
def av.fits (x:av) (k:Nat):Prop:=x.d8.length+k≤100000∧x.log.length+k≤100000∧∀ln∈x.log,ln.ok x.aB.length
theorem ia {n:Nat}(h:n≤200000):n<sizeLine:=by
 rw[sizeLine_eq]
 omega
theorem el.zj {H:ao}{a:Addr}{o:fh}{kvs:List (Key × V)}(h:H a=some (.bQ kvs)):el H (upd H a o):=fun b ys q=>by
 rw[aA (dK q h (fun z=>nomatch z))]
 exact q
section
variable {H ah:ao}{h ce ak lo pu st:Addr}{pl:List (Int × Addr)}{x:av}
theorem bB.C9 (A:bB H h ce ak lo pu st pl x):e2 H h (.str "cellar") (some (.ref ce)):=.inl ⟨_,Sum.inr "cellar",.inl A.dD,rfl,(UX ..).symm⟩
theorem bB.k6 (A:bB H h ce ak lo pu st pl x):e2 H h (.str "desk") (some (.ref ak)):=.inl ⟨_,Sum.inr "desk",.inl A.dD,rfl,(WB ..).symm⟩
theorem bB.wK (A:bB H h ce ak lo pu st pl x):e2 H h (.str "log") (some (.ref lo)):=.inl ⟨_,Sum.inr "log",.inl A.dD,rfl,(Xw ..).symm⟩
theorem bB.kv (A:bB H h ce ak lo pu st pl x):e2 H h (.str "puts") (some (.ref pu)):=.inl ⟨_,Sum.inr "puts",.inl A.dD,rfl,(WA ..).symm⟩
theorem bB.Kn (A:bB H h ce ak lo pu st pl x):e2 H h (.str "room") (some (.int x.room)):=.inl ⟨_,Sum.inr "room",.inl A.dD,rfl,(Wz ..).symm⟩
theorem bB.Dz (A:bB H h ce ak lo pu st pl x):e2 H h (.str "begun") (some (.int x.begun)):=.inl ⟨_,Sum.inr "begun",.inl A.dD,rfl,(VT ..).symm⟩
theorem bB.Ja (A:bB H h ce ak lo pu st pl x):e2 H h (.str "strokes") (some (.ref st)):=.inl ⟨_,Sum.inr "strokes",.inl A.dD,rfl,(Ue ..).symm⟩
theorem bB.K7 (A:bB H h ce ak lo pu st pl x) (v:V):nI H h (.str "log") v (upd H h (.bQ (putK (a8 ce ak lo pu st x.room x.begun) (Sum.inr "log") v))):=.inl ⟨_,Sum.inr "log",A.dD,rfl,(by show 7<sizeLine;rw[sizeLine_eq];decide),rfl⟩
theorem bB.W9 (A:bB H h ce ak lo pu st pl x) (v:V):nI H h (.str "begun") v (upd H h (.bQ (putK (a8 ce ak lo pu st x.room x.begun) (Sum.inr "begun") v))):=.inl ⟨_,Sum.inr "begun",A.dD,rfl,(by show 7<sizeLine;rw[sizeLine_eq];decide),rfl⟩
theorem bB.r2 (h ce ak pu st:Addr) (pl:List (Int × Addr)):h∈own h ce ak pu st pl:=mem_cons_self
theorem bB.u_ (h ce ak pu st:Addr) (pl:List (Int × Addr)):ce∈own h ce ak pu st pl:=mem_cons_of_mem _ mem_cons_self
theorem bB.BF (h ce ak pu st:Addr) (pl:List (Int × Addr)):ak∈own h ce ak pu st pl:=mem_cons_of_mem _ (mem_cons_of_mem _ mem_cons_self)
theorem bB.mp (h ce ak pu st:Addr) (pl:List (Int × Addr)):pu∈own h ce ak pu st pl:=mem_cons_of_mem _ (mem_cons_of_mem _ (mem_cons_of_mem _ mem_cons_self))
theorem bB.ms (h ce ak pu st:Addr) (pl:List (Int × Addr)):st∈own h ce ak pu st pl:=mem_cons_of_mem _ (mem_cons_of_mem _ (mem_cons_of_mem _ (mem_cons_of_mem _ mem_cons_self)))
theorem bB.BE {pl:List (Int × Addr)}{z:Int × Addr}(hz:z∈pl) (h ce ak pu st:Addr):z.2∈own h ce ak pu st pl:=mem_cons_of_mem _ (mem_cons_of_mem _ (mem_cons_of_mem _ (mem_cons_of_mem _ (mem_cons_of_mem _ (mem_map.mpr ⟨z,hz,rfl⟩)))))
theorem bB.there (A:bB H h ce ak lo pu st pl x) {b:Addr}(aa:H b=none):b∉own h ce ak pu st pl:=by
 intro hm
 unfold own at hm
 simp only[mem_cons,mem_map]at hm
 obtain⟨zs,b2,_⟩:=A.fK
 rcases hm with e | e | e | e | e | ⟨z,hz,e⟩
 ·rw[e,A.dD]at aa;cases aa
 ·rw[e,A.aj]at aa;cases aa
 ·rw[e,A.hd]at aa;cases aa
 ·rw[e,A.aI]at aa;cases aa
 ·rw[e,b2]at aa;cases aa
 ·obtain⟨i,aL⟩:=getElem?_of_mem hz
  have az:i<x.aT.length:=by
   have:=congrArg List.length A.eK
   rw[length_map,length_map]at this
   rw[←this]
   exact (List.getElem?_eq_some_iff.mp aL).1
  obtain⟨ys,q,_⟩:=A.af i z _ aL (getElem?_eq_getElem az)
  rw[e,aa]at q
  cases q
theorem pO:∀(pl:List (Int × Addr)) (d:Int),dn (dX pl) (Sum.inl d)=(pl.find? fun z=>z.1 == d).map fun z=>V.ref z.2
 | [],d=>rfl
 | z::r,d=>by
  show dn ((Sum.inl z.1,V.ref z.2)::dX r) (Sum.inl d)=_
  by_cases e:z.1=d
  ·rw[lK (by rw[e]),List.find?_cons_of_pos (by rw[e];exact beq_self_eq_true d)]
   rfl
  ·rw[lM (fun y=>e (Sum.inl.inj y)),find?_cons_of_neg (by simpa using e)]
   exact pO r d
theorem CI {α β γ:Type} [BEq α]:∀{l:List (α × β)}{m:List (α × γ)}(d:α),l.map (·.1)=m.map (·.1)→(l.find? fun z=>z.1 == d).isSome=(m.find? fun z=>z.1 == d).isSome
 | [],[],_,_=>rfl
 | [],_::_,_,h=>by cases h
 | _::_,[],_,h=>by cases h
 | a::l,b::m,d,h=>by
  rw[map_cons,map_cons]at h
  injection h with ay aG
  rw[find?_cons,find?_cons,ay]
  cases b.1 == d with
  | true=>rfl
  | false=>exact CI d aG
theorem bB.isOpen (A:bB H h ce ak lo pu st pl x) (d:Int):(dn (dX pl) (Sum.inl d)).isSome=x.isOpen d:=by
 rw[pO,Option.isSome_map,CI d A.eK]
 unfold av.isOpen
 induction x.aT with
 | nil=>rfl
 | cons z r c6 =>
  rw[find?_cons,any_cons]
  cases z.1 == d with
  | true=>rfl
  | false=>exact c6
theorem bB.tT (A:bB H h ce ak lo pu st pl x) (d:Int):e2 H pu (.int d) (dn (dX pl) (Sum.inl d)):=.inl ⟨_,Sum.inl d,.inl A.aI,rfl,rfl⟩
theorem bB.atC (A:bB H h ce ak lo pu st pl x) {p:Nat}(aI:p<x.aB.length):∃c,x.b0[p]?=some c∧nZ (x.b0.map V.int) (p:Int)=some (.int c):=by
 obtain⟨z,a,b⟩:=ku (ns:=x.b0) (k:=(p:Int)) (by omega) (by rw[A.cd];omega)
 exact⟨z,by simpa using a,b⟩
theorem bB.qp (A:bB H h ce ak lo pu st pl x) {p:Nat}(aI:p<x.aB.length):∃c,x.aB[p]?=some c∧nZ (x.aB.map V.int) (p:Int)=some (.int c):=by
 obtain⟨z,a,b⟩:=ku (ns:=x.aB) (k:=(p:Int)) (by omega) (by omega)
 exact⟨z,by simpa using a,b⟩
end
theorem Jg {K:PySem.W.Frag}{a:Addr}{xs:List V}{b8:TE}{bK:St}{Q:cC}{H:ao}{acc:Addr}(W:Nat→List V→ao→Prop) (hz:xs.length≤1000) (start:W 0 [] (upd H acc (.lst []))) (jA:∀i ys au,W i ys au→au a=some (.lst xs)∧ys.length=i)
  (step:∀(i:Nat) x ys au (k:cC),i<xs.length→xs[i]?=some x→W i ys au→(∀lu fP,fP acc=some (.lst ys)→W (i+1) (ys++[lu]) (upd fP acc (.lst (ys++[lu])))→k lu fP)→b8 (some x::bK) au k)
  (fin:∀ys au,W xs.length ys au→Q (.ref acc) au):tV (o_ K a) b8 bK Q H acc:=by
 refine⟨xs.length,fun i ys au=>i≤xs.length∧W i ys au,⟨zero_le _,start⟩,?_⟩
 rintro i ys au ⟨aL,GI⟩
 obtain⟨mW,gg⟩:=jA i ys au GI
 by_cases dw:i<xs.length
 ·have bg:xs[i]?=some xs[i]:=getElem?_eq_getElem dw
  refine .inr ⟨⟨xs,xs[i],aR.of mW,bg⟩,dw,?_⟩
  rintro v a9 ⟨rfl,br⟩
  have ev:v=xs[i]:=by
   have:=br _ (aR.of mW)
   rw[bg]at this
   exact (Option.some.inj this).symm
  subst ev
  exact step i _ ys _ _ dw bg GI fun lu fP GK rW=>⟨GK,lt_of_le_of_lt (by omega:ys.length≤1000) (by decide),dw,rW⟩
 ·have e:i=xs.length:=by omega
  subst e
  exact .inl ⟨⟨xs,aR.of mW,le_refl _⟩,fin ys au GI⟩
theorem U6 {K:PySem.W.Frag}{a:Addr}{xs zs:List V}{b8:TE}{bK:St}{Q:cC}{H:ao}{acc:Addr}(aX:H a=some (.lst xs)) (h0:H acc=none) (hz:xs.length≤1000) (az:zs.length=xs.length)
  (he:∀(i:Nat) x z a9 (k:cC),xs[i]?=some x→zs[i]?=some z→bI H a9→k z a9→b8 (some x::bK) a9 k)
  (q:Q (.ref acc) (upd H acc (.lst zs))):tV (o_ K a) b8 bK Q H acc:=by
 have Aj:a≠acc:=cD aX h0
 refine Jg (fun i ys au=>ys.length=i∧ys=zs.take i∧au=upd H acc (.lst ys)) hz ⟨rfl,rfl,rfl⟩ (fun i ys au ⟨e0,e,aN⟩=>?_) (fun i x ys au k aL bg ⟨e0,aJ,aN⟩ a8=>?_) (fun ys au ⟨e0,aJ,aN⟩=>?_)
 ·subst aN
  exact⟨by rw[aA Aj];exact aX,e0⟩
 ·have rH:i<zs.length:=by omega
  obtain⟨z,NW⟩:∃z,zs[i]?=some z:=⟨_,getElem?_eq_getElem rH⟩
  subst aN
  refine he i x z _ _ bg NW (bP h0 _) (a8 _ _ aQ ⟨by rw[length_append,e0];rfl,?_,by rw[qT]⟩)
  rw[take_add_one,NW,←aJ]
  rfl
 ·rw[←az,take_length]at aJ
  subst aJ aN
  exact q
section
variable {X:bE}{K:PySem.W.Frag}
theorem Tu (h:X.K=K):mG X (.builtin "len") (fun xs H Q=>∃p ys,xs=[.ref p]∧(aR K H p ys∨aF K H p ys)∧Q (.int ys.length) H):=by subst h;exact e8
end
section
variable {x:av}{s:bO}{k:Nat}
theorem av.fits.mono {j:Nat}(h:x.fits k) (de:j≤k):x.fits j:=⟨by have:=h.1;omega,by have:=h.2.1;omega,h.2.2⟩
theorem qM:(x.cT s).aB=x.aB:=by cases s <;> rfl
theorem oA:(x.cT s).aT=x.aT:=by cases s <;> rfl
theorem HF:(x.cT s).room=x.room:=by cases s <;> rfl
theorem qK:(x.cT s).begun=x.begun:=by cases s <;> rfl
theorem Hp:(x.cT s).d8=x.d8++[s]:=by cases s <;> rfl
theorem av.fits.cT (h:x.fits (k+1)) (ok:s.okIn x):(x.cT s).fits k:=by
 obtain⟨ay,aG,ct⟩:=h
 refine⟨?_,?_,?_⟩
 ·rw[Hp,length_append,length_singleton]
  omega
 ·cases s with
  | line ln =>
   show (x.log++[ln]).length+k≤_
   rw[length_append,length_singleton]
   omega
  | eO p n =>
   show x.log.length+k≤_
   omega
  | cut j =>
   show (x.log.drop j).length+k≤_
   rw[length_drop]
   omega
 ·rw[qM]
  intro l az
  cases s with
  | line ln =>
   have Fx:l∈x.log++[ln]:=az
   rcases mem_append.mp Fx with z | z
   ·exact ct l z
   ·rw[mem_singleton.mp z];exact ok
  | eO p n=>exact ct l az
  | cut j=>exact ct l (List.mem_of_mem_drop az)
theorem yp {p:Nat}:(x.ea p).aB=x.aB:=by
 unfold av.ea
 split
 ·rfl
 ·exact qM
theorem vG {p:Nat}:(x.ea p).aT=x.aT:=by
 unfold av.ea
 split
 ·rfl
 ·exact oA
theorem av.fits.carry {p:Nat}(h:x.fits (k+1)) (aI:p<x.aB.length):(x.ea p).fits k:=by
 unfold av.ea
 split
 ·exact h.mono (by omega)
 ·exact h.cT aI
theorem vL:x.dW.aB=x.aB:=by
 unfold av.dW
 split
 ·exact qM
 ·rfl
theorem sD:x.dW.aT=x.aT:=by
 unfold av.dW
 split
 ·exact oA
 ·rfl
theorem av.fits.dW (h:x.fits (k+1)):x.dW.fits k:=by
 unfold av.dW
 split
 ·exact h.cT True.intro
 ·exact h.mono (by omega)
def av.fk (x:av) (i:Nat):av:=(List.range i).foldl av.ea x
theorem kq {i:Nat}:x.fk (i+1)=(x.fk i).ea i:=by
 unfold av.fk
 rw[List.range_succ,foldl_append]
 rfl
theorem oz:∀{i:Nat},(x.fk i).aB=x.aB
 | 0=>rfl
 | i+1=>by rw[kq,yp];exact oz
theorem Hz:∀{i:Nat},(x.fk i).aT=x.aT
 | 0=>rfl
 | i+1=>by rw[kq,vG];exact Hz
theorem av.fits.fk:∀{i k:Nat},x.fits (i+k)→i≤x.aB.length→(x.fk i).fits k
 | 0,k,h,_=>by rw[zero_add]at h;exact h
 | i+1,k,h,aL=>by
  rw[kq]
  exact (av.fits.fk (k:=k+1) (by rw[←Nat.add_assoc,Nat.add_right_comm];exact h) (by omega)).carry (by rw[oz];omega)
theorem jn:x.ed=(x.fk x.aB.length).dW:=rfl
theorem Ht:x.ed.aB=x.aB:=by rw[jn,vL,oz]
theorem ym:x.ed.aT=x.aT:=by rw[jn,sD,Hz]
end
theorem lJ {β:Type}:∀{l:List (Int × β)},(l.map (·.1)).Nodup→∀{i:Nat}{z:Int × β},l[i]?=some z→l.find? (fun y=>y.1 == z.1)=some z
 | [],_,i,z,h=>by simp at h
 | a::l,aS,i,z,h=>by
  rw[map_cons,nodup_cons]at aS
  cases i with
  | zero =>
   have e:a=z:=Option.some.inj h
   subst e
   rw[find?_cons,beq_self_eq_true]
  | succ i =>
   have aG:l[i]?=some z:=by simpa using h
   have ne:¬a.1=z.1:=fun e=>aS.1 (mem_map.mpr ⟨z,mem_of_getElem? aG,e.symm⟩)
   rw[find?_cons_of_neg (by simpa using ne)]
   exact lJ aS.2 aG
theorem H5 {α:Type}{f:α→Bool}:∀{l:List α}{i:Nat}{z:α},l[i]?=some z→(l.take i).find? f=none→f z=true→l.find? f=some z
 | [],i,z,h,_,_=>by simp at h
 | a::l,0,z,h,_,hf=>by
  have e:a=z:=Option.some.inj h
  subst e
  rw[List.find?_cons_of_pos hf]
 | a::l,i+1,z,h,aS,hf=>by
  rw[List.take_succ_cons,find?_cons]at aS
  cases aX:f a with
  | true=>rw[aX]at aS;cases aS
  | false =>
   rw[aX]at aS
   rw[find?_cons_of_neg (by rw[aX];decide)]
   exact H5 (by simpa using h) aS hf
theorem U0 {α:Type}{f:α→Bool}{l:List α}{i:Nat}{z:α}(h:l[i]?=some z) (aS:(l.take i).find? f=none) (hf:f z=false):(l.take (i+1)).find? f=none:=by
 rw[take_add_one,h,List.find?_append,aS]
 show ([z].find? f)=none
 rw[find?_cons_of_neg (by rw[hf];decide)]
 rfl
theorem mB {α:Type}{f:α→D}{H:ao}:∀{l:List α}{ys:List V},bk H (l.map f) ys→∀{j:Nat}{v:V},ys[j]?=some v→∃z,l[j]?=some z∧Rep H (f z) v
 | [],ys,r,j,v,h=>by
  rw[map_nil]at r
  cases r.lX
  simp at h
 | a::l,ys,r,j,v,h=>by
  rw[map_cons]at r
  obtain⟨x,t,rfl,a4,bH⟩:=r.inv
  cases j with
  | zero =>
   have e:x=v:=Option.some.inj h
   subst e
   exact⟨a,rfl,a4⟩
  | succ j =>
   obtain⟨z,dE,dU⟩:=mB bH (j:=j) (v:=v) (by simpa using h)
   exact⟨z,by simpa using dE,dU⟩
section
variable {H ah:ao}{h ce ak lo pu st:Addr}{pl:List (Int × Addr)}{x:av}
theorem bB.lW (A:bB H h ce ak lo pu st pl x):pl.length=x.aT.length:=by
 have:=congrArg List.length A.eK
 rw[length_map,length_map]at this
 exact this
theorem bB.at_ (A:bB H h ce ak lo pu st pl x) {i:Nat}{z:Int × Addr}(hz:pl[i]?=some z):∃w ys,x.aT[i]?=some w∧w.1=z.1∧H z.2=some (.lst ys)∧bk H (w.2.map pairD) ys∧e2 H pu (.int z.1) (some (.ref z.2)):=by
 have aL:i<x.aT.length:=by rw[←A.lW];exact (List.getElem?_eq_some_iff.mp hz).1
 have hw:x.aT[i]?=some x.aT[i]:=getElem?_eq_getElem aL
 obtain⟨ys,bu,aV⟩:=A.af i z _ hz hw
 have aJ:(pl.map (·.1))[i]?=some z.1:=by rw[getElem?_map,hz];rfl
 have aN:(x.aT.map (·.1))[i]?=some (x.aT[i]).1:=by rw[getElem?_map,hw];rfl
 rw[A.eK,aN]at aJ
 refine⟨_,ys,hw,Option.some.inj aJ,bu,aV,?_⟩
 have g:=A.tT z.1
 rw[pO,lJ (by rw[A.eK];exact A.bz) hz]at g
 exact g
theorem C1 (pl:List (Int × Addr)):((dX pl).map fun z=>d9 z.1)=(pl.map (·.1)).map V.int:=by
 unfold dX
 rw[map_map,map_map]
 rfl
end
theorem Jv (pl:List (Int × Addr)) (d:Int):kx (dX pl) (Sum.inl d)=dX (pl.filter fun z=>z.1 != d):=by
 unfold kx dX
 induction pl with
 | nil=>rfl
 | cons z r c6 =>
  rw[map_cons,filter_cons,filter_cons,c6]
  by_cases e:z.1=d
  ·rw[e]
   simp
  ·have aJ:(z.1 != d)=true:=bne_iff_ne.mpr e
   have aN:decide ((Sum.inl z.1:Key)≠Sum.inl d)=true:=decide_eq_true fun y=>e (Sum.inl.inj y)
   rw[if_pos aJ]
   show (if decide ((Sum.inl z.1:Key)≠Sum.inl d)=true then _ else _)=_
   rw[if_pos aN]
   rfl
theorem B4 {R:Int × Addr→Int × List (Nat × Int)→Prop}(f:Int→Bool):∀{l:List (Int × Addr)}{m:List (Int × List (Nat × Int))},l.map (·.1)=m.map (·.1)→(∀(i:Nat) z w,l[i]?=some z→m[i]?=some w→R z w) →
  ((l.filter fun z=>f z.1).map (·.1)=(m.filter fun z=>f z.1).map (·.1))∧∀(i:Nat) z w,(l.filter fun z=>f z.1)[i]?=some z→(m.filter fun z=>f z.1)[i]?=some w→R z w
 | [],[],_,_=>⟨rfl,fun i z w h=>by simp at h⟩
 | [],_::_,h,_=>by cases h
 | _::_,[],h,_=>by cases h
 | a::l,b::m,h,aC=>by
  rw[map_cons,map_cons]at h
  injection h with ay aG
  obtain⟨hb,kc⟩:=B4 (R:=R) f aG fun i z w p q=>aC (i+1) z w (by simpa using p) (by simpa using q)
  rw[filter_cons,filter_cons,ay]
  cases hf:f b.1 with
  | false =>
   rw[if_neg Bool.false_ne_true,if_neg Bool.false_ne_true]
   exact⟨hb,kc⟩
  | true =>
   rw[if_pos rfl,if_pos rfl]
   refine⟨by rw[map_cons,map_cons,ay,hb],fun i z w p q=>?_⟩
   cases i with
   | zero=>exact aC 0 z w (by simpa using p) (by simpa using q)
   | succ i=>exact kc i z w (by simpa using p) (by simpa using q)
theorem oE {h ce ak pu st b:Addr}{pl:List (Int × Addr)}:b∈own h ce ak pu st pl↔b=h∨b=ce∨b=ak∨b=pu∨b=st∨∃z∈pl,z.2=b:=by
 unfold own
 simp only[mem_cons,mem_map]
section
variable {H ah:ao}{h ce ak lo pu st:Addr}{pl:List (Int × Addr)}{x:av}
theorem bB.ended (A:bB H h ce ak lo pu st pl x) (d:Int):bB (upd H pu (.bQ (kx (dX pl) (Sum.inl d)))) h ce ak lo pu st (pl.filter fun z=>z.1 != d) { x with aT:=x.aT.filter fun z=>z.1 != d }:=by
 obtain⟨dH,dC,ej,e4,fL,f6,gN,gM,kK,lg,fM,fb,eW,f7,iZ,np⟩:=A.ne
 have kt:el H (upd H pu (.bQ (kx (dX pl) (Sum.inl d)))):=el.zj A.aI
 obtain⟨xs,aJ,aN⟩:=A.az
 obtain⟨zs,b2,cj⟩:=A.fK
 obtain⟨hb,kc⟩:=B4 (R:=fun z w=>z∈pl∧∃ys,H z.2=some (.lst ys)∧bk H (w.2.map pairD) ys) (fun y=>y != d) A.eK fun i z w p q=>⟨mem_of_getElem? p,A.af i z w p q⟩
 have sub:(own h ce ak pu st (pl.filter fun z=>z.1 != d)).Sublist (own h ce ak pu st pl):=by
  unfold own
  exact ((((filter_sublist.map _).cons_cons _).cons_cons _).cons_cons _).cons_cons _ |>.cons_cons _
 refine⟨by rw[aA ej];exact A.dD,by rw[aA f6];exact A.aj,by rw[aA gM];exact A.hd,⟨xs,by rw[aA f7];exact aJ,aN.mono fun a y q=>q.mono kt⟩,by rw[aQ,Jv],hb,fun i z w a b=>?_,(filter_sublist.map _).nodup A.bz,⟨zs,by rw[aA lg.symm];exact b2,bk.keep kt _ _ (eG bO.gA _) cj⟩,sub.nodup A.ap,fun m=>A.nl (sub.mem m),A.cd⟩
 obtain⟨hz,ys,bu,aV⟩:=kc i z w a b
 exact⟨ys,by rw[aA (np z hz).2.2.2.1];exact bu,bk.keep kt _ _ (eG g5 _) aV⟩
theorem bB.opened (A:bB H h ce ak lo pu st pl x) {d:Int}{a:Addr}(aX:H a=some (.lst [])) (aS:a∉own h ce ak pu st pl) (az:a≠lo) (hd:x.isOpen d=false) :
  bB (upd H pu (.bQ (putK (dX pl) (Sum.inl d) (.ref a)))) h ce ak lo pu st (pl++[(d,a)]) { x with aT:=x.aT++[(d,[])] }:=by
 obtain⟨dH,dC,ej,e4,fL,f6,gN,gM,kK,lg,fM,fb,eW,f7,iZ,np⟩:=A.ne
 have kt:el H (upd H pu (.bQ (putK (dX pl) (Sum.inl d) (.ref a)))):=el.zj A.aI
 obtain⟨xs,aJ,aN⟩:=A.az
 obtain⟨zs,b2,cj⟩:=A.fK
 have pe:dn (dX pl) (Sum.inl d)=none:=by
  have:=A.isOpen d
  rw[hd]at this
  exact Option.isNone_iff_eq_none.mp (by rw[←Option.not_isSome,this];rfl)
 have b7:putK (dX pl) (Sum.inl d) (.ref a)=dX (pl++[(d,a)]):=by
  rw[I3 _ pe]
  unfold dX
  rw[map_append]
  rfl
 have bl:¬d∈x.aT.map (·.1):=by
  intro m
  obtain⟨z,hz,e⟩:=mem_map.mp m
  have:x.isOpen d=true:=any_eq_true.mpr ⟨z,hz,by rw[e];exact beq_self_eq_true d⟩
  rw[hd]at this
  cases this
 have qx:=A.lW
 have ht:own h ce ak pu st (pl++[(d,a)])=own h ce ak pu st pl++[a]:=by
  unfold own
  rw[map_append]
  rfl
 refine⟨by rw[aA ej];exact A.dD,by rw[aA f6];exact A.aj,by rw[aA gM];exact A.hd,⟨xs,by rw[aA f7];exact aJ,aN.mono fun a y q=>q.mono kt⟩,by rw[aQ,b7],by rw[map_append,map_append,A.eK];rfl,fun i z w p q=>?_,?_,⟨zs,by rw[aA lg.symm];exact b2,bk.keep kt _ _ (eG bO.gA _) cj⟩,?_,?_,A.cd⟩
 ·by_cases aL:i<pl.length
  ·rw[getElem?_append_left aL]at p
   rw[getElem?_append_left (by omega)]at q
   obtain⟨ys,bu,aV⟩:=A.af i z w p q
   exact⟨ys,by rw[aA (np z (mem_of_getElem? p)).2.2.2.1];exact bu,bk.keep kt _ _ (eG g5 _) aV⟩
  ·have rH:i=pl.length:=by
    have:=(List.getElem?_eq_some_iff.mp p).1
    rw[length_append,length_singleton]at this
    omega
   subst rH
   rw[getElem?_append_right (le_refl _),sub_self]at p
   rw[qx,getElem?_append_right (le_refl _),sub_self]at q
   have gu:(d,a)=z:=Option.some.inj p
   have jR:((d,[]):Int × List (Nat × Int))=w:=Option.some.inj q
   subst gu jR
   have na:a≠pu:=fun e=>aS (by rw[e];exact bB.mp ..)
   exact⟨[],by rw[aA na];exact aX,.nil⟩
 ·rw[map_append,nodup_append]
  refine⟨A.bz,by simp,fun u a7 v br=>?_⟩
  have l5:v=d:=by simpa using br
  subst l5
  exact fun e=>bl (e ▸ a7)
 ·rw[ht,nodup_append]
  refine⟨A.ap,by simp,fun u a7 v br=>?_⟩
  have l5:v=a:=by simpa using br
  subst l5
  exact fun e=>aS (e ▸ a7)
 ·rw[ht]
  intro m
  rcases mem_append.mp m with z | z
  ·exact A.nl z
  ·exact az (mem_singleton.mp z).symm
theorem JV:∀{l:List (Int × List (Nat × Int))}{d:Int}{y:Nat × Int}{j:Nat}{w:Int × List (Nat × Int)},(l.map fun z=>if z.1=d then (z.1,z.2++[y]) else z)[j]?=some w→∃eb,l[j]?=some eb∧w=if eb.1=d then (eb.1,eb.2++[y]) else eb:=fun {l d y j w} h=>by
 rw[getElem?_map]at h
 cases e:l[j]? with
 | none=>rw[e]at h;cases h
 | some eb =>
  rw[e]at h
  exact⟨eb,rfl,(Option.some.inj h).symm⟩
theorem bB.dA (A:bB H h ce ak lo pu st pl x) {i:Nat}{d:Int}{a:Addr}{ys:List V}{y:Nat × Int}{v:V}(aL:pl[i]?=some (d,a)) (aX:H a=some (.lst ys)) (br:Rep H (pairD y) v) :
  bB (upd H a (.lst (ys++[v]))) h ce ak lo pu st pl { x with aT:=x.aT.map fun z=>if z.1=d then (z.1,z.2++[y]) else z }:=by
 obtain⟨dH,dC,ej,e4,fL,f6,gN,gM,kK,lg,fM,fb,eW,f7,iZ,np⟩:=A.ne
 obtain⟨k1,k2,k3,jP,k5,xY⟩:=np _ (mem_of_getElem? aL)
 have kt:el H (upd H a (.lst (ys++[v]))):=qR aX
 obtain⟨xs,aJ,aN⟩:=A.az
 obtain⟨zs,b2,cj⟩:=A.fK
 have kO:(x.aT.map fun z=>if z.1=d then (z.1,z.2++[y]) else z).map (·.1)=x.aT.map (·.1):=by
  rw[map_map]
  refine map_congr_left fun z _=>?_
  show (if z.1=d then (z.1,z.2++[y]) else z).1=z.1
  split <;> rfl
 have ap:=A.ap
 have Ey:(pl.map (·.2)).Nodup:=by
  unfold own at ap
  simp only[nodup_cons]at ap
  exact ap.2.2.2.2.2
 refine⟨by rw[aA (Ne.symm k1)];exact A.dD,by rw[aA (Ne.symm k2)];exact A.aj,by rw[aA (Ne.symm k3)];exact A.hd,⟨xs,by rw[aA (Ne.symm xY)];exact aJ,aN.mono fun a y q=>q.mono kt⟩,by rw[aA (Ne.symm jP)];exact A.aI,by rw[kO];exact A.eK,fun j z w p q=>?_,by rw[kO];exact A.bz,⟨zs,by rw[aA (Ne.symm k5)];exact b2,bk.keep kt _ _ (eG bO.gA _) cj⟩,A.ap,A.nl,A.cd⟩
 obtain⟨eb,bu,rfl⟩:=JV q
 obtain⟨us,jJ,hS⟩:=A.af j z eb p bu
 obtain⟨eU,_,t1,en,_,_,_⟩:=A.at_ p
 rw[bu]at t1
 cases t1
 by_cases e:z=(d,a)
 ·subst e
  rw[if_pos en]
  rw[aX]at jJ
  cases jJ
  refine⟨ys++[v],aQ,?_⟩
  show bk _ ((eb.2++[y]).map pairD) _
  rw[map_append]
  exact (bk.keep kt _ _ (eG g5 _) hS).append (.cons (Rep.keep kt _ _ (g5 y) br) .nil)
 ·have bl:¬eb.1=d:=by
   intro b6
   have f1:=lJ (l:=pl) (by rw[A.eK];exact A.bz) p
   have f2:=lJ (l:=pl) (by rw[A.eK];exact A.bz) aL
   rw[←en,b6]at f1
   have eL:pl.find? (fun y=>y.1 == d)=some (d,a):=f2
   rw[eL]at f1
   exact e (Option.some.inj f1).symm
  have na:z.2≠a:=by
   intro b6
   obtain⟨amy,fe⟩:=List.getElem?_eq_some_iff.mp p
   have g1:(pl.map (·.2))[j]?=some a:=by rw[getElem?_map,p];exact congrArg some b6
   have g2:(pl.map (·.2))[i]?=some a:=by rw[getElem?_map,aL];rfl
   have de:j=i:=by
    have fN:=(List.getElem?_eq_some_iff.mp g1).1
    exact (List.getElem?_inj fN Ey).mp (g1.trans g2.symm)
   subst de
   rw[p]at aL
   exact e (Option.some.inj aL)
  rw[if_neg bl]
  exact⟨us,by rw[aA na];exact jJ,bk.keep kt _ _ (eG g5 _) hS⟩
theorem bB.pR (A:bB H h ce ak lo pu st pl x) {d:Int}(hd:x.isOpen d=true):∃(i:Nat) (a:Addr) (ys:List V),pl[i]?=some (d,a)∧x.aT[i]?=some (d,x.dh d)∧H a=some (.lst ys)∧bk H ((x.dh d).map pairD) ys∧e2 H pu (.int d) (some (.ref a)):=by
 obtain⟨w,hw,e⟩:=any_eq_true.mp hd
 obtain⟨i,aL⟩:=getElem?_of_mem hw
 have cV:w.1=d:=beq_iff_eq.mp e
 have az:i<pl.length:=by rw[A.lW];exact (List.getElem?_eq_some_iff.mp aL).1
 have hz:pl[i]?=some pl[i]:=getElem?_eq_getElem az
 obtain⟨eU,ys,bu,aV,eV,iW,lz⟩:=A.at_ hz
 rw[aL]at bu
 cases bu
 have b7:x.dh d=w.2:=by
  unfold av.dh
  have:=lJ A.bz aL
  rw[cV]at this
  rw[this]
  rfl
 have gu:pl[i]=(d,(pl[i]).2):=by
  rw[←cV,aV]
 refine⟨i,(pl[i]).2,ys,by rw[hz];exact congrArg some gu,by rw[aL,b7,←cV],eV,by rw[b7];exact iW,?_⟩
 rw[←aV,cV]at lz
 exact lz
end
section
variable {H ah:ao}{h ce ak lo pu st:Addr}{pl:List (Int × Addr)}{x:av}
theorem bB.tW (A:bB H h ce ak lo pu st pl x) {b:Addr}{xs:List V}(aa:H b=some (.tup xs)):b∉own h ce ak pu st pl:=by
 intro hm
 rw[oE]at hm
 obtain⟨zs,b2,_⟩:=A.fK
 rcases hm with e | e | e | e | e | ⟨z,hz,e⟩
 ·rw[e,A.dD]at aa;cases aa
 ·rw[e,A.aj]at aa;cases aa
 ·rw[e,A.hd]at aa;cases aa
 ·rw[e,A.aI]at aa;cases aa
 ·rw[e,b2]at aa;cases aa
 ·obtain⟨i,aL⟩:=getElem?_of_mem hz
  obtain⟨w,ys,_,_,q,_,_⟩:=A.at_ aL
  rw[e,aa]at q
  cases q
theorem bB.et (A:bB H h ce ak lo pu st pl x) (o:gq (own h ce ak pu st pl) H ah):el H ah:=fun b xs q=>o b _ (A.tW q) q
end
section
variable {x:av}{d n:Int}{p k:Nat}
theorem vK:(x.putIn d p n).aB.length=x.aB.length:=by
 show (x.aB.set p n).length=_
 rw[length_set]
theorem av.fits.putIn (h:x.fits (k+1)) (aI:p<x.aB.length):(x.putIn d p n).fits k:=by
 have ay:(x.cT (.line (.put d p (x.aB.getD p 0) n))).fits k:=h.cT (s:=.line (.put d p (x.aB.getD p 0) n)) aI
 obtain⟨a,b,c⟩:=ay
 refine⟨a,b,fun ln az=>?_⟩
 rw[vK]
 exact c ln az
def av.es (x:av) (d:Int) (l:List (Nat × Int)):av:=l.foldl (fun h z=>h.putIn d z.1 z.2) x
theorem HC {l:List (Nat × Int)}{z:Nat × Int}:x.es d (l++[z])=(x.es d l).putIn d z.1 z.2:=by
 unfold av.es
 rw[foldl_append]
 rfl
theorem nr:∀{l:List (Nat × Int)}{x:av},(x.es d l).aT=x.aT
 | [],_=>rfl
 | z::l,x=>by
  show ((x.putIn d z.1 z.2).es d l).aT=_
  rw[nr]
  rfl
theorem sy:∀{l:List (Nat × Int)}{x:av},(x.es d l).aB.length=x.aB.length
 | [],_=>rfl
 | z::l,x=>by
  show ((x.putIn d z.1 z.2).es d l).aB.length=_
  rw[sy,vK]
theorem vF:∀{l:List (Nat × Int)}{x:av},(x.es d l).begun=x.begun
 | [],_=>rfl
 | z::l,x=>by
  show ((x.putIn d z.1 z.2).es d l).begun=_
  rw[vF]
  rfl
theorem B7:∀{l:List (Nat × Int)}{x:av},(x.es d l).room=x.room
 | [],_=>rfl
 | z::l,x=>by
  show ((x.putIn d z.1 z.2).es d l).room=_
  rw[B7]
  rfl
theorem av.fits.es:∀{l:List (Nat × Int)}{x:av}{k:Nat},x.fits (l.length+k)→(∀z∈l,z.1<x.aB.length)→(x.es d l).fits k
 | [],x,k,h,_=>by
  rw[length_nil,zero_add]at h
  exact h
 | z::l,x,k,h,hz=>by
  show ((x.putIn d z.1 z.2).es d l).fits k
  refine av.fits.es ?_ fun y cg=>by rw[vK];exact hz y (mem_cons_of_mem _ cg)
  refine av.fits.putIn ?_ (hz z mem_cons_self)
  rw[length_cons]at h
  exact h.mono (by omega)
theorem hL:x.eu d=x.es d (x.dh d).reverse:=rfl
end
def iP (f5:List Addr) (lo lo':Addr) (H ah:ao):Prop:=gq f5 H ah∧(lo'=lo∨lo'∈f5∨H lo'=none)
theorem gq.l {f5:List Addr}{lo:Addr}{H ah:ao}(o:gq f5 H ah):iP f5 lo lo H ah:=⟨o,.inl rfl⟩
theorem iP.trans {f5:List Addr}{gh fN hY:Addr}{H H1 au:ao}(a:iP f5 gh fN H H1) (b:iP f5 fN hY H1 au):iP f5 gh hY H au:=by
 refine⟨a.1.trans b.1,?_⟩
 rcases b.2 with z | z | z
 ·rw[z];exact a.2
 ·exact .inr (.inl z)
 ·by_cases m:hY∈f5
  ·exact .inr (.inl m)
  ·cases e:H hY with
   | none=>exact .inr (.inr rfl)
   | some o=>rw[a.1 _ _ m e]at z;cases z
theorem iP.fresh {f5:List Addr}{lo lo':Addr}{H H1 ah:ao}(a:gq f5 H H1) (h:H1 lo'=none) (b:gq f5 H ah):iP f5 lo lo' H ah :=
 ⟨b,by
  by_cases m:lo'∈f5
  ·exact .inr (.inl m)
  ·cases e:H lo' with
   | none=>exact .inr (.inr rfl)
   | some o=>rw[a _ _ m e]at h;cases h⟩
structure av.good (n:Nat) (x:av):Prop where
 fs:1≤x.aB.length
 eF:x.aB.length≤100
 ei:∀z∈x.aT,0≤z.1∧z.1<x.begun∧z.2.length≤n∧∀y∈z.2,y.1<x.aB.length
 pl:x.aT.length≤n
 dc:x.d8.length≤300 * n
 iA:x.log.length≤300 * n
 ok:∀ln∈x.log,ln.ok x.aB.length
section
variable {x:av}{n k:Nat}{m:Int}
theorem av.good.fits (g:x.good n) (aS:n≤150) (a8:k≤50000):x.fits k:=⟨by have:=g.dc;omega,by have:=g.iA;omega,g.ok⟩
theorem vD {p:Nat}:(x.ea p).begun=x.begun:=by
 unfold av.ea
 split
 ·rfl
 ·exact qK
theorem vJ:x.dW.begun=x.begun:=by
 unfold av.dW
 split
 ·exact qK
 ·rfl
theorem Hu:∀{i:Nat},(x.fk i).begun=x.begun
 | 0=>rfl
 | i+1=>by rw[kq,vD];exact Hu
theorem Ti:x.ed.begun=x.begun:=by rw[jn,vJ,Hu]
theorem pM:(x.full m).1=x∨(x.full m).1=x.ed:=by
 unfold av.full
 split
 ·exact .inl rfl
 ·exact .inr rfl
theorem nu:(x.full m).1.aB=x.aB:=by
 rcases pM (x:=x) (m:=m) with e | e
 ·rw[e]
 ·rw[e,Ht]
theorem jq:(x.full m).1.aT=x.aT:=by
 rcases pM (x:=x) (m:=m) with e | e
 ·rw[e]
 ·rw[e,ym]
theorem kY:(x.full m).1.begun=x.begun:=by
 rcases pM (x:=x) (m:=m) with e | e
 ·rw[e]
 ·rw[e,Ti]
theorem av.fits.full (h:x.fits (x.aB.length+1+k)):(x.full m).1.fits k:=by
 rcases pM (x:=x) (m:=m) with e | e
 ·rw[e];exact h.mono (by omega)
 ·rw[e,jn]
  exact (av.fits.fk (i:=x.aB.length) (k:=k+1) (h.mono (by omega)) (le_refl _)).dW
theorem Jd:∀(l:List (Int × List (Nat × Int))) (d:Int),(l.any fun z=>z.1 == d)=true→(d,((l.find? fun z=>z.1 == d).map (·.2)).getD [])∈l
 | [],d,h=>by cases h
 | z::r,d,h=>by
  rw[find?_cons]
  cases e:z.1 == d with
  | true =>
   have cV:z.1=d:=beq_iff_eq.mp e
   subst cV
   exact mem_cons_self
  | false =>
   rw[any_cons,e,Bool.false_or]at h
   exact mem_cons_of_mem _ (Jd r d h)
theorem mA {d:Int}(h:x.isOpen d=true):(d,x.dh d)∈x.aT:=Jd x.aT d h
theorem qL {e:b1}{w:Str}(h:x.refusal e=some w):¬(V.str w=V.str "done"):=by
 have key:w="no dealing"∨w="no page"∨w="taken":=by
  cases e with
  | begin=>cases h
  | cut=>cases h
  | put d p n =>
   have h:(if x.isOpen d=false then some "no dealing" else if p<0∨(x.aB.length:Int)≤p then some "no page" else if x.d5 p.toNat=none∨x.d5 p.toNat=some d then none else some "taken":Option Str)=some w:=h
   split at h
   ·exact .inl (Option.some.inj h).symm
   split at h
   ·exact .inr (.inl (Option.some.inj h).symm)
   split at h
   ·cases h
   ·exact .inr (.inr (Option.some.inj h).symm)
  | fin d =>
   have h:(if x.isOpen d=false then some "no dealing" else none:Option Str)=some w:=h
   split at h
   ·exact .inl (Option.some.inj h).symm
   ·cases h
  | drop d =>
   have h:(if x.isOpen d=false then some "no dealing" else none:Option Str)=some w:=h
   split at h
   ·exact .inl (Option.some.inj h).symm
   ·cases h
  | look p =>
   have h:(if p<0∨(x.aB.length:Int)≤p then some "no page" else none:Option Str)=some w:=h
   split at h
   ·exact .inr (.inl (Option.some.inj h).symm)
   ·cases h
  | carry p =>
   have h:(if p<0∨(x.aB.length:Int)≤p then some "no page" else none:Option Str)=some w:=h
   split at h
   ·exact .inr (.inl (Option.some.inj h).symm)
   ·cases h
 rcases key with rfl | rfl | rfl <;> decide +kernel
theorem kp {d:Int}{e:b1}(he:(∃p n,e=.put d p n)∨e=.fin d∨e=.drop d) (h:x.refusal e=none):x.isOpen d=true:=by
 cases aH:x.isOpen d with
 | true=>rfl
 | false =>
  rcases he with ⟨p,n,rfl⟩ | rfl | rfl <;> unfold av.refusal at h <;> dsimp only at h <;> rw[aH,if_pos rfl]at h <;> cases h
theorem ox {p:Int}{e:b1}(he:(∃d n,e=.put d p n)∨e=.look p∨e=.carry p) (h:x.refusal e=none):0≤p∧p<x.aB.length:=by
 have key:¬(p<0∨(x.aB.length:Int)≤p):=by
  intro aj
  rcases he with ⟨d,n,rfl⟩ | rfl | rfl
  ·have aH:x.isOpen d=true:=kp (.inl ⟨p,n,rfl⟩) h
   unfold av.refusal at h
   dsimp only at h
   rw[aH,if_neg (fun z=>nomatch z),if_pos aj]at h
   cases h
  ·unfold av.refusal at h
   dsimp only at h
   rw[if_pos aj]at h
   cases h
  ·unfold av.refusal at h
   dsimp only at h
   rw[if_pos aj]at h
   cases h
 omega
end
def av.grow (x y:av) (k:Nat):Prop:=y.d8.length≤x.d8.length+k∧y.log.length≤x.log.length+k
section
variable {x y z:av}{n k j:Nat}{m:Int}{d:Int}{p:Nat}{s:bO}
theorem av.grow.refl:x.grow x k:=⟨Nat.le_add_right _ _,Nat.le_add_right _ _⟩
theorem av.grow.trans (a:x.grow y j) (b:y.grow z k):x.grow z (j+k):=⟨by have:=a.1;have:=b.1;omega,by have:=a.2;have:=b.2;omega⟩
theorem av.grow.mono (a:x.grow y j) (h:j≤k):x.grow y k:=⟨by have:=a.1;omega,by have:=a.2;omega⟩
theorem vI:x.grow (x.cT s) 1:=by
 refine⟨by rw[Hp,length_append,length_singleton];exact le_refl _,?_⟩
 cases s with
 | line ln =>
  show (x.log++[ln]).length≤_
  rw[length_append,length_singleton]
  exact le_refl _
 | eO p n=>exact Nat.le_add_right _ _
 | cut j =>
  show (x.log.drop j).length≤_
  rw[length_drop]
  omega
theorem H3:x.grow (x.ea p) 1:=by
 unfold av.ea
 split
 ·exact .refl
 ·exact vI
theorem I_:x.grow x.dW 1:=by
 unfold av.dW
 split
 ·exact vI
 ·exact .refl
theorem Hw:∀{i:Nat},x.grow (x.fk i) i
 | 0=>.refl
 | i+1=>by
  rw[kq]
  exact Hw.trans H3
theorem IF:x.grow (x.full m).1 (x.aB.length+1):=by
 rcases pM (x:=x) (m:=m) with e | e
 ·rw[e];exact .refl
 ·rw[e,jn]
  exact Hw.trans I_
theorem CG {nn:Int}:x.grow (x.putIn d p nn) 1:=by
 have h:=vI (x:=x) (s:=.line (.put d p (x.aB.getD p 0) nn))
 exact⟨h.1,h.2⟩
theorem HO:∀{l:List (Nat × Int)}{x:av},x.grow (x.es d l) l.length
 | [],_=>.refl
 | w::l,x=>by
  show x.grow ((x.putIn d w.1 w.2).es d l) (l.length+1)
  exact ((CG (x:=x) (d:=d) (p:=w.1) (nn:=w.2)).trans (HO (l:=l))).mono (by omega)
theorem av.good.more (g:x.good n):x.good (n+1):=⟨g.fs,g.eF,fun z hz=>⟨(g.ei z hz).1,(g.ei z hz).2.1,le_succ_of_le (g.ei z hz).2.2.1,(g.ei z hz).2.2.2⟩,le_succ_of_le g.pl,by have:=g.dc;omega,by have:=g.iA;omega,g.ok⟩
theorem av.good.step (g:x.good n) (cA:x.grow y 300) (hd:y.aB.length=x.aB.length) (aa:x.begun≤y.begun) (aI:y.aT=x.aT) (hf:y.fits 0):y.good (n+1):=by
 refine⟨by rw[hd];exact g.fs,by rw[hd];exact g.eF,fun z hz=>?_,by rw[aI];exact le_succ_of_le g.pl,by have:=g.dc;have:=cA.1;omega,by have:=g.iA;have:=cA.2;omega,hf.2.2⟩
 rw[aI]at hz
 obtain⟨a,b,c,e⟩:=g.ei z hz
 exact⟨a,by omega,le_succ_of_le c,by rw[hd];exact e⟩
theorem av.good.aT (g:x.good (n+1)) {ps:List (Int × List (Nat × Int))}(h:∀z∈ps,0≤z.1∧z.1<x.begun∧z.2.length≤n+1∧∀y∈z.2,y.1<x.aB.length) (az:ps.length≤n+1):({ x with aT:=ps }:av).good (n+1):=⟨g.fs,g.eF,h,az,g.dc,g.iA,g.ok⟩
theorem av.good.a_ (g:x.good n) (aS:n≤110) (e:b1):(x.a_ e).1.good (n+1):=by
 cases c7:x.refusal e with
 | some ww =>
  have aP:x.a_ e=(x,.word ww):=by unfold av.a_;rw[c7]
  rw[aP]
  exact g.more
 | none =>
  have aP:x.a_ e=x.fy e:=by unfold av.a_;rw[c7]
  rw[aP]
  have amh:=g.eF
  have F:∀k,k≤50000→x.fits k:=fun k a8=>g.fits (by omega) a8
  cases e with
  | begin =>
   have akT:x.began.good n:=⟨g.fs,g.eF,fun z hz=>⟨(g.ei z hz).1,(by have:=(g.ei z hz).2.1;show z.1<((x.begun+1:Nat):Int);omega),(g.ei z hz).2.2⟩,g.pl,g.dc,g.iA,g.ok⟩
   have kg:x.began.fits (x.began.aB.length+1+0):=F _ (by show x.aB.length+1+0≤_;omega)
   have m8:(x.began.full 1).1.good (n+1):=akT.step (IF.mono (by show x.aB.length+1≤_;omega)) (by rw[nu]) (by rw[kY];exact le_refl _) jq kg.full
   show (if (x.began.full 1).2=true then ((x.began.full 1).1,dp.word "no room") else ((x.began.full 1).1.opened,dp.num x.begun)).1.good (n+1)
   split
   ·exact m8
   ·refine m8.aT (fun z hz=>?_) ?_
    ·have dT:(x.began.full 1).1.begun=x.begun+1:=kY
     rcases mem_append.mp hz with hz | hz
     ·exact m8.ei z hz
     ·rw[mem_singleton.mp hz]
      refine⟨?_,?_,zero_le _,fun y cg=>by cases cg⟩
      ·show 0≤(((x.began.full 1).1.begun:Nat):Int) - 1
       rw[dT]
       omega
      ·show (((x.began.full 1).1.begun:Nat):Int) - 1<(((x.began.full 1).1.begun:Nat):Int)
       omega
    ·rw[length_append,length_singleton,jq]
     have:=g.pl
     show x.aT.length+1≤_
     omega
  | put d p nn =>
   obtain⟨qu,hX⟩:=ox (.inl ⟨d,nn,rfl⟩) c7
   have kE:p.toNat<x.aB.length:=by omega
   have kg:x.fits (x.aB.length+1+1):=F _ (by omega)
   have g1:x.grow (x.full 2).1 (x.aB.length+1):=IF
   have qB:(x.full 2).1.fits 1:=kg.full
   have m8:(x.full 2).1.good (n+1):=g.step (g1.mono (by omega)) (by rw[nu]) (by rw[kY];exact le_refl _) jq (qB.mono (by omega))
   have b7:(x.full 2).1.aT=x.aT:=jq
   have dY:(x.full 2).1.aB=x.aB:=nu
   show (if (x.full 2).2=true then ((x.full 2).1,dp.word "no room") else (((x.full 2).1.dA d p.toNat).putIn d p.toNat nn,dp.word "done")).1.good (n+1)
   split
   ·exact m8
   ·generalize (x.full 2).1=y at g1 qB m8 b7 dY
    have gt:(y.dA d p.toNat).good (n+1):=by
     refine m8.aT (fun z hz=>?_) (by rw[length_map];exact m8.pl)
     obtain⟨w,hw,e⟩:=mem_map.mp hz
     have uG:=m8.ei w hw
     have ahI:=g.ei w (b7 ▸ hw)
     by_cases jR:w.1=d
     ·rw[if_pos jR]at e
      subst e
      refine⟨uG.1,uG.2.1,?_,fun q bN=>?_⟩
      ·show (w.2++[_]).length≤_
       rw[length_append,length_singleton]
       have:=ahI.2.2.1
       omega
      ·rcases mem_append.mp bN with bN | bN
       ·exact uG.2.2.2 q bN
       ·rw[mem_singleton.mp bN,dY]
        exact kE
     ·rw[if_neg jR]at e
      subst e
      exact uG
    have b5:((y.dA d p.toNat).putIn d p.toNat nn).fits 0:=av.fits.putIn (k:=0) (x:=y.dA d p.toNat) qB (by show p.toNat<y.aB.length;rw[dY];exact kE)
    have g2:x.grow ((y.dA d p.toNat).putIn d p.toNat nn) (x.aB.length+1+1):=g1.trans (show y.grow ((y.dA d p.toNat).putIn d p.toNat nn) 1 from (⟨(CG (x:=y.dA d p.toNat) (d:=d) (p:=p.toNat) (nn:=nn)).1,(CG (x:=y.dA d p.toNat) (d:=d) (p:=p.toNat) (nn:=nn)).2⟩:(y.dA d p.toNat).grow _ 1))
    have ld:((y.dA d p.toNat).putIn d p.toNat nn).aB.length=y.aB.length:=vK (x:=y.dA d p.toNat)
    show ((y.dA d p.toNat).putIn d p.toNat nn).good (n+1)
    refine⟨by rw[ld];exact m8.fs,by rw[ld];exact m8.eF,fun z hz=>?_,gt.pl,by have:=g2.1;have:=g.dc;omega,by have:=g2.2;have:=g.iA;omega,b5.2.2⟩
    obtain⟨a,b,c,dd⟩:=gt.ei z hz
    exact⟨a,b,c,by rw[ld];exact dd⟩
  | fin d =>
   show (x.jV d).good (n+1)
   have f1:=(F 1 (by omega)).cT (k:=0) (s:=.line (.fin d)) True.intro
   have x3:(x.cT (.line (.fin d))).good (n+1):=g.step (vI.mono (by omega)) (by rw[qM]) (by rw[qK];exact le_refl _) oA f1
   exact x3.aT (fun z hz=>x3.ei z ((mem_filter.mp hz).1)) (le_trans (length_filter_le _ _) (le_succ_of_le g.pl))
  | drop d =>
   show ((x.eu d).jV d).good (n+1)
   have aH:x.isOpen d=true:=kp (.inr (.inr rfl)) c7
   have R9:=g.ei _ (mA aH)
   have jO:(x.dh d).length≤n:=R9.2.2.1
   have hz:∀y∈(x.dh d).reverse,y.1<x.aB.length:=fun y cg=>R9.2.2.2 y (mem_reverse.mp cg)
   have akU:(x.eu d).fits 1:=by
    rw[hL]
    exact av.fits.es (k:=1) (F _ (by rw[length_reverse];omega)) hz
   have akS:x.grow (x.eu d) (x.dh d).length:=by
    have:=HO (d:=d) (l:=(x.dh d).reverse) (x:=x)
    rw[length_reverse]at this
    exact this
   have f1:=akU.cT (k:=0) (s:=.line (.fin d)) True.intro
   have z_:(x.eu d).aT=x.aT:=by rw[hL,nr]
   have x3:((x.eu d).cT (.line (.fin d))).good (n+1):=g.step ((akS.trans vI).mono (by omega)) (by rw[qM,hL,sy]) (by rw[qK,hL,vF];exact le_refl _) (by rw[oA];exact z_) f1
   exact x3.aT (fun z hz=>x3.ei z (by rw[oA];exact (mem_filter.mp hz).1)) (le_trans (length_filter_le _ _) (by rw[z_];exact le_succ_of_le g.pl))
  | look p=>exact g.more
  | carry p =>
   obtain⟨qu,hX⟩:=ox (.inr (.inr rfl)) c7
   show (x.ea p.toNat).good (n+1)
   exact g.step (H3.mono (by omega)) (by rw[yp]) (by rw[vD];exact le_refl _) vG ((F 1 (by omega)).carry (k:=0) (by omega))
  | cut =>
   show x.dW.good (n+1)
   exact g.step (I_.mono (by omega)) (by rw[vL]) (by rw[vJ];exact le_refl _) sD ((F 1 (by omega)).dW (k:=0))
end
def av.run (x:av):List b1→av
 | []=>x
 | e::r=>av.run (x.a_ e).1 r
def av.says (x:av):List b1→List dp
 | []=>[]
 | e::r=>(x.a_ e).2::av.says (x.a_ e).1 r
theorem yO:∀(l:List b1) (x:av) (e:b1),x.run (l++[e])=((x.run l).a_ e).1
 | [],_,_=>rfl
 | _::l,x,e=>yO l _ e
theorem Ik:∀(l:List b1) (x:av) (e:b1),x.says (l++[e])=x.says l++[((x.run l).a_ e).2]
 | [],_,_=>rfl
 | a::l,x,e=>by
  show _::av.says _ (l++[e])=_
  rw[Ik l]
  rfl
theorem B9:∀(l:List b1) (x:av),(x.says l).length=l.length
 | [],_=>rfl
 | a::l,x=>by
  show (av.says _ l).length+1=_
  rw[B9 l]
  rfl
theorem av.good.run:∀(l:List b1) {x:av}{n:Nat},x.good n→n+l.length≤110→(x.run l).good (n+l.length)
 | [],_,_,g,_=>g
 | e::l,x,n,g,h=>by
  rw[length_cons]at h ⊢
  have:=av.good.run l (g.a_ (by omega) e) (by omega)
  have akW:n+1+l.length=n+(l.length+1):=by omega
  rw[akW]at this
  exact this
theorem TY {lo:Int}{n:Nat}{b8:TE}{bK:St}{Q:cC}{H:ao}{acc:Addr}(R:V→Prop) (h0:H acc=none) (aS:n≤1000)
  (he:∀(i:Nat) a9 (k:cC),i<n→(∀v cO,R v→bI a9 cO→k v cO)→b8 (some (.int (lo+i))::bK) a9 k)
  (q:∀(ys:List V) (ah:ao),ys.length=n→(∀v∈ys,R v)→bI H ah→ah acc=some (.lst ys)→Q (.ref acc) ah):tV (rT lo n) b8 bK Q H acc:=by
 refine⟨n,fun i ys au=>i≤n∧ys.length=i∧(∀v∈ys,R v)∧bI H au∧au acc=some (.lst ys),⟨zero_le _,rfl,fun v br=>by simp at br,bP h0 _,aQ⟩,?_⟩
 rintro i ys au ⟨aL,az,Sm,c2,e1⟩
 by_cases dw:i<n
 ·refine .inr ⟨dw,dw,?_⟩
  rintro v a9 ⟨rfl,rfl⟩
  refine he i _ _ dw fun v cO br s4=>⟨s4 _ _ e1,lt_of_le_of_lt (by omega:ys.length≤1000) (by decide),dw,by rw[length_append,az];rfl,fun w hw=>?_,(c2.trans s4).kr h0,aQ⟩
  rcases mem_append.mp hw with z | z
  ·exact Sm w z
  ·rw[mem_singleton.mp z];exact br
 ·have e:i=n:=by omega
  subst e
  exact .inl ⟨le_refl _,q ys au az Sm c2 e1⟩
open PySem.Spec PyProof.Rows
section
variable {X:bE}
def W2:i2:=fun x y H Q=>∃a b xs,x=.ref a∧y=.ref b∧H a=some (.lst xs)∧H b=some (.lst [])∧Q (.bV xs.isEmpty) H
theorem Vt (a7:X.A.units<cLine):gX X (compareOp .Eq) W2:=by
 intro pins s σ H x y v u Q I bC bM h
 obtain⟨a,b,xs,rfl,rfl,aX,aa,q⟩:=h
 cases bC
 cases bM
 obtain⟨its,r,p,_⟩:=I.list (aR.of aX)
 obtain⟨iO,bH,fQ,_⟩:=I.list (aR.of aa)
 cases bH
 cases xs with
 | nil =>
  cases r
  exact SeqAt.RcAt.lists (e:=fun _=>true) p.isList fQ.isList rfl a7 (fun j ay _=>absurd ay (by simp)) X.prog X.w X.dF _ ⟨.bV true,H,I,rfl,q⟩
 | cons x xs =>
  cases r
  exact SeqAt.RcAt.lists_lengths p.isList fQ.isList (by simp) a7 X.prog X.w X.dF _ ⟨.bV false,H,I,rfl,q⟩
end
theorem Um {K:PySem.W.Frag}{a:Addr}{ns:List Int}{tt:TT}{b8:TE}{bK:St}{Q:cC}{H:ao}{acc:Addr}(p:Int→Bool) (aX:H a=some (.lst (ns.map V.int))) (h0:H acc=none) (hz:ns.length≤1000)
  (a6:∀(z:Int) a9 (k:Bool→ao→Prop),k (p z) a9→tt (some (.int z)::bK) a9 k)
  (he:∀(z:Int) a9 (k:cC),k (.int z) a9→b8 (some (.int z)::bK) a9 k)
  (q:Q (.ref acc) (upd H acc (.lst ((ns.filter p).map V.int)))):DB (o_ K a) tt b8 bK Q H acc:=by
 have Aj:a≠acc:=cD aX h0
 have kM:(ns.map V.int).length=ns.length:=length_map _
 refine⟨ns.length,fun i ys au=>i≤ns.length∧ys=((ns.take i).filter p).map V.int∧au=upd H acc (.lst ys),⟨zero_le _,rfl,rfl⟩,?_⟩
 rintro i ys au ⟨aL,rfl,rfl⟩
 have mW:(upd H acc (.lst (((ns.take i).filter p).map V.int))) a=some (.lst (ns.map V.int)):=by rw[aA Aj];exact aX
 by_cases dw:i<ns.length
 ·have NX:ns[i]?=some ns[i]:=getElem?_eq_getElem dw
  have bg:(ns.map V.int)[i]?=some (.int ns[i]):=yu NX
  refine .inr ⟨⟨_,_,aR.of mW,bg⟩,dw,?_⟩
  rintro v a9 ⟨rfl,br⟩
  have ev:v=.int ns[i]:=by
   have:=br _ (aR.of mW)
   rw[bg]at this
   exact (Option.some.inj this).symm
  subst ev
  have iE:(ns.take (i+1)).filter p=(ns.take i).filter p++[ns[i]].filter p:=by
   rw[take_add_one,NX,List.filter_append]
   rfl
  refine a6 _ _ _ ?_
  cases aI:p ns[i] with
  | false =>
   refine cU ⟨dw,?_,rfl⟩
   rw[iE,filter_cons,aI]
   simp
  | true =>
   refine fm (he _ _ _ ?_)
   have lf:(((ns.take i).filter p).map V.int).length≤1000:=by
    rw[length_map]
    have ay:=length_filter_le p (ns.take i)
    rw[length_take]at ay
    omega
   refine⟨aQ,lt_of_le_of_lt lf (by decide),dw,?_,by rw[qT]⟩
   rw[iE,filter_cons,aI]
   simp
 ·have e:i=ns.length:=by omega
  subst e
  refine .inl ⟨⟨_,aR.of mW,by rw[kM];exact le_refl _⟩,?_⟩
  rw[take_length]
  exact q
structure uu (bL ex:List Addr) (h h':Heap):Prop where
 keep:∀b o,h.get? b=some o→b∉bL→b∉ex→h'.get? b=some o
 slot:∀b o,h.get? b=some o→b∈bL→b∉ex→∃dc,h'.get? b=some { o with slots:=dc }
theorem uu.there {bL ex:List Addr}{h h':Heap}(x:uu bL ex h h') {b:Addr}{o:Obj}(e:h.get? b=some o) (aa:b∉ex):∃fB,h'.get? b=some fB:=by
 by_cases z:b∈bL
 ·obtain⟨dc,q⟩:=x.slot b o e z aa
  exact⟨_,q⟩
 ·exact⟨_,x.keep b o e z aa⟩
theorem eT.held {P:Program}{w:World}{bL ex:List Addr}{h h':Heap}{H:ao}(k:eT P w H h) (x:uu bL ex h h') (hf:∀b∈bL,H b=none) (he:∀b∈ex,H b=none):eT P w H h':=fun a o e =>
 (k a o e).jA (fun b u aa q=>by
  have aS:H b≠none:=by
   rcases aa with z | z
   ·rw[z,e];exact fun y=>nomatch y
   ·rw[z];exact fun y=>nomatch y
  exact x.keep b u q (fun z=>aS (hf b z)) fun z=>aS (he b z)) (fun _ q=>q) fun _ _ q=>q
theorem fx.obj {P:Program}{w:World}{H:ao}{h:Heap}{a:Addr}{o:fh}(x:fx P w H h a o):∃bR,h.get? a=some bR:=by
 cases o with
 | lst xs=>obtain⟨_,_,_,_,e⟩:=x;exact⟨_,e⟩
 | tup xs=>obtain⟨_,_,_,bR,e,_⟩:=x;exact⟨_,e⟩
 | bQ kvs=>obtain⟨_,_,_,_,o,_,_,e,_⟩:=x;exact⟨_,e⟩
 | hu kvs=>obtain⟨_,_,_,_,o,_,_,e,_⟩:=x;exact⟨_,e⟩
 | set S n=>obtain⟨o,_,_,_,e,_⟩:=x;exact⟨_,e⟩
 | ins C dx bL=>obtain⟨_,_,_,e,_⟩:=x;exact⟨_,e⟩
 | own y=>obtain⟨_,e⟩:=x;exact⟨_,e⟩
 | Bu bL=>obtain⟨_,⟨_,_,_,e,_⟩,_⟩:=x;exact⟨_,e⟩
 | l0 lo aL=>obtain⟨_,_,_,e⟩:=x;exact⟨_,e⟩
 | jc bR u=>obtain⟨e,_⟩:=x;exact⟨_,e⟩
 | p9 ps=>exact⟨_,(show h.get? a=some _ from x)⟩
 | met f y=>exact⟨_,(show h.get? a=some _ from x)⟩
 | ext φ=>obtain⟨_,⟨_,e⟩,_⟩:=x;exact⟨_,e⟩
section
variable {X:bE}{pins:List (Addr × Obj)}{σ:St}{H:ao}{s:Shared}{h':Heap}
theorem Inv.held {ex:List Addr}{t':Nat}(I:Inv X pins σ H s) (ph:X.ex=[]) (x:uu (gC X.stack) ex s.heap h') (hr:∀b∈ex,H b=none) (h0:∀b∈ex,X.fJ.heap.get? b=none) (az:∀b∈ex,b≠X.env.locals) (aj:∀b∈ex,∀y c,X.env.cells.lookup y=some c→c≠b)
  (aI:∀b∈ex,∀p∈X.bz++pins,p.1≠b):Inv X pins σ H { s with heap:=h',toks:=t' }:=by
 have bD:eT X.prog X.w H h':=eT.held I.bD x I.yZ hr
 have mL:∀b,b≠X.env.locals→b∉X.bL→b∉gC X.stack:=fun b ay aG aa=>(mem_cons.mp (I.v_ b aa)).elim ay aG
 have Eu:∀b o,X.fJ.heap.get? b=some o→b∉ex:=fun b o e aa=>by rw[h0 b aa]at e;cases e
 have anyS:∀b o,s.heap.get? b=some o→b∉ex→∃dc,h'.get? b=some { o with slots:=dc }:=fun b o e aa=>by
  by_cases z:b∈gC X.stack
  ·exact x.slot b o e z aa
  ·exact⟨o.slots,x.keep b o e z aa⟩
 have cellK:∀y c,X.env.cells.lookup y=some c→∀v,s.heap.IsCell c v→h'.IsCell c v:=fun y c e v ⟨o,aH,hd⟩=>by
  obtain⟨dc,q⟩:=anyS c o aH fun z=>aj c z y c e rfl
  exact⟨_,q,hd⟩
 have Ah:∀b o,X.fJ.heap.get? b=some o→b≠X.env.locals:=fun b o e=>ne_of_lt (lt_of_lt_of_le (lt_size e) I.ok.above)
 refine⟨I.ok,I.os,I.bare,⟨fun b o e n aa bg=>?_,fun b o e n aa bg=>?_,fun b o e n bg=>I.base.free b o e n bg,fun b o e bg=>?_,I.base.oM,I.base.nH,I.base.oN⟩,?_,fun y c e=>?_,I.free,I.jz,fun p N3=>?_,bD,I.len⟩
 ·exact x.keep b o (I.base.keep b o e n aa bg) (mL b (Ah b o e) aa) (Eu b o e)
 ·obtain⟨dc,aJ⟩:=I.base.slot b o e n aa bg
  obtain⟨Em,aN⟩:=anyS b _ aJ (Eu b o e)
  exact⟨Em,aN⟩
 ·obtain⟨fB,aJ⟩:=I.base.there b o e bg
  exact x.there aJ (Eu b o e)
 ·obtain⟨m,⟨Gs,aE,b7,aH,hd,a8,hf⟩,Fx⟩:=I.loc
  obtain⟨dc,q⟩:=anyS _ Gs aH fun z=>az _ z rfl
  refine⟨m,⟨_,aE,b7,q,hd,a8,hf⟩,fun i y v aJ aN b2=>?_⟩
  obtain⟨u,r,l⟩:=Fx i y v aJ aN b2
  refine⟨u,r,?_⟩
  rcases l with l | ⟨k,c,e,z⟩
  ·exact .inl l
  ·exact .inr ⟨k,c,e,cellK y c e _ z⟩
 ·obtain⟨v,z⟩:=I.cell y c e
  exact⟨v,cellK y c e v z⟩
 ·obtain⟨e,n,ne,lB,d⟩:=I.pin p N3
  exact⟨x.keep p.1 p.2 e (mL p.1 ne lB) fun z=>aI p.1 z p N3 rfl,n,ne,lB,d⟩
end
def Ge (h0:Heap) (H:ao) (h:Heap) (e:Addr) (cls:Value):Prop :=
 ∃ji vs T md aO a0,h.get? e=some ji∧ji.cls=cls∧ji.data=.fields vs∧vs[0]?=some a0∧vs[1]?=some (.ref T)∧T≠e∧h.get? T=some md∧md.data=.fields aO∧aO[3]?=some .none∧h0.get? e=none∧h0.get? T=none∧H e=none∧H T=none
def di (P:Program) (w:World):ma:=fun outer H s E e aM=>∃aP cls ah,e=.ref aP∧aM.os=s.os∧AllBare aM.gens∧g0 (gC outer) [] H ah s.heap aM.heap∧eT P w ah aM.heap∧Ge s.heap ah aM.heap aP cls∧E cls none ah
theorem C8 {h h':Heap}{bL ex:List Addr}(st:(hideAll h (ex++bL)).StaysIn h') (up:h.UpToSlots h') (hf:∀b∈bL,∀o,h.get? b=some o→∀vs,o.data≠.fields vs):uu bL ex h h' :=
 ⟨fun b o e ay aG=>st b o (PySem.W.hideAll_get _ e fun z=>(mem_append.mp z).elim aG ay),fun b o e ay _=>up b o e (hf b ay o e)⟩
theorem J3 {P:Program}{w:World}{h0 h h':Heap}{H:ao}{bL ex:List Addr}{e:Addr}{cls a0:Value}(Gj:h'.TracedW (hideAll h (ex++bL)) e cls a0) (d:uu bL ex h h') (rG:∀b,h.get? b=none→h0.get? b=none) (k:eT P w H h)
  (bg:∀b∈ex,h0.get? b=none∧H b=none) (hf:∀b∈bL,∃o,h.get? b=some o∧∀vs,o.data≠.fields vs) (he:e∈ex):Ge h0 H h' e cls:=by
 obtain⟨ji,vs,T,md,aO,g1,⟨g2,g3⟩,gF,jQ,px,oh,pv,oe,o6⟩:=Gj
 have iD:h0.get? T=none∧H T=none:=by
  cases q:h.get? T with
  | none =>
   refine⟨rG T q,?_⟩
   cases z:H T with
   | none=>rfl
   | some u =>
    obtain⟨bR,y⟩:=(k T u z).obj
    rw[q]at y
    cases y
  | some o =>
   by_cases hm:T∈ex++bL
   ·rcases mem_append.mp hm with z | z
    ·exact bg T z
    ·by_cases RY:T∈ex
     ·exact bg T RY
     ·obtain⟨bW,b6,ck⟩:=hf T z
      obtain⟨dc,j8⟩:=d.slot T bW b6 z RY
      rw[pv]at j8
      have qs:md={ bW with slots:=dc }:=Option.some.inj j8
      rw[qs]at oe
      exact absurd oe (ck aO)
   ·rw[PySem.W.hideAll_get _ q hm]at px
    cases px
 exact⟨ji,vs,T,md,aO,a0,g1,g2,gF,g3,jQ,oh,pv,oe,o6,(bg e he).1,iD.1,(bg e he).2,iD.2⟩
section
variable {X:bE}{pins:List (Addr × Obj)}{σ:St}{H:ao}{s:Shared}
theorem Inv.wD (I:Inv X pins σ H s):∀b∈gC X.stack,∃o,s.heap.get? b=some o∧∀vs,o.data≠.fields vs:=fun b aa=>(I.stack.mem aa).2
theorem Inv.w4 (I:Inv X pins σ H s) (ph:X.ex=[]):∀b,s.heap.get? b=none→X.fJ.heap.get? b=none:=fun b e=>by
 cases q:X.fJ.heap.get? b with
 | none=>rfl
 | some o =>
  obtain⟨fB,y⟩:=I.base.there b o q (by rw[ph];simp)
  rw[e]at y
  cases y
theorem Inv.CH (I:Inv X pins σ H s) (ex:List Addr):s.heap.FunFrames (hideAll s.heap (ex++gC X.stack)) X.stack :=
 PySem.W.funFrames_hide I.stack fun env he a hf=>mem_append_right _ (List.mem_filterMap.mpr ⟨env,he,hf⟩)
theorem Inv.c8 (I:Inv X pins σ H s) {b:Addr}(e:s.heap.get? b=none):b≠X.env.locals∧(∀y c,X.env.cells.lookup y=some c→c≠b)∧∀p∈X.bz++pins,p.1≠b:=by
 refine⟨fun z=>?_,fun y c q z=>?_,fun p aI z=>?_⟩
 ·obtain⟨m,⟨o,_,_,aH,_⟩,_⟩:=I.loc
  rw[←z,e]at aH
  cases aH
 ·obtain⟨v,o,aH,_⟩:=I.cell y c q
  rw[z,e]at aH
  cases aH
 ·have:=(I.pin p aI).1
  rw[z,e]at this
  cases this
end
structure BU (X:bE) (pins:List (Addr × Obj)) (σ:St) (H:ao) (s:Shared) (e:Addr) (cls:Value):Prop where
 inv:Inv X pins σ H s
 Oj:Ge X.fJ.heap H s.heap e cls
 c8:∀b,(b=e∨∃ji vs,s.heap.get? e=some ji∧ji.data=.fields vs∧vs[1]?=some (.ref b))→b≠X.env.locals∧(∀y c,X.env.cells.lookup y=some c→c≠b)∧∀p∈X.bz++pins,p.1≠b
section
variable {X:bE}{pins:List (Addr × Obj)}{σ:St}{H ah:ao}{s aM:Shared}{E:gR}{e:Value}
theorem Inv.JJ (I:Inv X pins σ H s) (ph:X.ex=[]) (h:di X.prog X.w X.stack H s E e aM):∃aP cls ah,e=.ref aP∧BU X pins σ ah aM aP cls∧E cls none ah:=by
 obtain⟨aP,cls,ah,rfl,os,bare,un,bD,gG,q⟩:=h
 refine⟨aP,cls,ah,rfl,⟨I.DP (ch:=[]) os un bD bare (fun b z=>absurd z (by simp)),?_,?_⟩,q⟩
 ·obtain⟨ji,vs,T,md,aO,a0,g1,g2,g3,gF,jQ,px,oh,pv,oe,o6,rM,uM,uL⟩:=gG
  exact⟨ji,vs,T,md,aO,a0,g1,g2,g3,gF,jQ,px,oh,pv,oe,I.w4 ph _ o6,I.w4 ph _ rM,uM,uL⟩
 ·obtain⟨ji,vs,T,md,aO,a0,g1,g2,g3,gF,jQ,px,oh,pv,oe,o6,rM,uM,uL⟩:=gG
  rintro b (rfl | ⟨alS,vs',b6,ck,j8⟩)
  ·exact I.c8 o6
  ·rw[g1]at b6
   cases b6
   rw[g3]at ck
   cases ck
   rw[jQ]at j8
   cases j8
   exact I.c8 rM
theorem BU.Xl {P:Program}{w:World}{K:PySem.W.Frag}{ai:Str→Option Value}{base:Heap}{N:List Str}{qual:Str}{scope:Scope}{f:Addr}{cd:Value}{A:Around}{outer:List Env}{s0:Shared}{cW:ao}{E:gR}{aP:Addr}{cls:Value}
  (U:BU (fG (di P w) P w K ai base N qual scope f cd A outer s0 cW E) pins σ H s aP cls) (q:E cls none H):(fG (di P w) P w K ai base N qual scope f cd A outer s0 cW E).dF (.ref aP) s:=by
 obtain⟨I,gG,c8⟩:=U
 obtain⟨ji,vs,T,md,aO,a0,g1,g2,g3,gF,jQ,px,oh,pv,oe,o6,rM,uM,uL⟩:=id gG
 have bg:∀b∈[aP,T],s0.heap.get? b=none∧H b=none:=fun b aa=>by
  rcases mem_cons.mp aa with z | z
  ·rw[z];exact⟨o6,uM⟩
  ·rw[mem_singleton.mp z];exact⟨rM,uL⟩
 have rq:∀b∈[aP,T],_:=fun b aa=>c8 b (by
  rcases mem_cons.mp aa with z | z
  ·exact .inl z
  ·exact .inr ⟨ji,vs,g1,g3,by rw[mem_singleton.mp z];exact jQ⟩)
 refine wpAny_leaving_nextW (base:=hideAll s.heap ([aP,T]++gC (fG (di P w) P w K ai base N qual scope f cd A outer s0 cW E).stack)) (L:=(fG (di P w) P w K ai base N qual scope f cd A outer s0 cW E).env.locals) (a0:=a0) (cls:=cls) I.ok.frames (I.CH _) rfl
  ⟨ji,vs,T,md,aO,g1,⟨g2,gF⟩,g3,jQ,PySem.W.hideAll_none _ (by simp),px,oh,pv,oe⟩ (fun b o y=>PySem.W.of_hideAll _ y) (PySem.W.hideAll_none _ (by simp)) fun h' fY=>?_
 obtain⟨k1,k2,k3,jP⟩:=fY
 have d:=C8 k1 jP fun b aa o aH vs=>by
  obtain⟨fB,b6,ck⟩:=I.wD b aa
  rw[aH]at b6
  cases b6
  exact ck vs
 have gc:=I.held (t':=s.toks) rfl d (fun b aa=>(bg b aa).2) (fun b aa=>(bg b aa).1) (fun b aa=>(rq b aa).1) (fun b aa=>(rq b aa).2.1) fun b aa=>(rq b aa).2.2
 exact⟨aP,cls,H,rfl,gc.os,gc.bare,gc.base,gc.bD,J3 k3 d (I.w4 rfl) I.bD bg I.wD (by simp),q⟩
theorem jy {P:Program}{w:World}{K:PySem.W.Frag}{ai:Str→Option Value}{base:Heap}{N:List Str}{qual:Str}{scope:Scope}{f:Addr}{cd:Value}{A:Around}{outer:List Env}{s0:Shared}{cW:ao}{E yj:gR}(GJ:∀c H,yj c none H→E c none H) :
  Passes (di P w) (fG (di P w) P w K ai base N qual scope f cd A outer s0 cW E) yj:=fun pins σ H s e aM I h=>by
 obtain⟨aP,cls,ah,rfl,U,q⟩:=I.JJ rfl h
 exact U.Xl (GJ _ _ q)
end
abbrev yc:=St→ao→(ao→Prop)→Prop
def BW (X:bE) (aE:List Expr) (n:Nat) (t:yc):Prop :=
 ∀(pins:List (Addr × Obj)) (s:Shared) (σ:St) (H:ao) (out:Str) (Q:ao→Prop),Inv X pins σ H s→out.length+n≤sizeLine→t σ H Q →
  wpAny (model X.prog X.w) X.A (joinParts out (evalEach aE X.env)) (fun v aM=>∃y bG,v=.str y bG∧∃ah,Inv X pins σ ah aM∧Q ah) X.dF s
section
variable {X:bE}
theorem zg:BW X [] 0 (fun σ H Q=>Q H):=fun pins s σ H out Q I hz q =>
 joinParts_nil ⟨out,_,rfl,H,I.kept (h':=s.heap) (t':=s.toks+1) fun _ _ e=>e,q⟩ (by omega)
def Yb (b8:TE) (m:Nat) (t:yc):yc:=fun σ H Q=>b8 σ H fun v H1=>∃y:Str,v=.str y∧y.length≤m∧t σ H1 Q
theorem lP {e:Expr}{aE:List Expr}{b8:TE}{n:Nat}{t:yc}(m:Nat) (he:b3 X e b8) (h:BW X aE n t) (br:evalEach (e::aE) X.env=eval e X.env::evalEach aE X.env:=by rfl):BW X (e::aE) (n+m) (Yb b8 m t):=by
 intro pins s σ H out Q I hz bN
 rw[br]
 refine joinParts_cons (bS (he pins s σ H _ I bN) fun v s1 ⟨x,H1,aY,a4,y,ex,cg,q⟩=>?_)
 subst ex
 obtain⟨bG,rfl⟩:∃bG,v=.str y bG:=a4
 have az:(out++y).length=out.length+y.length:=strLen_append out y
 exact⟨by rw[az];omega,h pins s1 σ H1 (out++y) Q aY (by rw[az];omega) q⟩
def YB (b8:TE):TE:=fun σ H Q=>b8 σ H fun v H1=>∃i:Int,v=.int i∧i.natAbs.log2<1920∧Q (.str (toString i)) H1
theorem wh {e:Expr}{b8:TE}{pos:Pos}(he:b3 X e b8):b3 X (.FormattedValue e (-1) none pos) (YB b8):=by
 intro pins s σ H Q I bN
 refine FormattedValue_plain (bS (he pins s σ H _ I bN) fun v s1 ⟨x,H1,aY,a4,i,ex,aL,q⟩=>?_)
 subst ex
 obtain⟨bG,rfl⟩:∃bG,v=.int i bG:=a4
 exact formatField_int_small aL ⟨.str (toString i),H1,aY.kept (h':=s1.heap) (t':=s1.toks+1+1) fun _ _ e=>e,⟨_,rfl⟩,q⟩
theorem yG {aJ aN:Expr}{aE:List Expr}{n:Nat}{t:yc}{pos:Pos}(h:BW X (aJ::aN::aE) n t) (aS:n≤sizeLine:=by decide) (br:evalEach (aJ::aN::aE) X.env=eval aJ X.env::eval aN X.env::evalEach aE X.env:=by rfl) :
  b3 X (.JoinedStr (aJ::aN::aE) pos) (fun σ H Q=>t σ H fun H1=>∀y:Str,Q (.str y) H1):=by
 intro pins s σ H Q I bN
 refine JoinedStr_many ?_
 rw[←br]
 refine bS (h pins s σ H Str.empty _ I (by have:(Str.empty).length=0:=rfl;omega) bN) fun v s1 ⟨y,bG,ev,H1,aY,q⟩=>?_
 subst ev
 exact⟨.str y,H1,aY,⟨bG,rfl⟩,q y⟩
theorem sz {i:Int}(h:i.natAbs.log2<1920):(toString i:Str).length≤1921:=by
 have e:=int_text_length_le (k:=1920) (by decide) h
 show (Str.ofString (toString i)).length≤1921
 rw[PySem.ofString_length]
 omega
theorem Ii {i:Int}(h:i.natAbs<2 ^ 1900):i.natAbs.log2<1920:=by
 by_cases z:i.natAbs=0
 ·rw[z]
  decide
 ·exact (Nat.log2_lt z).mpr (Nat.lt_trans h (Nat.pow_lt_pow_right (by decide) (by decide)))
end
theorem W_ {K:PySem.W.Frag}{h:Heap}{ai:Str→Option Value}{x:Str}{C:Addr}{bmB:List Value}{newId:String}(X:K.In h) (aa:ai x=some (.ref C)) (q:excIn K C bmB newId=true):OwnCls x C bmB newId ai h:=by
 constructor
 ·exact aa
 ·unfold excIn at q
  split at q
  case h_2=>cases q
  case h_1 dd cd dc aH =>
   split at q
   case h_2=>cases q
   case h_1 BZ bm k0 k1 k2 k3 n k5 hm a5 =>
    rw[and_eq_true,and_eq_true,and_eq_true,and_eq_true,and_eq_true]at q
    obtain⟨⟨⟨⟨⟨bu,aV⟩,eV⟩,iW⟩,lz⟩,Gp⟩:=q
    have aJ:=beq_iff_eq.mp bu
    have aN:=beq_iff_eq.mp aV
    have pB:=beq_iff_eq.mp Gp
    have b2:cd.hasDel=false:=by simpa using eV
    subst aJ aN
    cases cd with
    | mk nm bs mro ns Gn hd sn sub ab col del =>
     cases dc with
     | mk l =>
      have hm:mro=_:=hm
      have a5:l=_:=a5
      have b2:del=false:=b2
      subst hm a5 b2
      exact⟨bm,ns,nm,Gn,bs,hd,sn,sub,ab,col,dd,k0,k1,k2,k3,k5,_,X _ _ aH,.of_isNs (PySem.W.isNs_of_in X lz),PySem.W.nsMap_none_of_in X lz pB,PySem.W.tail_of_in X iW⟩
section
variable {P:Program}{w:World}{K:PySem.W.Frag}{ai:Str→Option Value}{base:Heap}{N:List Str}{qual:Str}{scope:Scope}{f:Addr}{cd:Value}{A:Around}{outer:List Env}{s0:Shared}{cW:ao}{E:gR}{pins:List (Addr × Obj)}{σ:St}{H:ao}{s:Shared}
theorem Inv.thrown {h':Heap}{aP:Addr}{cls:Value}{args:List Value}(I:Inv (fG (di P w) P w K ai base N qual scope f cd A outer s0 cW E) pins σ H s) (bg:Heap.MadeExcOf s.heap h' aP cls args) (q:E cls none H) :
  (fG (di P w) P w K ai base N qual scope f cd A outer s0 cW E).dF (.ref aP) { s with heap:=h' }:=by
 have c8:=I.c8 bg.new
 have pf:s0.heap.get? aP=none:=I.w4 rfl _ bg.new
 have akr:H aP=none:=by
  cases z:H aP with
  | none=>rfl
  | some u =>
   obtain⟨bR,y⟩:=(I.bD aP u z).obj
   rw[bg.new]at y
   cases y
 have aY:=I.kept (t':=s.toks) bg.keeps
 obtain⟨t,he,_,_⟩:=bg.there
 have Fi:∀b∈[aP],s0.heap.get? b=none∧H b=none:=fun b aa=>by rw[mem_singleton.mp aa];exact⟨pf,akr⟩
 refine wpAny_leaving_firstW (s:={ s with heap:=h' }) (base:=hideAll h' ([aP]++gC (fG (di P w) P w K ai base N qual scope f cd A outer s0 cW E).stack)) (L:=(fG (di P w) P w K ai base N qual scope f cd A outer s0 cW E).env.locals) (a0:=.ref t) aY.ok.frames (aY.CH _) rfl
  he (fun b o y=>PySem.W.of_hideAll _ y) (PySem.W.hideAll_none _ (by simp)) rfl rfl rfl fun aG fY=>?_
 obtain⟨k1,k2,k3,jP⟩:=fY
 have d:=C8 k1 jP fun b aa o aH vs=>by
  obtain⟨fB,b6,ck⟩:=aY.wD b aa
  rw[aH]at b6
  cases b6
  exact ck vs
 have cH:=aY.held (t':=s.toks) rfl d (fun b aa=>(Fi b aa).2) (fun b aa=>(Fi b aa).1) (fun b aa=>by rw[mem_singleton.mp aa];exact c8.1) (fun b aa=>by rw[mem_singleton.mp aa];exact c8.2.1) fun b aa=>by rw[mem_singleton.mp aa];exact c8.2.2
 exact⟨aP,cls,H,rfl,cH.os,cH.bare,cH.base,cH.bD,J3 k3 d (aY.w4 rfl) aY.bD Fi aY.wD (by simp),q⟩
def WW (C:Addr) (E:gR) (b8:TE):fU:=fun _ σ H=>b8 σ H fun _ H1=>E (.ref C) none H1
theorem yQ {x:Str}{C:Addr}{bm:List Value}{newId Xr B:String}{e:Expr}{b8:TE}{np gB pos:Pos}(akP:excIn K C bm newId=true) (hm:ai x=some (.ref C)) (FB:ExcBaseFacts B newId Xr bm) (cA:kX (fG (di P w) P w K ai base N qual scope f cd A outer s0 cW E) x)
  (he:b3 (fG (di P w) P w K ai base N qual scope f cd A outer s0 cW E) e b8) (hd:(x == ("__debug__":Str))=false:=by decide)
  (a5:starEach [e] (fG (di P w) P w K ai base N qual scope f cd A outer s0 cW E).env=[(false,eval e (fG (di P w) P w K ai base N qual scope f cd A outer s0 cW E).env)]:=by rfl) :
  kh (fG (di P w) P w K ai base N qual scope f cd A outer s0 cW E) (.Raise (some (.Call (.Name x np) [e] [] gB)) none pos) (WW C E b8):=by
 intro pins s σ H D I h
 have O:=W_ (bmB:=bm) (newId:=newId) I.ok.mod.uA hm akP
 obtain⟨hD,alh,nm,q,bs,hdct,sn,sub,ab,col,dd,k0,k1,k2,k3,k5,mN,ais,gP,ah3,T⟩:=O.obj
 refine wpAny_Raise_call_subT (C:=C) (nm:=nm) (q:=q) (N:=alh) (bs:=bs) (bm:=hD) (hdct:=hdct) (sn:=sn) (sub:=sub) (ab:=ab) (col:=col) (dd:=dd) (k0:=k0) (k1:=k1) (k2:=k2) (k3:=k3) (k5:=k5)
  FB (mN:=mN) (T.hasType FB.hasBase) (I.ok.hd rfl) (by rw[a5];rfl) ah3 (y_ I cA hm ⟨rfl,?_⟩ hd)
 rw[a5]
 refine Calls.evalArgs_plain ?_
 show wpAny _ _ (spliced [(false,eval e (fG (di P w) P w K ai base N qual scope f cd A outer s0 cW E).env)]) _ _ s
 refine Calls.spliced_cons (bS (he pins s σ H _ I h) fun u s1 ⟨v,H1,aY,a4,bu⟩=>?_)
 refine Calls.spliced_nil ⟨rfl,by show 1≤sizeLine;decide,aY.hv _ _ ais,gP.keeps aY.hv,T.keeps aY.hv,fun h' aP bg=>?_⟩
 exact aY.thrown bg bu
end
section
variable {P:Program}{w:World}{K:PySem.W.Frag}{ai:Str→Option Value}{base:Heap}
theorem da.mO {x qual:Str}{st:Stmt}{f:Addr}{fd:FuncData}{N ps:List Str}{k:Nat}{sp:c3}(F:da K x qual st f fd) (S:dk N ps (bF st)) (len:∀vs H Q E,sp vs H Q E→vs.length=ps.length)
  (wC:∀(b4:Value) (A:Around) (outer:List Env) (s:Shared) (H:ao) (vs:List V) (Q:cC) (E:gR),gd k (A.deeper (envOfC qual (bF st) s.heap.objs.size f b4))→sp vs H Q E →
   ∃t,gW (fG (di P w) P w K ai base N qual (bF st) f b4 A outer s H E) (cR st) t∧t { c4:=fun _ ah=>Q .cE ah,n6:=Q } (start N vs) H):aU P w K ai base (di P w) (k+1) f fd ps sp:=by
 obtain⟨mc,fq,d9,doc,pm,an,b4,ff,oZ,rfl,lk,kG⟩:=F.ex
 exact Kp lk kG S len fun A outer s H vs Q E aC nO=>wC b4 A outer s H vs Q E aC nO
end
def zL (X:bE) (pp:List (Addr × Obj)) (cs:List (Addr × Str)) (Q:cC):bE :=
 { X with bz:=X.bz++pp,dF:=fun e aM=>∃aP C r σ H,e=.ref aP∧BU X pp σ H aM aP (.ref C)∧cs.lookup C=some r∧Q (.str r) H }
theorem Inv.XC {X:bE}{pp:List (Addr × Obj)}{cs:List (Addr × Str)}{Q:cC}{σ:St}{H:ao}{s:Shared}(I:Inv X pp σ H s):Inv (zL X pp cs Q) [] σ H s :=
 ⟨⟨I.ok.mod,I.ok.kind,I.ok.glob,I.ok.blt,I.ok.above,I.ok.inj,I.ok.has,I.ok.o9,I.ok.hd,I.ok.frames,I.ok.mL,I.ok.qm,I.ok.bs,I.ok.lr,I.ok.nE,I.ok.p5,I.ok.jB,I.ok.mX⟩,I.os,I.bare,I.base,I.loc,I.cell,I.free,I.jz,fun p aI=>I.pin p (by
  have aI:p∈(X.bz++pp)++[]:=aI
  rw[append_nil]at aI
  exact aI),I.bD,I.len⟩
theorem Inv.wA {X:bE}{pp pins:List (Addr × Obj)}{cs:List (Addr × Str)}{Q:cC}{σ:St}{H:ao}{s:Shared}(I:Inv (zL X pp cs Q) pins σ H s):Inv X pp σ H s :=
 ⟨⟨I.ok.mod,I.ok.kind,I.ok.glob,I.ok.blt,I.ok.above,I.ok.inj,I.ok.has,I.ok.o9,I.ok.hd,I.ok.frames,I.ok.mL,I.ok.qm,I.ok.bs,I.ok.lr,I.ok.nE,I.ok.p5,I.ok.jB,I.ok.mX⟩,I.os,I.bare,I.base,I.loc,I.cell,I.free,I.jz,fun p aI=>I.pin p (mem_append_left _ aI),I.bD,I.len⟩
theorem XY {X:bE}{P:Program}{w:World}{pp:List (Addr × Obj)}{cs:List (Addr × Str)}{Q:cC}{E:gR}(gs:X.prog=P) (hw:X.w=w) (ph:X.ex=[]) (GJ:∀c H,E c none H→∃C r,c=.ref C∧cs.lookup C=some r∧Q (.str r) H):Passes (di P w) (zL X pp cs Q) E:=by
 subst gs hw
 intro pins σ H s e aM I h
 have aln:=I.wA
 obtain⟨aP,cls,ah,rfl,U,q⟩:=aln.JJ ph h
 obtain⟨C,r,rfl,aC,bN⟩:=GJ _ _ q
 exact⟨aP,C,r,σ,ah,rfl,U,aC,bN⟩
inductive v9 (X:bE):List ExceptHandler→List (Addr × Str)→Prop where
 | nil:v9 X [] []
 | cons {x:Str} {np R6 GX pos:Pos} {r:Str} {k:Nat} {C:Addr} {a5:List ExceptHandler} {cs:List (Addr × Str)} (hm:X.ai x=some (.ref C)) (cA:kX X x) (hd:(x == ("__debug__":Str))=false) (h:v9 X a5 cs) :
   v9 X (.ExceptHandler (some (.Name x np)) none [.Return (some (.Constant (.str r) k GX)) R6] pos::a5) ((C,r)::cs)
def ZF (Q:cC) (dG:fU):fU:=fun D σ H=>(∀v H,Q v H→D.n6 v H)∧dG D σ H
section
variable {X:bE}{pp:List (Addr × Obj)}{σ:St}{H:ao}
structure Lies (X:bE) (pp:List (Addr × Obj)) (σ:St) (H:ao) (s1:Shared) (ex:List Addr) (aP:Addr) (cls a0:Value) (s:Shared):Prop where
 inv:Inv X pp σ H s
 gG:Heap.FlyingW (hideAll s1.heap (ex++gC X.stack)) X.stack aP cls a0 s.heap
 up:s1.heap.UpToSlots s.heap
 eq:∃h',s={ s1 with heap:=h' }
def markX (X:bE) (e:Value):bE:={ X with A:=X.A.mark (some e),calm:=false }
theorem Inv.JO {e:Value}{s:Shared}(I:Inv X pp σ H s):Inv (markX X e) pp σ H s :=
 ⟨⟨I.ok.mod,I.ok.kind,I.ok.glob,I.ok.blt,I.ok.above,I.ok.inj,I.ok.has,I.ok.o9,(fun z=>absurd (show false=true from z) Bool.false_ne_true),I.ok.frames,I.ok.mL,I.ok.qm,I.ok.bs,I.ok.lr,I.ok.nE,I.ok.p5,I.ok.jB,I.ok.mX⟩,I.os,I.bare,I.base,I.loc,I.cell,I.free,I.jz,I.pin,I.bD,I.len⟩
theorem Inv.Xi {e:Value}{s:Shared}(I:Inv (markX X e) pp σ H s) (hd:X.calm=true→X.A.handled=none):Inv X pp σ H s :=
 ⟨⟨I.ok.mod,I.ok.kind,I.ok.glob,I.ok.blt,I.ok.above,I.ok.inj,I.ok.has,I.ok.o9,hd,I.ok.frames,I.ok.mL,I.ok.qm,I.ok.bs,I.ok.lr,I.ok.nE,I.ok.p5,I.ok.jB,I.ok.mX⟩,I.os,I.bare,I.base,I.loc,I.cell,I.free,I.jz,I.pin,I.bD,I.len⟩
theorem T3 {M:Addr}{e0:Env}{outer:List Env}{aP C:Addr}{r:Str}{a0:Value}{ay:Shared}{ex:List Addr}{SQ:Flow→Shared→Prop}{hj:Value→Shared→Prop}
  (land:∀(S9:Around) (s:Shared) (vu:Unit→Shared→Prop) (yj:Value→Shared→Prop),Lies X pp σ H ay ex aP (.ref C) a0 s→(∀aM,Lies X pp σ H ay ex aP (.ref C) a0 aM→vu () aM)→wpAny (model X.prog X.w) S9 (setFlight (.ref aP) none) vu yj s)
  (fin:∀(bK:St) (s:Shared) (u:Value),Inv X pp bK H s→RelV (.str r) u→SQ (.ret u) s) :
  ∀{a5:List ExceptHandler} {cs:List (Addr × Str)},v9 X a5 cs→(∀p∈cs,exmOne X.K (.ref C) (.ref p.1)=some (C == p.1))→cs.lookup C=some r →
   ∀s,Lies X pp σ H ay ex aP (.ref C) a0 s→wpAny (model X.prog X.w) X.A (handleBy (.ref aP) X.env a5) SQ hj s:=by
 intro a5 cs aj
 induction aj with
 | nil=>intro _ az;cases az
 | @cons x np R6 GX pos fz k BZ a5 cs hm akR hd aj c6 =>
  intro bg az s L
  refine wpAny_handleBy_cons ?_ (by intro q;cases q)
  have I:=L.inv
  refine codeAny_handlers_test ?_
  have cH:Inv (markX X (.ref aP)) pp σ H s:=I.JO
  refine y_ (X:=markX X (.ref aP)) cH akR hm ?_ hd
  have w5:PySem.W.Looks (model X.prog X.w) s.heap (typeOf (.ref aP)) (.ref C):=by
   obtain⟨bR,Ft,aj⟩:=L.gG.there
   rw[←aj]
   exact (PySem.W.Looks.ld Ft).andThen .now
  refine (PySem.W.exm_one (M:=model X.prog X.w) I.gn w5 (bg _ mem_cons_self)).here ?_
  cases e:C == BZ with
  | true =>
   refine codeAny_handlers_suite (land _ s _ _ L fun aM alm=>?_)
   have eE:fz=r:=by
    rw[lookup_cons]at az
    rw[show (C == BZ)=true from e]at az
    exact Option.some.inj az
   subst eE
   have cQ:Inv ((markX X (.ref aP)).lT (notedBy (model X.prog X.w) (X.A.mark (some (.ref aP))) X.env fun x hW=>cameBackBy (model X.prog X.w) X.A X.env hj x hW)) pp σ H aM:=(alm.inv.JO).lT _
   refine bS (aZ (cF bw) pp aM σ H { c4:=fun _ _=>False,n6:=fun v ah=>v=.str fz∧ah=H } cQ ⟨rfl,rfl⟩) fun gG s2 j3=>?_
   cases gG with
   | ret u =>
    obtain⟨v,g9,au,kk,bp,rfl,rfl⟩:=j3
    exact fin g9 s2 u (kk.oG.Xi I.ok.hd) bp
   | next=>obtain⟨_,_,_,z⟩:=j3;exact z.elim
   | brk=>obtain⟨_,_,_,z⟩:=j3;exact z.elim
   | cont=>obtain⟨_,_,_,z⟩:=j3;exact z.elim
  | false =>
   refine c6 (fun p aI=>bg p (mem_cons_of_mem _ aI)) ?_ s L
   rw[lookup_cons,show (C == BZ)=false from e]at az
   exact az
theorem W4 {body:List Stmt}{h₀:ExceptHandler}{a5:List ExceptHandler}{cs:List (Addr × Str)}{Q:cC}{dG:fU}{pos:Pos}{e0:Env}{outer:List Env}(ph:X.ex=[]) (ja:X.stack=X.env::X.outer) (hf:X.env.frame=some X.env.locals) (aj:v9 X (h₀::a5) cs)
  (bg:∀p∈cs,∀q∈cs,exmOne X.K (.ref p.1) (.ref q.1)=some (p.1 == q.1))
  (aa:∀pp,gW (zL X pp cs Q) body dG):kh X (.Try body (h₀::a5) [] [] pos) (ZF Q dG):=by
 intro pins s σ H D I h
 obtain⟨pk,h⟩:=h
 refine wpAny_Try_except (wpAny_mono (aa pins [] s σ H D I.XC h) (fun gG s1 ay=>?_) fun e s1 ay=>?_)
 ·cases gG with
  | next =>
   obtain⟨jd,H1,aY,bu⟩:=ay
   show wpAny _ _ (execs [] X.env) _ _ s1
   exact wpAny_pure ⟨jd,H1,aY.wA,bu⟩
  | brk=>obtain⟨jd,H1,aY,bu⟩:=ay;exact⟨jd,H1,aY.wA,bu⟩
  | cont=>obtain⟨jd,H1,aY,bu⟩:=ay;exact⟨jd,H1,aY.wA,bu⟩
  | ret u=>obtain⟨v,jd,H1,aY,bp,bu⟩:=ay;exact⟨v,jd,H1,aY.wA,bp,bu⟩
 ·obtain⟨aP,C,r,jd,H1,rfl,U,az,q⟩:=ay
  obtain⟨aY,Oj,c8⟩:=U
  obtain⟨ji,vs,T,md,aO,a0,g1,g2,g3,gF,jQ,px,oh,pv,oe,o6,rM,uM,uL⟩:=id Oj
  have hex:∀b∈[aP,T],X.fJ.heap.get? b=none∧H1 b=none:=fun b aa=>by
   rcases mem_cons.mp aa with z | z
   ·rw[z];exact⟨o6,uM⟩
   ·rw[mem_singleton.mp z];exact⟨rM,uL⟩
  have rq:∀b∈[aP,T],_:=fun b aa=>c8 b (by
   rcases mem_cons.mp aa with z | z
   ·exact .inl z
   ·exact .inr ⟨ji,vs,g1,g3,by rw[mem_singleton.mp z];exact jQ⟩)
  have aif:Heap.FlyingW (hideAll s1.heap ([aP,T]++gC X.stack)) X.stack aP (.ref C) a0 s1.heap :=
   ⟨fun b o y=>PySem.W.of_hideAll _ y,PySem.W.hideAll_none _ (by simp),aY.CH _,ji,vs,T,md,aO,g1,⟨g2,gF⟩,g3,jQ,PySem.W.hideAll_none _ (by simp),px,oh,pv,oe⟩
  have mk:∀s2:Shared,(∃h',s2={ s1 with heap:=h' })→(hideAll s1.heap ([aP,T]++gC X.stack)).StaysIn s2.heap→s1.heap.UpToSlots s2.heap→Inv X pins jd H1 s2:=fun s2 ⟨h',aN⟩ st up=>by
   subst aN
   have d:=C8 st up fun b aa o aH vs=>by
    obtain⟨fB,b6,ck⟩:=aY.wD b aa
    rw[aH]at b6
    cases b6
    exact ck vs
   exact aY.held (t':=s1.toks) ph d (fun b aa=>(hex b aa).2) (fun b aa=>(hex b aa).1) (fun b aa=>(rq b aa).1) (fun b aa=>(rq b aa).2.1) fun b aa=>(rq b aa).2.2
  have nQ:X.A.frames=some (X.env::X.outer):=by rw[←ja];exact aY.ok.frames
  have adb:Heap.FlyingW (hideAll s1.heap ([aP,T]++gC X.stack)) (X.env::X.outer) aP (.ref C) a0 s1.heap:=by rw[←ja];exact aif
  refine wpAny_looks_onW (L:=X.env.locals) nQ hf adb fun dN Yi Mq=>?_
  refine wpAny_landsW (s:={ s1 with heap:=dN }) Yi fun gQ Om Mp=>?_
  have adj:Heap.FlyingW (hideAll s1.heap ([aP,T]++gC X.stack)) X.stack aP (.ref C) a0 gQ:=by
   have z:=Om
   rw[←ja]at z
   exact z
  have alk:Lies X pins jd H1 s1 [aP,T] aP (.ref C) a0 { s1 with heap:=gQ }:=⟨mk _ ⟨_,rfl⟩ Om.1 (Mq.trans Mp),adj,Mq.trans Mp,⟨_,rfl⟩⟩
  refine T3 (M:=aP) (e0:=X.env) (outer:=X.outer) (r:=r) (fun S9 s2 vu yj L air=>?_) (fun bK s2 u cH bp=>⟨.str r,bK,H1,cH,bp,pk _ _ q⟩) aj (fun p aI=>?_) az _ alk
  ·refine lands_againW L.gG fun Sn Ol Mn=>air _ ?_
   obtain⟨h',rfl⟩:=L.eq
   exact⟨mk _ ⟨Sn,rfl⟩ Ol.1 (L.up.trans Mn),Ol,L.up.trans Mn,⟨Sn,rfl⟩⟩
  ·obtain⟨fz,hm⟩:∃fz,(C,fz)∈cs:=by
    refine⟨r,?_⟩
    have:∀{l:List (Addr × Str)},l.lookup C=some r→(C,r)∈l:=by
     intro l
     induction l with
     | nil=>intro z;cases z
     | cons a t c6 =>
      intro z
      rw[lookup_cons]at z
      cases y:C == a.1 with
      | true =>
       rw[y]at z
       have dE:a.2=r:=Option.some.inj z
       have dU:C=a.1:=beq_iff_eq.mp y
       rw[←dE,dU]
       exact mem_cons_self
      | false =>
       rw[y]at z
       exact mem_cons_of_mem _ (c6 z)
    exact this az
   exact bg _ hm p aI
end
theorem IW {H:ao}{a b:Addr}{o u:fh}(h:a≠b):upd (upd H a o) b u=upd (upd H b u) a o:=by
 funext c
 by_cases ay:c=b
 ·subst ay
  rw[aQ,aA (Ne.symm h),aQ]
 ·by_cases aG:c=a
  ·subst aG
   rw[aA ay,aQ,aQ]
  ·rw[aA ay,aA aG,aA aG,aA ay]
def hf (c ak st pu bG:Addr) (room begun bound:Int):List (Str × V) :=
 [("cellar",.ref c),("desk",.ref ak),("room",.int room),("strokes",.ref st),("begins",.int begun),("puts",.ref pu),("takers",.ref bG),("bound",.int bound)]
section
variable (c ak st pu bG:Addr) (room begun bound sf:Int)
theorem vN:(hf c ak st pu bG room begun bound).lookup ("cellar":Str)=some (.ref c):=by kernel_rfl
theorem oF:(hf c ak st pu bG room begun bound).lookup ("desk":Str)=some (.ref ak):=by kernel_rfl
theorem WC:(hf c ak st pu bG room begun bound).lookup ("room":Str)=some (.int room):=by kernel_rfl
theorem Ck:(hf c ak st pu bG room begun bound).lookup ("strokes":Str)=some (.ref st):=by kernel_rfl
theorem IE:(hf c ak st pu bG room begun bound).lookup ("begins":Str)=some (.int begun):=by kernel_rfl
theorem qX:(hf c ak st pu bG room begun bound).lookup ("puts":Str)=some (.ref pu):=by kernel_rfl
theorem ID:(hf c ak st pu bG room begun bound).lookup ("takers":Str)=some (.ref bG):=by kernel_rfl
theorem yX:(hf c ak st pu bG room begun bound).lookup ("bound":Str)=some (.int bound):=by kernel_rfl
theorem TH:dR "begins" (.int sf) (hf c ak st pu bG room begun bound)=hf c ak st pu bG room sf bound:=by kernel_rfl
theorem Cb:dR "bound" (.int sf) (hf c ak st pu bG room begun bound)=hf c ak st pu bG room begun sf:=by kernel_rfl
end
structure dZ where
 h:Addr
 c:Addr
 ce:Addr
 ak:Addr
 pu:Addr
 st:Addr
 bG:Addr
structure wF (x:av) (aO:List (Key × V)):Prop where
 a:∀z∈x.aT,∀y∈z.2,dn aO (Sum.inl ((y.1:Nat):Int))=some (.int z.1)
 b:∀k v,dn aO k=some v→∃(p:Nat) (d:Int),k=Sum.inl ((p:Nat):Int)∧v=.int d∧0≤d∧d<x.begun∧(x.isOpen d=true→∃z∈x.aT,z.1=d∧∃y∈z.2,y.1=p)
abbrev dZ.own (a:dZ) (pl:List (Int × Addr)):List Addr:=L2.own a.h a.ce a.ak a.pu a.st pl
def ey (H:ao) (a:dZ) (lo:Addr) (x:av):ao:=upd (upd H a.c (.own 0)) a.h (.bQ (a8 a.ce a.ak lo a.pu a.st x.room x.begun))
theorem fE {H:ao}{a:dZ}{lo:Addr}{x:av}{b:Addr}(ay:b≠a.h) (aG:b≠a.c):ey H a lo x b=H b:=by
 unfold ey
 rw[aA ay,aA aG]
theorem q5 {H:ao}{a:dZ}{lo:Addr}{x:av}:ey H a lo x a.h=some (.bQ (a8 a.ce a.ak lo a.pu a.st x.room x.begun)):=aQ
theorem q6 {H:ao}{a:dZ}{lo:Addr}{x:av}(h:a.c≠a.h):ey H a lo x a.c=some (.own 0):=by
 unfold ey
 rw[aA h,aQ]
theorem pS {H:ao}{a:dZ}{lo:Addr}{x:av}{b:Addr}{o:fh}(ay:b≠a.h) (aG:b≠a.c):upd (ey H a lo x) b o=ey (upd H b o) a lo x:=by
 unfold ey
 rw[IW ay.symm,IW aG.symm]
theorem yY {H:ao}{a:dZ}{lo:Addr}{x:av}{o:fh}:ey (upd H a.h o) a lo x=ey H a lo x:=by
 funext b
 by_cases z:b=a.h
 ·subst z
  rw[q5,q5]
 ·by_cases y:b=a.c
  ·subst y
   rw[q6 z,q6 z]
  ·rw[fE z y,fE z y,aA z]
structure cG (a3 aD:Addr) (H:ao) (a:dZ) (lo:Addr) (pl:List (Int × Addr)) (x:av) (aO:List (Key × V)):Prop where
 dr:bB (ey H a lo x) a.h a.ce a.ak lo a.pu a.st pl x
 bR:∃dx,H a.h=some (.ins aD dx (hf a.c a.ak a.st a.pu a.bG x.room x.begun x.bound))
 co:∃dy,H a.c=some (.ins a3 dy (k7 a.ce lo))
 kt:H a.bG=some (.bQ aO)
 gZ:a.c∉a.own pl
 nl:a.c≠lo
 mg:a.bG≠a.pu
 iV:wF x aO
section
variable {a3 aD:Addr}{H ah:ao}{a:dZ}{lo lo':Addr}{pl:List (Int × Addr)}{x:av}{aO:List (Key × V)}
theorem cG.eX (A:cG a3 aD H a lo pl x aO):a.c≠a.h∧a.c≠a.ce∧a.c≠a.ak∧a.c≠a.pu∧a.c≠a.st∧∀z∈pl,z.2≠a.c:=by
 have h:=fun b (aa:b∈a.own pl) (e:a.c=b)=>A.gZ (by rw[e];exact aa)
 exact⟨h _ (bB.r2 ..),h _ (bB.u_ ..),h _ (bB.BF ..),h _ (bB.mp ..),h _ (bB.ms ..),fun z hz e=>h _ (bB.BE hz ..) e.symm⟩
theorem cG.aS (A:cG a3 aD H a lo pl x aO):a.ce≠a.h∧a.ak≠a.h∧a.pu≠a.h∧a.st≠a.h∧lo≠a.h∧∀z∈pl,z.2≠a.h:=by
 obtain⟨dH,dC,ej,e4,_,_,_,_,_,_,fL,_,_,_,_,f6⟩:=A.dr.ne
 exact⟨dH.symm,dC.symm,ej.symm,e4.symm,fL,fun z hz=>(f6 z hz).1⟩
theorem cG.aj (A:cG a3 aD H a lo pl x aO):H a.ce=some (.lst (x.b0.map V.int)):=by
 rw[←fE (H:=H) (lo:=lo) (x:=x) A.aS.1 A.eX.2.1.symm]
 exact A.dr.aj
theorem cG.hd (A:cG a3 aD H a lo pl x aO):H a.ak=some (.lst (x.aB.map V.int)):=by
 rw[←fE (H:=H) (lo:=lo) (x:=x) A.aS.2.1 A.eX.2.2.1.symm]
 exact A.dr.hd
theorem cG.aI (A:cG a3 aD H a lo pl x aO):H a.pu=some (.bQ (dX pl)):=by
 rw[←fE (H:=H) (lo:=lo) (x:=x) A.aS.2.2.1 A.eX.2.2.2.1.symm]
 exact A.dr.aI
theorem cG.DI (A:cG a3 aD H a lo pl x aO) {lo':Addr}{n2:av}:el (ey H a lo' n2) H:=fun b xs q=>by
 by_cases z:b=a.h
 ·subst z
  rw[q5]at q
  cases q
 ·by_cases y:b=a.c
  ·subst y
   rw[q6 z]at q
   cases q
  ·rwa [fE z y]at q
theorem cG.toV (A:cG a3 aD H a lo pl x aO) {lo':Addr}{n2:av}:el H (ey H a lo' n2):=fun b xs q=>by
 obtain⟨dx,aJ⟩:=A.bR
 obtain⟨dy,aN⟩:=A.co
 rw[fE (dK q aJ (fun z=>nomatch z)) (dK q aN (fun z=>nomatch z))]
 exact q
theorem cG.az (A:cG a3 aD H a lo pl x aO):∃xs,H lo=some (.lst xs)∧gj H x.log xs:=by
 obtain⟨xs,aJ,aN⟩:=A.dr.az
 rw[fE A.aS.2.2.2.2.1 A.nl.symm]at aJ
 exact⟨xs,aJ,aN.mono fun b y q=>q.mono A.DI⟩
theorem cG.fK (A:cG a3 aD H a lo pl x aO):∃zs,H a.st=some (.lst zs)∧bk H (x.d8.map bO.D) zs:=by
 obtain⟨zs,aJ,aN⟩:=A.dr.fK
 rw[fE A.aS.2.2.2.1 A.eX.2.2.2.2.1.symm]at aJ
 exact⟨zs,aJ,bk.keep A.DI _ _ (eG bO.gA _) aN⟩
theorem CZ {K:ao}(aj:a.c≠a.h) (h:∀b o,b≠a.h→b≠a.c→K b=some o→ah b=some o) (aJ:K a.h=some (.bQ (a8 a.ce a.ak lo a.pu a.st x.room x.begun))) (aN:∀o,K a.c=some o→o=.own 0):bI K (ey ah a lo x):=fun b o q=>by
 by_cases z:b=a.h
 ·subst z
  rw[aJ]at q
  rw[q5]
  exact q
 ·by_cases y:b=a.c
  ·subst y
   rw[q6 aj,aN o q]
  ·rw[fE z y]
   exact h b o z y q
theorem cG.same (A:cG a3 aD H a lo pl x aO) (s:bI H ah):cG a3 aD ah a lo pl x aO:=by
 obtain⟨dx,aJ⟩:=A.bR
 obtain⟨dy,aN⟩:=A.co
 refine⟨A.dr.same (CZ A.eX.1 (fun b o dH dC q=>s _ _ (by rwa [fE dH dC]at q)) q5 fun o q=>?_),⟨dx,s _ _ aJ⟩,⟨dy,s _ _ aN⟩,s _ _ A.kt,A.gZ,A.nl,A.mg,A.iV⟩
 rw[q6 A.eX.1]at q
 exact (Option.some.inj q).symm
theorem bB.setG {h ce ak pu st:Addr}(A:bB H h ce ak lo pu st pl x) {log:List dg}{xs ys:List V}(aJ:H lo=some (.lst xs)) (aN:gj H log ys):bB (upd H lo (.lst ys)) h ce ak lo pu st pl { x with log:=log }:=by
 obtain⟨dH,dC,ej,e4,fL,f6,gN,gM,kK,lg,fM,fb,eW,f7,iZ,np⟩:=A.ne
 have kt:el H (upd H lo (.lst ys)):=fun b us q=>by
  rw[aA (dK q aJ (fun z=>nomatch z))]
  exact q
 obtain⟨zs,b2,cj⟩:=A.fK
 refine⟨by rw[aA fM.symm];exact A.dD,by rw[aA fb.symm];exact A.aj,by rw[aA eW.symm];exact A.hd,⟨ys,aQ,aN.mono fun b y q=>q.mono kt⟩,by rw[aA f7.symm];exact A.aI,A.eK,fun i z w p q=>?_,A.bz,⟨zs,by rw[aA iZ.symm];exact b2,bk.keep kt _ _ (eG bO.gA _) cj⟩,A.ap,A.nl,A.cd⟩
 obtain⟨us,bu,aV⟩:=A.af i z w p q
 exact⟨us,by rw[aA (np z (mem_of_getElem? p)).2.2.2.2.2];exact bu,bk.keep kt _ _ (eG g5 _) aV⟩
def oO (v:V):bO→h6
 | .line _=>.line v
 | .eO p n=>.eO p n
 | .cut k=>.cut (k:Nat)
theorem Uv {s:bO}{v:V}(h:Rep H s.D v):∃y,D_ H (oO y s) v∧∀ln,s=.line ln→kB H ln y:=by
 cases s with
 | line ln =>
  obtain⟨c,u5,xM,rfl,aj,ay,aG⟩:=er h
  cases ay.str_inv
  exact⟨xM,⟨c,rfl,aj⟩,fun l e=>by cases e;exact kB.zE aG⟩
 | eO p n =>
  obtain⟨c,u5,xM,akh,rfl,aj,ay,aG,ct⟩:=yP h
  cases ay.str_inv
  cases aG.int_inv
  cases ct.int_inv
  exact⟨.cE,⟨c,rfl,aj⟩,fun l e=>by cases e⟩
 | cut k =>
  obtain⟨c,u5,xM,rfl,aj,ay,aG⟩:=er h
  cases ay.str_inv
  cases aG.int_inv
  exact⟨.cE,⟨c,rfl,aj⟩,fun l e=>by cases e⟩
theorem wF.cT (t:wF x aO) (s:bO):wF (x.cT s) aO:=by
 refine⟨fun z hz=>t.a z (by rwa [oA]at hz),fun k v e=>?_⟩
 obtain⟨p,d,aJ,aN,b2,cj,fe⟩:=t.b k v e
 refine⟨p,d,aJ,aN,b2,by rw[qK];exact cj,fun aH=>?_⟩
 rw[oA]
 refine fe ?_
 unfold av.isOpen at aH ⊢
 rwa [oA]at aH
theorem Tv (s:bO):(x.cT s).bound=x.bound:=by
 unfold av.bound
 rw[oA]
theorem Uu (s:bO):x.cT s={ x with log:=(x.cT s).log,b0:=(x.cT s).b0,d8:=x.d8++[s] }:=by cases s <;> rfl
theorem UB (s:bO) (y:V):h6.cp (x.b0.map V.int) (oO y s)=(x.cT s).b0.map V.int:=by
 cases s with
 | line ln=>rfl
 | eO p n=>exact qN ..
 | cut k=>rfl
theorem UQ {s:bO}{y:V}{xs:List V}(cg:∀ln,s=.line ln→kB H ln y) (e:gj H x.log xs):gj H (x.cT s).log (h6.cX xs (oO y s)):=by
 cases s with
 | line ln=>exact gU.snoc e (cg ln rfl)
 | eO p n=>exact e
 | cut k =>
  show gj H (x.log.drop k) (eS xs (some ((k:Nat):Int)) none)
  rw[s7]
  exact e.drop k
theorem cG.V7 (A:cG a3 aD H a lo pl x aO) {s:bO}{v y:V}{xs zs:List V}(a5:s.okIn x) (br:Rep H s.D v) (cg:∀ln,s=.line ln→kB H ln y) (aJ:H lo=some (.lst xs)) (aN:gj H x.log xs) (b2:H a.st=some (.lst zs)) (cj:bk H (x.d8.map bO.D) zs)
  (yk:zv a3 ah a.c a.ce lo' (h6.cp (x.b0.map V.int) (oO y s)) (h6.cX xs (oO y s))) (l7:lo'=lo∨H lo'=none) (eo:∀b o,H b=some o→b≠a.c→b≠a.ce→(b≠lo∨lo'≠lo)→ah b=some o) :
  cG a3 aD (upd ah a.st (.lst (zs++[v]))) a lo' pl (x.cT s) aO:=by
 obtain⟨dH,dC,ej,e4,fL,f6,gN,gM,kK,lg,fM,fb,eW,f7,iZ,np⟩:=A.dr.ne
 obtain⟨cL,dV,ep,f_,kT,GY⟩:=A.eX
 obtain⟨dx,bU⟩:=A.bR
 obtain⟨⟨dy,bW⟩,dB,fR,fa⟩:=yk
 rw[UB]at dB
 have cX:=UQ cg aN
 have EG:gj (ey H a lo x) (x.cT s).log (h6.cX xs (oO y s)):=cX.mono fun b z q=>q.mono A.toV
 have cl:(x.cT s).b0.length=x.aB.length:=by
  rw[←A.dr.cd]
  cases s with
  | line ln=>rfl
  | eO p n=>exact length_set ..
  | cut k=>rfl
 generalize h6.cX xs (oO y s)=ys at fR cX EG
 have lS:∀b,H b=none→b≠a.h∧b≠a.c:=fun b aa=>by
  obtain⟨GU,q⟩:=A.co
  exact⟨fun z=>by rw[z,bU]at aa;(cases aa),fun z=>by rw[z,q]at aa;(cases aa)⟩
 have key:∃Hg,bB Hg a.h a.ce a.ak lo' a.pu a.st pl { x with log:=(x.cT s).log,b0:=(x.cT s).b0 }∧bI Hg (ey ah a lo' { x with log:=(x.cT s).log,b0:=(x.cT s).b0 }):=by
  rcases l7 with z | z
  ·subst z
   have B:=(A.dr.setG (by rw[fE fM A.nl.symm];exact aJ) EG).setC (c:=(x.cT s).b0) cl
   refine⟨_,B,CZ cL (fun b o e7 fO q=>?_) ?_ fun o q=>?_⟩
   ·by_cases fH:b=a.ce
    ·subst fH
     rw[aQ]at q
     rw[dB]
     exact q
    ·rw[aA fH]at q
     by_cases eU:b=lo'
     ·subst eU
      rw[aQ]at q
      rw[fR]
      exact q
     ·rw[aA eU,fE e7 fO]at q
      exact eo b o q fO fH (.inl eU)
   ·rw[aA dH,aA fM.symm]
    exact q5
   ·rw[aA dV,aA A.nl,q6 cL]at q
    exact (Option.some.inj q).symm
  ·obtain⟨f1,f2⟩:=lS lo' z
   have RZ:ey H a lo x lo'=none:=by rw[fE f1 f2];exact z
   have m2:=bP RZ (.lst ys)
   have B:=((A.dr.same m2).DS (lo':=lo') aQ (EG.mono fun b w q=>q.mono m2.et) (A.dr.there RZ)).setC (c:=(x.cT s).b0) cl
   have Ag:lo'≠a.ce:=fun w=>by rw[w,A.aj]at z;cases z
   have ME:lo'≠a.h:=f1
   refine⟨_,B,CZ cL (fun b o e7 fO q=>?_) ?_ fun o q=>?_⟩
   ·by_cases fH:b=a.ce
    ·subst fH
     rw[aQ]at q
     rw[dB]
     exact q
    ·rw[aA fH,aA e7]at q
     by_cases eU:b=lo'
     ·subst eU
      rw[aQ]at q
      rw[fR]
      exact q
     ·rw[aA eU,fE e7 fO]at q
      exact eo b o q fO fH (.inr fun iT=>by rw[iT,aJ]at z;(cases z))
   ·rw[aA dH,aQ,IC]
   ·rw[aA dV,aA cL,aA f2.symm,q6 cL]at q
    exact (Option.some.inj q).symm
 obtain⟨Hg,alB,s1⟩:=key
 have nk:=alB.same s1
 have w0:a.st≠lo:=iZ.symm
 have rO:ah a.st=some (.lst zs):=eo _ _ b2 kT.symm gN.symm (.inl w0)
 have kt:el H ah:=fun b us q=>by
  obtain⟨GU,w⟩:=A.co
  exact eo b _ q (dK q w (fun z=>nomatch z)) (dK q A.aj (fun z=>nomatch z)) (.inl (dK q aJ (fun z=>nomatch z)))
 have cz:el ah (ey ah a lo' { x with log:=(x.cT s).log,b0:=(x.cT s).b0 }):=fun b us q=>by
  have Er:ah a.h=_:=eo _ _ bU cL.symm dH (.inl fM.symm)
  rw[fE (dK q Er (fun z=>nomatch z)) (dK q bW (fun z=>nomatch z))]
  exact q
 have S8:=nk.KS (v:=v) (s:=s) (by rw[fE e4.symm kT.symm];exact rO) (bk.keep cz _ _ (eG bO.gA _) (bk.keep kt _ _ (eG bO.gA _) cj)) (Rep.keep cz _ _ (bO.gA _) (Rep.keep kt _ _ (bO.gA _) br))
 rw[pS e4.symm kT.symm]at S8
 have aE:x.cT s={ x with log:=(x.cT s).log,b0:=(x.cT s).b0,d8:=x.d8++[s] }:=Uu s
 have agy:a.bG≠a.st:=dK A.kt b2 (fun z=>nomatch z)
 refine⟨?_,⟨dx,?_⟩,⟨dy,by rw[aA kT];exact bW⟩,?_,A.gZ,?_,A.mg,A.iV.cT s⟩
 ·have ev:ey (upd ah a.st (.lst (zs++[v]))) a lo' (x.cT s)=ey (upd ah a.st (.lst (zs++[v]))) a lo' { x with log:=(x.cT s).log,b0:=(x.cT s).b0 }:=by
   unfold ey
   rw[HF,qK]
  rw[ev,aE]
  exact S8
 ·rw[aA e4,HF,qK,Tv]
  exact eo _ _ bU cL.symm dH (.inl fM.symm)
 ·rw[aA agy]
  obtain⟨GU,w⟩:=A.co
  exact eo _ _ A.kt (dK A.kt w (fun z=>nomatch z)) (dK A.kt A.aj (fun z=>nomatch z)) (.inl (dK A.kt aJ (fun z=>nomatch z)))
 ·rcases l7 with z | z
  ·rw[z];exact A.nl
  ·exact (lS lo' z).2.symm
end
section
variable {a3 aD:Addr}{H ah:ao}{a:dZ}{lo lo':Addr}{pl:List (Int × Addr)}{x:av}{aO:List (Key × V)}
theorem cG.q7 (A:cG a3 aD H a lo pl x aO) {c:List Int}(aj:c.length=x.aB.length):cG a3 aD (upd H a.ak (.lst (c.map V.int))) a lo pl { x with aB:=c } aO:=by
 obtain⟨dx,bU⟩:=A.bR
 obtain⟨dy,bW⟩:=A.co
 have B:=A.dr.q7 aj
 rw[pS A.aS.2.1 A.eX.2.2.1.symm]at B
 exact⟨B,⟨dx,by rw[aA A.aS.2.1.symm];exact bU⟩,⟨dy,by rw[aA A.eX.2.2.1];exact bW⟩,by rw[aA (dK A.kt A.hd (fun z=>nomatch z))];exact A.kt,A.gZ,A.nl,A.mg,⟨A.iV.a,A.iV.b⟩⟩
theorem cG.began (A:cG a3 aD H a lo pl x aO) {dx:Addr}{b:Int}(aa:b=(x.begun:Int)+1):cG a3 aD (upd H a.h (.ins aD dx (hf a.c a.ak a.st a.pu a.bG x.room b x.bound))) a lo pl x.began aO:=by
 obtain⟨dy,bW⟩:=A.co
 have dT:b=((x.begun+1:Nat):Int):=by omega
 have B:=A.dr.setB (n:=x.begun+1) dT
 have ev:upd (ey H a lo x) a.h (.bQ (putK (a8 a.ce a.ak lo a.pu a.st x.room x.begun) (Sum.inr "begun") (.int b)))=ey (upd H a.h (.ins aD dx (hf a.c a.ak a.st a.pu a.bG x.room b x.bound))) a lo x.began:=by
  rw[HN,yY,dT]
  unfold ey
  rw[qT]
  rfl
 rw[ev]at B
 have qw:a.bG≠a.h:=fun z=>by
  obtain⟨GU,w⟩:=A.bR
  have:=A.kt
  rw[z,w]at this
  cases this
 refine⟨B,⟨dx,by rw[aQ,dT];rfl⟩,⟨dy,by rw[aA A.eX.1];exact bW⟩,by rw[aA qw];exact A.kt,A.gZ,A.nl,A.mg,⟨A.iV.a,fun k v e=>?_⟩⟩
 obtain⟨p,d,aJ,aN,b2,cj,fe⟩:=A.iV.b k v e
 exact⟨p,d,aJ,aN,b2,by show d<((x.begun+1:Nat):Int);omega,fe⟩
theorem cG.nJ (A:cG a3 aD H a lo pl x aO):a.bG≠a.h∧a.bG≠a.c∧a.bG≠a.ce∧a.bG≠a.ak∧a.bG≠a.st∧a.bG≠lo∧∀z∈pl,a.bG≠z.2:=by
 obtain⟨dx,bU⟩:=A.bR
 obtain⟨dy,bW⟩:=A.co
 obtain⟨xs,aJ,_⟩:=A.az
 obtain⟨zs,aN,_⟩:=A.fK
 refine⟨dK A.kt bU (fun z=>nomatch z),dK A.kt bW (fun z=>nomatch z),dK A.kt A.aj (fun z=>nomatch z),dK A.kt A.hd (fun z=>nomatch z),dK A.kt aN (fun z=>nomatch z),dK A.kt aJ (fun z=>nomatch z),fun z hz=>?_⟩
 obtain⟨i,aL⟩:=List.mem_iff_getElem?.mp hz
 obtain⟨w,ys,_,_,q,_⟩:=A.dr.at_ aL
 rw[fE (A.aS.2.2.2.2.2 z hz) (A.eX.2.2.2.2.2 z hz)]at q
 exact dK A.kt q (fun z=>nomatch z)
theorem cG.opened (A:cG a3 aD H a lo pl x aO) {n dx:Addr}{d b:Int}(aS:H n=none) (hd:x.isOpen d=false) (aa:b=x.bound+1) (bg:d=(x.begun:Int) - 1) (dw:∀k e,dn aO k=some (.int e)→e≠d) :
  cG a3 aD (upd (upd (upd H n (.lst [])) a.pu (.bQ (putK (dX pl) (Sum.inl d) (.ref n)))) a.h (.ins aD dx (hf a.c a.ak a.st a.pu a.bG x.room x.begun b))) a lo (pl++[(d,n)]) x.opened aO:=by
 obtain⟨R8,bU⟩:=A.bR
 obtain⟨dy,bW⟩:=A.co
 have iY:n≠a.h:=fun z=>by rw[z,bU]at aS;cases aS
 have gZ:n≠a.c:=fun z=>by rw[z,bW]at aS;cases aS
 have br:ey H a lo x n=none:=by rw[fE iY gZ];exact aS
 have Af:n≠lo:=fun z=>by
  obtain⟨xs,e,_⟩:=A.az
  rw[z,e]at aS
  cases aS
 have qw:n≠a.bG:=fun z=>by rw[z,A.kt]at aS;cases aS
 have B:=(A.dr.same (bP br (.lst []))).opened (d:=d) (a:=n) aQ (A.dr.there br) Af hd
 rw[pS iY gZ,pS A.aS.2.2.1 A.eX.2.2.2.1.symm]at B
 have ev:∀K:ao,ey K a lo x=ey (upd K a.h (.ins aD dx (hf a.c a.ak a.st a.pu a.bG x.room x.begun b))) a lo x.opened:=fun K=>by
  rw[yY]
  rfl
 rw[ev]at B
 have dT:x.opened.bound=x.bound+1:=by
  show ((x.aT++[((x.begun:Int) - 1,([]:List (Nat × Int)))]).map fun (z:Int × List (Nat × Int))=>(z.2.length:Int)+1).sum=_
  rw[map_append,sum_append]
  rfl
 have b7:x.opened={ x with aT:=x.aT++[(d,[])] }:=by rw[bg];rfl
 rw[←b7]at B
 refine⟨B,⟨dx,by rw[aQ,dT,←aa];rfl⟩,⟨dy,by rw[aA A.eX.1,aA A.eX.2.2.2.1,aA gZ.symm];exact bW⟩,by rw[aA A.nJ.1,aA A.mg,aA qw.symm];exact A.kt,fun hm=>?_,A.nl,A.mg,⟨fun z hz=>?_,fun k v e=>?_⟩⟩
 ·rcases oE.mp hm with z | z | z | z | z | ⟨z,hz,e⟩
  ·exact A.eX.1 z
  ·exact A.eX.2.1 z
  ·exact A.eX.2.2.1 z
  ·exact A.eX.2.2.2.1 z
  ·exact A.eX.2.2.2.2.1 z
  ·rcases mem_append.mp hz with y | y
   ·exact A.eX.2.2.2.2.2 z y e
   ·rw[mem_singleton.mp y]at e
    exact gZ e
 ·rw[b7]at hz
  rcases mem_append.mp hz with y | y
  ·exact A.iV.a z y
  ·rw[mem_singleton.mp y]
   intro w hw
   cases hw
 ·obtain⟨p,e0,aJ,aN,b2,cj,fe⟩:=A.iV.b k v e
  refine⟨p,e0,aJ,aN,b2,cj,fun aH=>?_⟩
  rw[b7]at aH ⊢
  have ne:e0≠d:=dw k e0 (by rw[e,aN])
  have mT:x.isOpen e0=true:=by
   have:((x.aT++[(d,([]:List (Nat × Int)))]).any fun z=>z.1 == e0)=true:=aH
   rw[any_append]at this
   rcases Bool.or_eq_true_iff.mp this with y | y
   ·exact y
   ·have n1:(d == e0)=true:=by simpa using y
    exact absurd (beq_iff_eq.mp n1).symm ne
  obtain⟨z,hz,y⟩:=fe mT
  exact⟨z,mem_append_left _ hz,y⟩
theorem cG.ended (A:cG a3 aD H a lo pl x aO) {dx:Addr}{d b:Int}(aa:b=({ x with aT:=x.aT.filter fun z=>z.1 != d }:av).bound) :
  cG a3 aD (upd (upd H a.pu (.bQ (kx (dX pl) (Sum.inl d)))) a.h (.ins aD dx (hf a.c a.ak a.st a.pu a.bG x.room x.begun b))) a lo (pl.filter fun z=>z.1 != d) { x with aT:=x.aT.filter fun z=>z.1 != d } aO:=by
 obtain⟨R8,bU⟩:=A.bR
 obtain⟨dy,bW⟩:=A.co
 have B:=A.dr.ended d
 rw[pS A.aS.2.2.1 A.eX.2.2.2.1.symm]at B
 have ev:∀K:ao,ey K a lo x=ey (upd K a.h (.ins aD dx (hf a.c a.ak a.st a.pu a.bG x.room x.begun b))) a lo { x with aT:=x.aT.filter fun z=>z.1 != d }:=fun K=>by
  rw[yY]
  rfl
 rw[ev]at B
 refine⟨B,⟨dx,by rw[aQ,aa]⟩,⟨dy,by rw[aA A.eX.1,aA A.eX.2.2.2.1];exact bW⟩,by rw[aA A.nJ.1,aA A.mg];exact A.kt,fun hm=>?_,A.nl,A.mg,⟨fun z hz=>A.iV.a z (mem_filter.mp hz).1,fun k v e=>?_⟩⟩
 ·rcases oE.mp hm with z | z | z | z | z | ⟨z,hz,e⟩
  ·exact A.eX.1 z
  ·exact A.eX.2.1 z
  ·exact A.eX.2.2.1 z
  ·exact A.eX.2.2.2.1 z
  ·exact A.eX.2.2.2.2.1 z
  ·exact A.eX.2.2.2.2.2 z (mem_filter.mp hz).1 e
 ·obtain⟨p,e0,aJ,aN,b2,cj,fe⟩:=A.iV.b k v e
  refine⟨p,e0,aJ,aN,b2,cj,fun aH=>?_⟩
  have ah2:((x.aT.filter fun z=>z.1 != d).any fun z=>z.1 == e0)=true:=aH
  obtain⟨n0,Az,AB⟩:=any_eq_true.mp ah2
  have mT:x.isOpen e0=true:=any_eq_true.mpr ⟨n0,(mem_filter.mp Az).1,AB⟩
  have bl:(n0.1 != d)=true:=(mem_filter.mp Az).2
  obtain⟨z,hz,b6,ck⟩:=fe mT
  refine⟨z,mem_filter.mpr ⟨hz,?_⟩,b6,ck⟩
  rw[b6,←beq_iff_eq.mp AB]
  exact bl
theorem cG.dA (A:cG a3 aD H a lo pl x aO) {n dx:Addr}{i p:Nat}{d b:Int}{ys:List V}{v:V}(aL:pl[i]?=some (d,n)) (cg:H n=some (.lst ys)) (br:Rep H (pairD (p,x.aB.getD p 0)) v) (aa:b=(x.dA d p).bound) (h0:0≤d) (ay:d<x.begun)
  (lS:∀z∈x.aT,(∃y∈z.2,y.1=p)→z.1=d) :
  cG a3 aD (upd (upd (upd H n (.lst (ys++[v]))) a.bG (.bQ (putK aO (Sum.inl ((p:Nat):Int)) (.int d)))) a.h (.ins aD dx (hf a.c a.ak a.st a.pu a.bG x.room x.begun b))) a lo pl (x.dA d p) (putK aO (Sum.inl ((p:Nat):Int)) (.int d)):=by
 obtain⟨R8,bU⟩:=A.bR
 obtain⟨dy,bW⟩:=A.co
 have hm:=mem_of_getElem? aL
 have iY:n≠a.h:=A.aS.2.2.2.2.2 _ hm
 have gZ:n≠a.c:=A.eX.2.2.2.2.2 _ hm
 have qw:a.bG≠n:=A.nJ.2.2.2.2.2.2 _ hm
 have ahE:ey H a lo x n=some (.lst ys):=by rw[fE iY gZ];exact cg
 have lI:=A.dr.dA (y:=(p,x.aB.getD p 0)) aL ahE (Rep.keep A.toV _ _ rfl br)
 rw[pS iY gZ]at lI
 have st:bB (ey (upd (upd H n (.lst (ys++[v]))) a.bG (.bQ (putK aO (Sum.inl ((p:Nat):Int)) (.int d)))) a lo x) a.h a.ce a.ak lo a.pu a.st pl (x.dA d p):=by
  rw[←pS A.nJ.1 A.nJ.2.1]
  obtain⟨t1,en,t3,akl,akk,akj,R4⟩:=A.nJ
  have kt:el (ey (upd H n (.lst (ys++[v]))) a lo x) (upd (ey (upd H n (.lst (ys++[v]))) a lo x) a.bG (.bQ (putK aO (Sum.inl ((p:Nat):Int)) (.int d)))):=fun b us q=>by
   have a8:ey (upd H n (.lst (ys++[v]))) a lo x a.bG=some (.bQ aO):=by
    rw[fE t1 en,aA qw]
    exact A.kt
   rw[aA (dK q a8 (fun z=>nomatch z))]
   exact q
  obtain⟨xs,aJ,aN⟩:=lI.az
  obtain⟨zs,b2,cj⟩:=lI.fK
  refine⟨by rw[aA t1.symm];exact lI.dD,by rw[aA t3.symm];exact lI.aj,by rw[aA akl.symm];exact lI.hd,⟨xs,by rw[aA akj.symm];exact aJ,aN.mono fun b y q=>q.mono kt⟩,by rw[aA A.mg.symm];exact lI.aI,lI.eK,fun i z w bu aV=>?_,lI.bz,⟨zs,by rw[aA akk.symm];exact b2,bk.keep kt _ _ (eG bO.gA _) cj⟩,lI.ap,lI.nl,lI.cd⟩
  obtain⟨us,fH,eU⟩:=lI.af i z w bu aV
  exact⟨us,by rw[aA (R4 z (mem_of_getElem? bu)).symm];exact fH,bk.keep kt _ _ (eG g5 _) eU⟩
 have ev:∀K:ao,ey K a lo x=ey (upd K a.h (.ins aD dx (hf a.c a.ak a.st a.pu a.bG x.room x.begun b))) a lo (x.dA d p):=fun K=>by
  rw[yY]
  rfl
 rw[ev]at st
 refine⟨st,⟨dx,by rw[aQ,aa];rfl⟩,⟨dy,by rw[aA A.eX.1,aA A.nJ.2.1.symm,aA gZ.symm];exact bW⟩,by rw[aA A.nJ.1,aQ],A.gZ,A.nl,A.mg,⟨fun z hz y cg=>?_,fun k v e=>?_⟩⟩
 ·obtain⟨w,hw,rfl⟩:=mem_map.mp hz
  rw[vQ]
  by_cases e:w.1=d
  ·have uF:y∈w.2++[(p,x.aB.getD p 0)]:=by rw[if_pos e]at cg;exact cg
   have gu:(if w.1=d then (w.1,w.2++[(p,x.aB.getD p 0)]) else w).1=d:=by rw[if_pos e];exact e
   rw[gu]
   by_cases b7:y.1=p
   ·rw[if_pos (by rw[b7])]
   ·have ahF:y∈w.2:=by
     rcases mem_append.mp uF with dE | dE
     ·exact dE
     ·rw[mem_singleton.mp dE]at b7
      exact absurd rfl b7
    rw[if_neg (fun dE=>b7 (by have:=Sum.inl.inj dE;omega)),A.iV.a w hw y ahF,e]
  ·have uF:y∈w.2:=by rw[if_neg e]at cg;exact cg
   rw[if_neg e]
   have b7:¬y.1=p:=fun dE=>e (lS w hw ⟨y,uF,dE⟩)
   rw[if_neg (fun dE=>b7 (by have:=Sum.inl.inj dE;omega))]
   exact A.iV.a w hw y uF
 ·rw[vQ]at e
  have op:∀e0,(x.dA d p).isOpen e0=x.isOpen e0:=fun e0=>by
   show ((x.aT.map fun z=>if z.1=d then (z.1,z.2++[(p,x.aB.getD p 0)]) else z).any fun z=>z.1 == e0)=x.aT.any fun z=>z.1 == e0
   rw[List.any_map]
   congr 1
   funext z
   show ((if z.1=d then (z.1,z.2++[(p,x.aB.getD p 0)]) else z).1 == e0)=(z.1 == e0)
   by_cases y:z.1=d
   ·rw[if_pos y]
   ·rw[if_neg y]
  have grow:∀z∈x.aT,∃iv∈(x.dA d p).aT,iv.1=z.1∧(∀y∈z.2,y∈iv.2)∧(z.1=d→(p,x.aB.getD p 0)∈iv.2):=fun z hz=>by
   refine⟨_,mem_map.mpr ⟨z,hz,rfl⟩,?_,fun y cg=>?_,fun y=>?_⟩
   ·by_cases y:z.1=d
    ·rw[if_pos y]
    ·rw[if_neg y]
   ·by_cases w:z.1=d
    ·rw[if_pos w];exact mem_append_left _ cg
    ·rw[if_neg w];exact cg
   ·rw[if_pos y]
    exact mem_append_right _ (mem_singleton.mpr rfl)
  by_cases kO:k=Sum.inl ((p:Nat):Int)
  ·rw[if_pos kO]at e
   cases e
   refine⟨p,d,kO,rfl,h0,ay,fun aH=>?_⟩
   rw[op]at aH
   obtain⟨n0,Az,AB⟩:=any_eq_true.mp aH
   obtain⟨iv,g1,g2,g3,gF⟩:=grow n0 Az
   have N2:=beq_iff_eq.mp AB
   exact⟨iv,g1,g2.trans N2,_,gF N2,rfl⟩
  ·rw[if_neg kO]at e
   obtain⟨qu,e0,aJ,aN,b2,cj,fe⟩:=A.iV.b k v e
   refine⟨qu,e0,aJ,aN,b2,cj,fun aH=>?_⟩
   rw[op]at aH
   obtain⟨z,hz,b6,y,cg,ck⟩:=fe aH
   obtain⟨iv,g1,g2,g3,gF⟩:=grow z hz
   exact⟨iv,g1,g2.trans b6,y,g3 y cg,ck⟩
end
def dZ.fo (a:dZ) (lo:Addr) (pl:List (Int × Addr)):List Addr:=lo::a.c::a.bG::a.own pl
structure ef (a:dZ) (lo:Addr) (pl:List (Int × Addr)) (lo':Addr) (g8:List (Int × Addr)) (H ah:ao):Prop where
 dQ:∀b o,b∉a.fo lo pl→H b=some o→ah b=some o
 new:∀b,b∈a.fo lo' g8→b∈a.fo lo pl∨H b=none
section
variable {a:dZ}{lo lo1 d7:Addr}{pl wX rx:List (Int × Addr)}{H H1 au:ao}
theorem ef.refl (a:dZ) (lo:Addr) (pl:List (Int × Addr)) (H:ao):ef a lo pl lo pl H H:=⟨fun _ _ _ e=>e,fun _ h=>.inl h⟩
theorem bI.moves (s:bI H H1):ef a lo pl lo pl H H1:=⟨fun b o _ e=>s b o e,fun _ h=>.inl h⟩
theorem ef.trans (m:ef a lo pl lo1 wX H H1) (n:ef a lo1 wX d7 rx H1 au):ef a lo pl d7 rx H au:=by
 refine⟨fun b o aa e=>?_,fun b aa=>?_⟩
 ·refine n.dQ b o (fun z=>?_) (m.dQ b o aa e)
  rcases m.new b z with y | y
  ·exact aa y
  ·rw[e]at y
   cases y
 ·rcases n.new b aa with z | z
  ·exact m.new b z
  ·by_cases y:b∈a.fo lo pl
   ·exact .inl y
   ·refine .inr ?_
    cases q:H b with
    | none=>rfl
    | some o =>
     rw[m.dQ b o y q]at z
     cases z
theorem ef.upd (m:ef a lo pl lo1 wX H H1) {b:Addr}{o:fh}(aa:b∈a.fo lo1 wX):ef a lo pl lo1 wX H (upd H1 b o):=by
 refine m.trans ⟨fun c u aj e=>?_,fun _ h=>.inl h⟩
 rw[aA (fun z=>aj (by rw[z];exact aa))]
 exact e
theorem wm (a:dZ) (lo:Addr) (pl:List (Int × Addr)):lo∈a.fo lo pl:=mem_cons_self
theorem zH (a:dZ) (lo:Addr) (pl:List (Int × Addr)):a.c∈a.fo lo pl:=mem_cons_of_mem _ mem_cons_self
theorem zl (a:dZ) (lo:Addr) (pl:List (Int × Addr)):a.bG∈a.fo lo pl:=mem_cons_of_mem _ (mem_cons_of_mem _ mem_cons_self)
theorem sY {b:Addr}(h:b∈a.own pl):b∈a.fo lo pl:=mem_cons_of_mem _ (mem_cons_of_mem _ (mem_cons_of_mem _ h))
theorem q1 (a:dZ) (lo:Addr) (pl:List (Int × Addr)):a.h∈a.fo lo pl:=sY (bB.r2 ..)
theorem zq (a:dZ) (lo:Addr) (pl:List (Int × Addr)):a.ce∈a.fo lo pl:=sY (bB.u_ ..)
theorem zp (a:dZ) (lo:Addr) (pl:List (Int × Addr)):a.ak∈a.fo lo pl:=sY (bB.BF ..)
theorem wk (a:dZ) (lo:Addr) (pl:List (Int × Addr)):a.pu∈a.fo lo pl:=sY (bB.mp ..)
theorem zm (a:dZ) (lo:Addr) (pl:List (Int × Addr)):a.st∈a.fo lo pl:=sY (bB.ms ..)
theorem zo {z:Int × Addr}(hz:z∈pl) (a:dZ) (lo:Addr):z.2∈a.fo lo pl:=sY (bB.BE hz ..)
variable {a3 aD:Addr}{x:av}{aO:List (Key × V)}
theorem cG.tW (A:cG a3 aD H a lo pl x aO) {b:Addr}{us:List V}(h:H b=some (.tup us)):b∉a.fo lo pl:=fun aa=>by
 obtain⟨dx,bU⟩:=A.bR
 obtain⟨dy,bW⟩:=A.co
 obtain⟨xs,aJ,_⟩:=A.az
 rcases mem_cons.mp aa with z | aa
 ·rw[z,aJ]at h;cases h
 ·rcases mem_cons.mp aa with z | aa
  ·rw[z,bW]at h;cases h
  ·rcases mem_cons.mp aa with z | aa
   ·rw[z,A.kt]at h;cases h
   ·exact A.dr.tW (A.toV _ _ h) aa
end
theorem VW {K:PySem.W.Frag}{a:Addr}{N:Nat}{g:jU}{dG:fU}{D:Ends}{σ:St}{H:ao}(Pv:Nat→St→ao→Prop) (h0:Pv 0 σ H) (az:∀i σ H,i≤N→Pv i σ H→∃xs,xs.length=N∧aR K H a xs)
  (a5:∀i x σ H,i<N→(∀xs,aR K H a xs→xs[N - 1 - i]?=some x)→Pv i σ H→g x σ H fun g9 au=>dG { D with c4:=Pv (i+1),ff:=Pv (i+1),hv:=D.c4 } g9 au) (hd:∀σ H,Pv N σ H→D.c4 σ H) :
  ∃W:Nat→Nat→St→ao→Prop,(∃m,W 0 m σ H)∧∀i m σ H,W i m σ H →
   ((xC K a N).stop i H∧D.c4 σ H)∨((xC K a N).go i H∧∃M:St→ao→Prop,(∀bK ah,M bK ah→∃fS,fS<m∧W (i+1) fS bK ah)∧∀x ah,(xC K a N).oV i H x ah→g x σ ah fun g9 au=>dG { D with c4:=M,ff:=M,hv:=D.c4 } g9 au):=by
 refine⟨fun i m σ H=>m=N - i∧i≤N∧Pv i σ H,⟨N,by simp,zero_le _,h0⟩,?_⟩
 rintro i m σ H ⟨rfl,aL,p⟩
 obtain⟨xs,kM,q⟩:=az i σ H aL p
 by_cases dw:i<N
 ·have de:N - 1 - i<xs.length:=by omega
  refine .inr ⟨⟨dw,xs,xs[N - 1 - i],q,getElem?_eq_getElem de⟩,Pv (i+1),fun bK ah ec=>⟨N - (i+1),by omega,rfl,dw,ec⟩,fun x ah y=>?_⟩
  obtain⟨e,y⟩:=y
  subst e
  exact a5 i x σ _ dw y p
 ·have e:i=N:=by omega
  subst e
  exact .inl ⟨rfl,hd σ H p⟩
theorem sum_filter:∀(l:List (Int × List (Nat × Int))) (d:Int),(l.map (·.1)).Nodup→(l.any fun z=>z.1 == d)=true→((l.filter fun z=>z.1 != d).map fun z=>(z.2.length:Int)+1).sum+(((((l.find? fun z=>z.1 == d).map (·.2)).getD []).length:Int)+1)=(l.map fun z=>(z.2.length:Int)+1).sum
 | [],_,_,h=>by cases h
 | z::r,d,bl,h=>by
  rw[map_cons,nodup_cons]at bl
  by_cases e:z.1=d
  ·have aC:(r.filter fun y=>y.1 != d)=r:=List.filter_eq_self.mpr fun y cg=>by
    have:y.1≠d:=fun w=>bl.1 (by rw[e,←w];exact mem_map.mpr ⟨y,cg,rfl⟩)
    simpa using this
   rw[List.filter_cons_of_neg (by simp[e]),aC,List.find?_cons_of_pos (by simp[e]),map_cons,sum_cons]
   show _+((z.2.length:Int)+1)=_
   omega
  ·have h':(r.any fun z=>z.1 == d)=true:=by
    rw[any_cons]at h
    have:(z.1 == d)=false:=by simpa using e
    rw[this,Bool.false_or]at h
    exact h
   have c6:=sum_filter r d bl.2 h'
   rw[List.filter_cons_of_pos (by simp[e]),find?_cons_of_neg (by simp[e]),map_cons,map_cons,sum_cons,sum_cons]
   omega
theorem yK {x:av}{d:Int}(bl:(x.aT.map (·.1)).Nodup) (aH:x.isOpen d=true):({ x with aT:=x.aT.filter fun z=>z.1 != d }:av).bound=x.bound - (((x.dh d).length:Int)+1):=by
 have:=sum_filter x.aT d bl aH
 show ((x.aT.filter fun z=>z.1 != d).map fun z=>(z.2.length:Int)+1).sum=(x.aT.map fun z=>(z.2.length:Int)+1).sum - (((((x.aT.find? fun z=>z.1 == d).map (·.2)).getD []).length:Int)+1)
 omega
theorem IZ (y:Nat × Int):∀(l:List (Int × List (Nat × Int))) (d:Int),(l.map (·.1)).Nodup→(l.any fun z=>z.1 == d)=true→((l.map fun z=>if z.1=d then (z.1,z.2++[y]) else z).map fun z=>(z.2.length:Int)+1).sum=(l.map fun z=>(z.2.length:Int)+1).sum+1
 | [],_,_,h=>by cases h
 | z::r,d,bl,h=>by
  rw[map_cons,nodup_cons]at bl
  rw[map_cons,map_cons,map_cons,sum_cons,sum_cons]
  by_cases e:z.1=d
  ·have aC:(r.map fun z=>if z.1=d then (z.1,z.2++[y]) else z)=r:=by
    have:∀w∈r,(if w.1=d then (w.1,w.2++[y]) else w)=w:=fun w hw=>if_neg fun q=>bl.1 (by rw[e,←q];exact mem_map.mpr ⟨w,hw,rfl⟩)
    rw[map_congr_left this,List.map_id']
   rw[aC,if_pos e]
   show ((z.2++[y]).length:Int)+1+_=_
   rw[length_append,length_singleton]
   omega
  ·have h':(r.any fun z=>z.1 == d)=true:=by
    rw[any_cons]at h
    have:(z.1 == d)=false:=by simpa using e
    rw[this,Bool.false_or]at h
    exact h
   rw[IZ y r d bl.2 h',if_neg e]
   omega
theorem H_ {x:av}{d:Int}{p:Nat}(bl:(x.aT.map (·.1)).Nodup) (aH:x.isOpen d=true):(x.dA d p).bound=x.bound+1:=IZ _ x.aT d bl aH
def c_ (ps:List Int) (room:Int):av:={ b0:=ps,aB:=ps,log:=[],aT:=[],room:=room,begun:=0,d8:=[] }
theorem cG.init {a3 aD dx dy:Addr}{H:ao}{a:dZ}{lo:Addr}{ps:List Int}{room:Int}(bU:H a.h=some (.ins aD dx (hf a.c a.ak a.st a.pu a.bG room 0 0))) (bW:H a.c=some (.ins a3 dy (k7 a.ce lo))) (aJ:H a.ce=some (.lst (ps.map V.int))) (aN:H lo=some (.lst []))
  (b2:H a.ak=some (.lst (ps.map V.int))) (cj:H a.st=some (.lst [])) (fe:H a.pu=some (.bQ [])) (pB:H a.bG=some (.bQ [])) (dH:a.ce≠a.ak) (dC:a.ce≠a.st) (ej:a.ak≠a.st) (e4:lo≠a.ce) (fL:lo≠a.ak) (f6:lo≠a.st) (gN:a.bG≠a.pu) (gM:a.c≠a.h) :
  cG a3 aD H a lo [] (c_ ps room) []:=by
 have k1:a.ce≠a.h:=dK aJ bU (fun z=>nomatch z)
 have k2:a.ak≠a.h:=dK b2 bU (fun z=>nomatch z)
 have k3:a.st≠a.h:=dK cj bU (fun z=>nomatch z)
 have jP:a.pu≠a.h:=dK fe bU (fun z=>nomatch z)
 have k5:lo≠a.h:=dK aN bU (fun z=>nomatch z)
 have cL:a.ce≠a.c:=dK aJ bW (fun z=>nomatch z)
 have dV:a.ak≠a.c:=dK b2 bW (fun z=>nomatch z)
 have ep:a.st≠a.c:=dK cj bW (fun z=>nomatch z)
 have f_:a.pu≠a.c:=dK fe bW (fun z=>nomatch z)
 have kT:lo≠a.c:=dK aN bW (fun z=>nomatch z)
 have hX:a.pu≠a.ce:=dK fe aJ (fun z=>nomatch z)
 have fQ:a.pu≠a.ak:=dK fe b2 (fun z=>nomatch z)
 have u7:a.pu≠a.st:=dK fe cj (fun z=>nomatch z)
 have Gr:a.pu≠lo:=dK fe aN (fun z=>nomatch z)
 have bl:(a.own []).Nodup:=by
  show (a.h::a.ce::a.ak::a.pu::a.st::[]).Nodup
  simp[k1.symm,k2.symm,jP.symm,k3.symm,dH,hX.symm,dC,fQ.symm,ej,u7]
 have nl:lo∉a.own []:=by
  show lo∉(a.h::a.ce::a.ak::a.pu::a.st::[])
  simp[k5,e4,fL,Gr.symm,f6]
 refine⟨⟨q5,?_,?_,⟨[],?_,.nil⟩,?_,rfl,fun i z w h=>(by cases h),nodup_nil,⟨[],?_,.nil⟩,bl,nl,rfl⟩,⟨dx,bU⟩,⟨dy,bW⟩,pB,?_,kT.symm,gN,⟨fun z hz=>(by cases hz),fun k v e=>(by rw[IU]at e;cases e)⟩⟩
 ·rw[fE k1 cL];exact aJ
 ·rw[fE k2 dV];exact b2
 ·rw[fE k5 kT];exact aN
 ·rw[fE jP f_];exact fe
 ·rw[fE k3 ep];exact cj
 ·show a.c∉(a.h::a.ce::a.ak::a.pu::a.st::[])
  simp[gM,cL.symm,dV.symm,f_.symm,ep.symm]
theorem cG.IK {a3 aD:Addr}{H:ao}{a:dZ}{lo b:Addr}{pl:List (Int × Addr)}{x:av}{aO:List (Key × V)}{o:fh}{us:List V}(A:cG a3 aD H a lo pl x aO) (aa:b∉a.fo lo pl) (e:H b=some (.lst us)):cG a3 aD (upd H b o) a lo pl x aO:=by
 have n:∀c,c∈a.fo lo pl→c≠b:=fun c aj z=>aa (by rw[←z];exact aj)
 have iY:=n _ (q1 a lo pl)
 have gZ:=n _ (zH a lo pl)
 obtain⟨dx,bU⟩:=A.bR
 obtain⟨dy,bW⟩:=A.co
 have kt:el (ey H a lo x) (upd (ey H a lo x) b o):=fun c ys q=>by
  rw[aA (dK q (show ey H a lo x b=some (.lst us) by rw[fE iY.symm gZ.symm];exact e) (fun z=>nomatch z))]
  exact q
 obtain⟨xs,fN,hY⟩:=A.dr.az
 obtain⟨zs,qy,m6⟩:=A.dr.fK
 refine⟨?_,⟨dx,by rw[aA iY];exact bU⟩,⟨dy,by rw[aA gZ];exact bW⟩,by rw[aA (n _ (zl a lo pl))];exact A.kt,A.gZ,A.nl,A.mg,A.iV⟩
 rw[←pS iY.symm gZ.symm]
 refine⟨by rw[aA iY];exact A.dr.dD,by rw[aA (n _ (zq a lo pl))];exact A.dr.aj,by rw[aA (n _ (zp a lo pl))];exact A.dr.hd,⟨xs,by rw[aA (n _ (wm a lo pl))];exact fN,hY.mono fun c y q=>q.mono kt⟩,by rw[aA (n _ (wk a lo pl))];exact A.dr.aI,A.dr.eK,fun i z w bu aV=>?_,A.dr.bz,⟨zs,by rw[aA (n _ (zm a lo pl))];exact qy,bk.keep kt _ _ (eG bO.gA _) m6⟩,A.dr.ap,A.dr.nl,A.dr.cd⟩
 obtain⟨ys,fH,eU⟩:=A.dr.af i z w bu aV
 exact⟨ys,by rw[aA (n _ (zo (mem_of_getElem? bu) a lo))];exact fH,bk.keep kt _ _ (eG g5 _) eU⟩
theorem yW {ps:List Int}{room:Int}(ay:1≤ps.length) (aG:ps.length≤100):(c_ ps room).good 0 :=
 ⟨ay,aG,fun z hz=>(by cases hz),le_refl _,le_refl _,le_refl _,fun z hz=>(by cases hz)⟩
theorem Tj (x:av) (e:b1):(x.a_ e).1.begun≤x.begun+1:=by
 unfold av.a_
 cases x.refusal e with
 | some w=>exact le_succ _
 | none =>
  cases e with
  | begin =>
   show (if (x.began.full 1).2=true then ((x.began.full 1).1,dp.word "no room") else ((x.began.full 1).1.opened,.num x.begun)).1.begun≤_
   have aJ:(x.began.full 1).1.begun=x.begun+1:=kY
   split
   ·exact le_of_eq aJ
   ·exact le_of_eq aJ
  | put d p n =>
   show (if (x.full 2).2=true then ((x.full 2).1,dp.word "no room") else ((((x.full 2).1.dA d p.toNat).putIn d p.toNat n),.word "done")).1.begun≤_
   have aJ:(x.full 2).1.begun=x.begun:=kY
   split
   ·show (x.full 2).1.begun≤_
    omega
   ·show (x.full 2).1.begun≤_
    omega
  | fin d=>exact le_succ _
  | drop d =>
   show (x.eu d).begun≤_
   rw[hL,vF]
   exact le_succ _
  | look p=>exact le_succ _
  | carry p =>
   show (x.ea p.toNat).begun≤_
   rw[vD]
   exact le_succ _
  | cut =>
   show x.dW.begun≤_
   rw[vJ]
   exact le_succ _
theorem Hs (x:av) (e:b1):(∃i,(x.a_ e).2=.num i)∨(x.a_ e).2=.word "done"∨(x.a_ e).2=.word "no dealing"∨(x.a_ e).2=.word "no page"∨(x.a_ e).2=.word "taken"∨(x.a_ e).2=.word "no room":=by
 unfold av.a_
 cases h:x.refusal e with
 | some w =>
  have hw:w="no dealing"∨w="no page"∨w="taken":=by
   cases e with
   | begin=>cases h
   | cut=>cases h
   | fin d =>
    have h':(if x.isOpen d=false then some ("no dealing":Str) else none)=some w:=h
    split at h'
    ·exact .inl (Option.some.inj h').symm
    ·cases h'
   | drop d =>
    have h':(if x.isOpen d=false then some ("no dealing":Str) else none)=some w:=h
    split at h'
    ·exact .inl (Option.some.inj h').symm
    ·cases h'
   | look p =>
    have h':(if p<0∨(x.aB.length:Int)≤p then some ("no page":Str) else none)=some w:=h
    split at h'
    ·exact .inr (.inl (Option.some.inj h').symm)
    ·cases h'
   | carry p =>
    have h':(if p<0∨(x.aB.length:Int)≤p then some ("no page":Str) else none)=some w:=h
    split at h'
    ·exact .inr (.inl (Option.some.inj h').symm)
    ·cases h'
   | put d p n =>
    have h':(if x.isOpen d=false then some ("no dealing":Str) else if p<0∨(x.aB.length:Int)≤p then some ("no page":Str) else if x.d5 p.toNat=none∨x.d5 p.toNat=some d then none else some ("taken":Str))=some w:=h
    split at h'
    ·exact .inl (Option.some.inj h').symm
    ·split at h'
     ·exact .inr (.inl (Option.some.inj h').symm)
     ·split at h'
      ·cases h'
      ·exact .inr (.inr (Option.some.inj h').symm)
  rcases hw with z | z | z
  ·rw[z];exact .inr (.inr (.inl rfl))
  ·rw[z];exact .inr (.inr (.inr (.inl rfl)))
  ·rw[z];exact .inr (.inr (.inr (.inr (.inl rfl))))
 | none =>
  cases e with
  | begin =>
   show (∃i,(if (x.began.full 1).2=true then ((x.began.full 1).1,dp.word "no room") else ((x.began.full 1).1.opened,.num x.begun)).2=.num i)∨_
   show (∃i,(if (x.began.full 1).2=true then ((x.began.full 1).1,dp.word "no room") else ((x.began.full 1).1.opened,.num x.begun)).2=.num i)∨(if (x.began.full 1).2=true then ((x.began.full 1).1,dp.word "no room") else ((x.began.full 1).1.opened,.num x.begun)).2=.word "done"∨_∨_∨_∨(if (x.began.full 1).2=true then ((x.began.full 1).1,dp.word "no room") else ((x.began.full 1).1.opened,.num x.begun)).2=.word "no room"
   split
   ·exact .inr (.inr (.inr (.inr (.inr rfl))))
   ·exact .inl ⟨_,rfl⟩
  | put d p n =>
   show (∃i,(if (x.full 2).2=true then ((x.full 2).1,dp.word "no room") else ((((x.full 2).1.dA d p.toNat).putIn d p.toNat n),.word "done")).2=.num i)∨(if (x.full 2).2=true then ((x.full 2).1,dp.word "no room") else ((((x.full 2).1.dA d p.toNat).putIn d p.toNat n),.word "done")).2=.word "done"∨_∨_∨_∨(if (x.full 2).2=true then ((x.full 2).1,dp.word "no room") else ((((x.full 2).1.dA d p.toNat).putIn d p.toNat n),.word "done")).2=.word "no room"
   split
   ·exact .inr (.inr (.inr (.inr (.inr rfl))))
   ·exact .inr (.inl rfl)
  | fin d=>exact .inr (.inl rfl)
  | drop d=>exact .inr (.inl rfl)
  | look p=>exact .inl ⟨_,rfl⟩
  | carry p=>exact .inr (.inl rfl)
  | cut=>exact .inr (.inl rfl)
theorem IY:∀l:List dp,e3 (l.map dp.D)≤l.length
 | []=>by rw[map_nil,mC];exact zero_le _
 | a::r=>by
  have ay:=IY r
  have aG:a.D.e9≤1:=by cases a <;> simp only[dp.D,JP,JQ] <;> omega
  rw[map_cons,lN,length_cons]
  omega
def av.pre (x:av) (s:List bO):av:={ x with d8:=s++x.d8 }
section
variable {x:av}{s:List bO}{t:bO}{d m:Int}{p:Nat}
theorem yy:(x.pre s).cT t=(x.cT t).pre s:=by
 cases t <;> simp[av.pre,av.cT,List.append_assoc]
theorem IL:(x.pre s).dW=x.dW.pre s:=by
 show (if 0<ee x.b0 x.aB x.isOpen x.log then (x.pre s).cT (.cut (ee x.b0 x.aB x.isOpen x.log)) else x.pre s)=_
 unfold av.dW
 split
 ·exact yy
 ·rfl
theorem HQ:(x.pre s).ea p=(x.ea p).pre s:=by
 show (if x.b0[p]?=x.aB[p]? then x.pre s else (x.pre s).cT (.eO p (x.aB.getD p 0)))=_
 unfold av.ea
 split
 ·rfl
 ·exact yy
theorem HS:∀{i:Nat},(x.pre s).fk i=(x.fk i).pre s
 | 0=>rfl
 | i+1=>by rw[kq,kq,HS,HQ]
theorem TC:(x.pre s).ed=x.ed.pre s:=by
 rw[jn,jn,←IL,←HS]
 rfl
theorem Jb:(x.pre s).full m=((x.full m).1.pre s,(x.full m).2):=by
 show (if x.fZ m=true then (x.pre s,false) else ((x.pre s).ed, !(x.pre s).ed.fZ m))=_
 unfold av.full
 split
 ·rfl
 ·rw[TC]
  rfl
theorem Ir {n:Int}:(x.pre s).putIn d p n=(x.putIn d p n).pre s:=by
 show ({ (x.pre s).cT (.line (.put d p (x.aB.getD p 0) n)) with aB:=x.aB.set p n }:av)=_
 rw[yy]
 rfl
theorem HT:∀{l:List (Nat × Int)}{x:av},(x.pre s).es d l=(x.es d l).pre s
 | [],_=>rfl
 | z::r,x=>by
  show ((x.pre s).putIn d z.1 z.2).es d r=((x.putIn d z.1 z.2).es d r).pre s
  rw[Ir]
  exact HT
theorem Va:(x.pre s).eu d=(x.eu d).pre s:=by
 rw[hL,hL]
 exact HT
theorem IJ:(x.pre s).jV d=(x.jV d).pre s:=by
 show ({ (x.pre s).cT (.line (.fin d)) with aT:=x.aT.filter fun z=>z.1 != d }:av)=_
 rw[yy]
 rfl
theorem VY {e:b1}:(x.pre s).fy e=((x.fy e).1.pre s,(x.fy e).2):=by
 cases e with
 | begin =>
  show (if ((x.began.pre s).full 1).2=true then (((x.began.pre s).full 1).1,dp.word "no room") else (((x.began.pre s).full 1).1.opened,.num x.begun))=_
  rw[Jb]
  unfold av.fy
  dsimp only
  split
  ·rfl
  ·rfl
 | put d p n =>
  show (if ((x.pre s).full 2).2=true then (((x.pre s).full 2).1,dp.word "no room") else (((((x.pre s).full 2).1.dA d p.toNat).putIn d p.toNat n),.word "done"))=_
  rw[Jb]
  unfold av.fy
  dsimp only
  split
  ·rfl
  ·show ((((x.full 2).1.dA d p.toNat).pre s).putIn d p.toNat n,dp.word "done")=_
   rw[Ir]
 | fin d =>
  show ((x.pre s).jV d,dp.word "done")=_
  rw[IJ]
  rfl
 | drop d =>
  show (((x.pre s).eu d).jV d,dp.word "done")=_
  rw[Va,IJ]
  rfl
 | look p=>rfl
 | carry p =>
  show ((x.pre s).ea p.toNat,dp.word "done")=_
  rw[HQ]
  rfl
 | cut =>
  show ((x.pre s).dW,dp.word "done")=_
  rw[IL]
  rfl
theorem TO {e:b1}:(x.pre s).refusal e=x.refusal e:=by cases e <;> rfl
theorem TM {e:b1}:(x.pre s).a_ e=((x.a_ e).1.pre s,(x.a_ e).2):=by
 unfold av.a_
 rw[TO]
 cases x.refusal e with
 | some w=>rfl
 | none=>exact VY
end
def av.bare (x:av):av:={ x with d8:=[] }
theorem V2 (x:av):x.bare.pre x.d8=x:=by
 show ({ x with d8:=x.d8++[] }:av)=x
 rw[append_nil]
def av.row (x:av) (e:b1):List bO:=(x.bare.a_ e).1.d8
theorem B3 (x:av) (e:b1):x.a_ e=((x.bare.a_ e).1.pre x.d8,(x.bare.a_ e).2):=by
 rw[←TM,V2]
theorem HH (x:av) (e:b1):(x.a_ e).1.d8=x.d8++x.row e:=by
 rw[B3]
 rfl
theorem UL (x:av) (e:b1):(x.a_ e).1.bare=(x.bare.a_ e).1.bare:=by
 rw[B3]
 rfl
theorem Ut (x:av) (e:b1):(x.a_ e).2=(x.bare.a_ e).2:=by rw[B3]
theorem row_bare (x:av) (e:b1):x.bare.row e=x.row e:=rfl
def av.rows:av→List b1→List (List bO)
 | _,[]=>[]
 | x,e::r=>x.row e::(x.a_ e).1.rows r
theorem Im:∀(l:List b1) (x:av) (e:b1),x.rows (l++[e])=x.rows l++[(x.run l).row e]
 | [],_,_=>rfl
 | a::r,x,e=>by
  show x.row a::(x.a_ a).1.rows (r++[e])=_
  rw[Im r]
  rfl
theorem B_:∀(l:List b1) (x:av),(x.rows l).length=l.length
 | [],_=>rfl
 | a::r,x=>by
  show ((x.a_ a).1.rows r).length+1=r.length+1
  rw[B_ r]
def av.hB:av→List b1→av
 | x,[]=>x
 | x,e::r=>av.hB (x.bare.a_ e).1 r
theorem Il:∀(l:List b1) (x:av) (e:b1),x.hB (l++[e])=((x.hB l).bare.a_ e).1
 | [],_,_=>rfl
 | a::r,x,e=>Il r _ e
theorem Cr:∀(l:List b1) (x y:av),y.bare=x.bare→(y.hB l).bare=(x.run l).bare
 | [],_,_,h=>h
 | a::r,x,y,h=>by
  show (av.hB (y.bare.a_ a).1 r).bare=((x.a_ a).1.run r).bare
  refine Cr r _ _ ?_
  rw[h,UL x]
theorem av.good.bare {x:av}{n:Nat}(g:x.good n):x.bare.good n:=⟨g.fs,g.eF,g.ei,g.pl,zero_le _,g.iA,g.ok⟩
theorem av.good.hB:∀(l:List b1) {x:av}{n:Nat},x.good n→n+l.length≤110→(x.hB l).good (n+l.length)
 | [],_,_,h,_=>h
 | a::r,x,n,h,aS=>by
  have az:(a::r).length=r.length+1:=rfl
  have:=av.good.hB r (h.bare.a_ (by omega) a) (by omega)
  have e:n+1+r.length=n+(a::r).length:=by omega
  rw[e]at this
  exact this
theorem I2 (l:List b1) (x:av) (e:b1):(x.hB l).row e=(x.run l).row e:=by
 rw[←row_bare,Cr l x x rfl,row_bare]
theorem Uz (l:List b1) (x:av) (e:b1):((x.hB l).bare.a_ e).2=((x.run l).a_ e).2:=by
 rw[Cr l x x rfl,←Ut]
def KZ (r:List bO):D:=.lst (r.map bO.D)
def iN (H:ao) (bad:List Addr) (rows:List (List bO)) (xs:List V):Prop:=gU (fun row v=>∃b zs,v=.ref b∧b∉bad∧H b=some (.lst zs)∧bk H (row.map bO.D) zs) rows xs
section
variable {H ah:ao}{bad Mj:List Addr}{rows:List (List bO)}{xs:List V}
theorem iN.nil:iN H bad [] []:=gU.nil
theorem iN.move (h:iN H bad rows xs) (st:∀b o,b∉bad→H b=some o→ah b=some o) (kt:el H ah) (nb:∀b,b∈Mj→b∈bad∨H b=none):iN ah Mj rows xs :=
 h.mono fun row v ⟨b,zs,e,aa,hz,aC⟩=>⟨b,zs,e,(fun z=>by
  rcases nb b z with y | y
  ·exact aa y
  ·rw[hz]at y;cases y),st b _ aa hz,bk.keep kt _ _ (eG bO.gA _) aC⟩
theorem iN.same (h:iN H bad rows xs) (s:bI H ah):iN ah bad rows xs:=h.move (fun b o _ e=>s b o e) s.et fun b aa=>.inl aa
theorem iN.snoc {row:List bO}{b:Addr}{zs:List V}(h:iN H bad rows xs) (aa:b∉bad) (hz:H b=some (.lst zs)) (aC:bk H (row.map bO.D) zs):iN H bad (rows++[row]) (xs++[.ref b]) :=
 gU.snoc h ⟨b,zs,rfl,aa,hz,aC⟩
theorem Iq {H:ao}:∀{n:Nat}{l:List D}{xs:List V},bk H l xs→bk H (l.drop n) (xs.drop n)
 | 0,_,_,h=>h
 | n+1,[],xs,h=>by cases h.lX;exact .nil
 | n+1,d::l,xs,h=>by
  obtain⟨x,t,rfl,_,r⟩:=h.inv
  exact Iq (n:=n) r
end
section
variable {H:ao}{h ce ak lo pu st u:Addr}{pl:List (Int × Addr)}{x:av}
theorem bB.Vr (A:bB H h ce ak lo pu st pl x) (v:V):nI H h (.str "strokes") v (upd H h (.bQ (putK (a8 ce ak lo pu st x.room x.begun) (Sum.inr "strokes") v))):=.inl ⟨_,Sum.inr "strokes",A.dD,rfl,(by show 7<sizeLine;rw[sizeLine_eq];decide),rfl⟩
theorem Vs (ap:(own h ce ak pu st pl).Nodup) (aS:u∉own h ce ak pu st pl):(own h ce ak pu u pl).Nodup:=by
 unfold own at *
 simp only[nodup_cons,mem_cons,not_or]at ap aS ⊢
 obtain⟨⟨a1,a2,kU,qE,pF⟩,⟨e7,fO,i1,oq⟩,⟨cL,dV,ep⟩,⟨fs,eF⟩,aJ,f1⟩:=ap
 obtain⟨dH,dC,ej,e4,fL,f6⟩:=aS
 exact⟨⟨a1,a2,kU,Ne.symm dH,pF⟩,⟨e7,fO,Ne.symm dC,oq⟩,⟨cL,Ne.symm ej,ep⟩,⟨Ne.symm e4,eF⟩,f6,f1⟩
theorem Wu (nl:lo∉own h ce ak pu st pl) (az:u≠lo):lo∉own h ce ak pu u pl:=by
 unfold own at *
 simp only[mem_cons,not_or]at nl ⊢
 exact⟨nl.1,nl.2.1,nl.2.2.1,nl.2.2.2.1,Ne.symm az,nl.2.2.2.2.2⟩
theorem bB.Zs (A:bB H h ce ak lo pu st pl x) (e:H u=some (.lst [])) (aS:u∉own h ce ak pu st pl) (az:u≠lo):bB (upd H h (.bQ (putK (a8 ce ak lo pu st x.room x.begun) (Sum.inr "strokes") (.ref u)))) h ce ak lo pu u pl x.bare:=by
 obtain⟨dH,dC,ej,e4,fL,f6,gN,gM,kK,lg,fM,fb,eW,f7,iZ,np⟩:=A.ne
 rw[Tt]
 have kt:el H (upd H h (.bQ (a8 ce ak lo pu u x.room x.begun))):=fun b ys q=>by
  rw[aA (dK q A.dD (fun z=>nomatch z))]
  exact q
 have agx:u≠h:=fun e=>aS (by rw[e];exact mem_cons_self)
 obtain⟨xs,aJ,aN⟩:=A.az
 refine⟨aQ,by rw[aA dH.symm];exact A.aj,by rw[aA dC.symm];exact A.hd,⟨xs,by rw[aA fM];exact aJ,aN.mono fun a y q=>q.mono kt⟩,by rw[aA ej.symm];exact A.aI,A.eK,fun i z w a b=>?_,A.bz,⟨[],by rw[aA agx];exact e,.nil⟩,Vs A.ap aS,Wu A.nl az,A.cd⟩
 obtain⟨ys,bu,aV⟩:=A.af i z w a b
 exact⟨ys,by rw[aA (np z (mem_of_getElem? a)).1];exact bu,bk.keep kt _ _ (eG g5 _) aV⟩
theorem UC {b:Addr}(aa:b∈own h ce ak pu u pl):b=u∨b∈own h ce ak pu st pl:=by
 unfold own at *
 simp only[mem_cons]at aa ⊢
 rcases aa with z | z | z | z | z | z
 ·exact .inr (.inl z)
 ·exact .inr (.inr (.inl z))
 ·exact .inr (.inr (.inr (.inl z)))
 ·exact .inr (.inr (.inr (.inr (.inl z))))
 ·exact .inl z
 ·exact .inr (.inr (.inr (.inr (.inr (.inr z)))))
end
structure av.sound (x:av):Prop where
 bl:(x.aT.map (·.1)).Nodup
 cd:x.b0.length=x.aB.length
 ei:∀z∈x.aT,0≤z.1∧z.1<x.begun∧∀y∈z.2,y.1<x.aB.length
def av.fit (x:av):Prop:=(x.log.length:Int)+x.bound≤x.room
inductive l_:av→bO→av→Prop
 | carry {x:av} (p:Nat) (aI:p<x.aB.length) (aS:x.b0[p]?≠x.aB[p]?) (aC:(x.log.length:Int)≤x.room):l_ x (.eO p (x.aB.getD p 0)) (x.cT (.eO p (x.aB.getD p 0)))
 | cut {x:av} (h:0<ee x.b0 x.aB x.isOpen x.log) (aC:(x.log.length:Int)≤x.room):l_ x (.cut (ee x.b0 x.aB x.isOpen x.log)) (x.cT (.cut (ee x.b0 x.aB x.isOpen x.log)))
 | put {x:av} (d:Int) (p:Nat) (n:Int) (aI:p<x.aB.length) (aH:x.isOpen d=true) (a6:x.d5 p=none∨x.d5 p=some d) (aC:(x.log.length:Int)+x.bound+2≤x.room) (h0:0≤x.bound):l_ x (.line (.put d p (x.aB.getD p 0) n)) ((x.dA d p).putIn d p n)
 | eu {x:av} (d:Int) (p:Nat) (n:Int) (aI:p<x.aB.length) (aH:x.isOpen d=true) (hm:∃o,(p,o)∈x.dh d) (aC:(x.log.length:Int)+1≤x.room):l_ x (.line (.put d p (x.aB.getD p 0) n)) (x.putIn d p n)
 | fin {x:av} (d:Int) (aH:x.isOpen d=true) (aC:(x.log.length:Int)+1≤x.room):l_ x (.line (.fin d)) (x.jV d)
inductive Path:av→List bO→av→Prop
 | nil (x:av):Path x [] x
 | cons {x y z:av} {s:bO} {l:List bO} (h:l_ x s y) (t:Path y l z):Path x (s::l) z
theorem Path.trans {x y z:av}{l k:List bO}(a:Path x l y) (b:Path y k z):Path x (l++k) z:=by
 induction a with
 | nil x=>exact b
 | cons h t c6=>exact .cons h (c6 b)
theorem Path.one {x y:av}{s:bO}(h:l_ x s y):Path x [s] y:=.cons h (.nil _)
theorem l_.facts {x y:av}{s:bO}(h:l_ x s y):y.d8=x.d8++[s]∧y.aB.length=x.aB.length∧y.room=x.room∧y.begun=x.begun:=by
 cases h with
 | carry p aI aS aC=>exact⟨rfl,rfl,rfl,rfl⟩
 | cut h aC=>exact⟨rfl,rfl,rfl,rfl⟩
 | put d p n aI aH a6 aC h0=>exact⟨rfl,by show (x.aB.set p n).length=_;rw[length_set],rfl,rfl⟩
 | eu d p n aI aH hm aC=>exact⟨rfl,by show (x.aB.set p n).length=_;rw[length_set],rfl,rfl⟩
 | fin d aH aC=>exact⟨rfl,rfl,rfl,rfl⟩
theorem Path.facts {x y:av}{l:List bO}(h:Path x l y):y.d8=x.d8++l∧y.aB.length=x.aB.length∧y.room=x.room∧y.begun=x.begun:=by
 induction h with
 | nil x=>exact⟨(append_nil _).symm,rfl,rfl,rfl⟩
 | cons h t c6 =>
  obtain⟨a,b,c,d⟩:=h.facts
  obtain⟨G3,sf,gv,d'⟩:=c6
  exact⟨by rw[G3,a,List.append_assoc];rfl,sf.trans b,gv.trans c,d'.trans d⟩
section
variable {x:av}{d m:Int}{p:Nat}
theorem HR:(x.ea p).log=x.log:=by
 unfold av.ea
 split <;> rfl
theorem Hy:(x.ea p).room=x.room:=by
 unfold av.ea
 split <;> rfl
theorem yw:∀{i:Nat},(x.fk i).log=x.log
 | 0=>rfl
 | i+1=>by rw[kq,HR];exact yw
theorem vH:∀{i:Nat},(x.fk i).room=x.room
 | 0=>rfl
 | i+1=>by rw[kq,Hy];exact vH
theorem H6 (aI:p<x.aB.length) (aC:(x.log.length:Int)≤x.room):∃l,Path x l (x.ea p):=by
 unfold av.ea
 split
 ·exact⟨[],.nil _⟩
 ·exact⟨_,.one (.carry p aI (by assumption) aC)⟩
theorem HA (aC:(x.log.length:Int)≤x.room):∀{i:Nat},i≤x.aB.length→∃l,Path x l (x.fk i)
 | 0,_=>⟨[],.nil _⟩
 | i+1,h=>by
  obtain⟨l,a⟩:=HA aC (i:=i) (by omega)
  obtain⟨k,b⟩:=H6 (x:=x.fk i) (p:=i) (by rw[oz];omega) (by rw[yw,vH];exact aC)
  exact⟨l++k,by rw[kq];exact a.trans b⟩
theorem Jf (aC:(x.log.length:Int)≤x.room):∃l,Path x l x.dW:=by
 unfold av.dW
 split
 ·exact⟨_,.one (.cut (by assumption) aC)⟩
 ·exact⟨[],.nil _⟩
theorem Tr (aC:(x.log.length:Int)≤x.room):∃l,Path x l x.ed:=by
 obtain⟨l,a⟩:=HA aC (i:=x.aB.length) (le_refl _)
 obtain⟨k,b⟩:=Jf (x:=x.fk x.aB.length) (by rw[yw,vH];exact aC)
 exact⟨l++k,by rw[jn];exact a.trans b⟩
theorem IG (aC:(x.log.length:Int)≤x.room):∃l,Path x l (x.full m).1:=by
 unfold av.full
 split
 ·exact⟨[],.nil _⟩
 ·exact Tr aC
theorem HD:∀{l:List (Nat × Int)}{x:av},x.isOpen d=true→(∀z∈l,z.1<x.aB.length∧∃o,(z.1,o)∈x.dh d)→(x.log.length:Int)+l.length≤x.room→∃k,Path x k (x.es d l)
 | [],_,_,_,_=>⟨[],.nil _⟩
 | z::r,x,aH,hz,aC=>by
  have ay:=hz z mem_cons_self
  have Sd:(z::r).length=r.length+1:=rfl
  have eN:(x.putIn d z.1 z.2).log.length=x.log.length+1:=by
   show (x.log++[_]).length=_
   rw[length_append,length_singleton]
  obtain⟨k,b⟩:=HD (l:=r) (x:=x.putIn d z.1 z.2) aH (fun y cg=>by
   rw[vK]
   exact hz y (mem_cons_of_mem _ cg)) (by
   show ((x.putIn d z.1 z.2).log.length:Int)+r.length≤x.room
   rw[eN]
   omega)
  exact⟨_,.cons (.eu d z.1 z.2 ay.1 aH ay.2 (by omega)) b⟩
theorem yq (x:av):0≤x.bound:=by
 show 0≤(x.aT.map fun z=>(z.2.length:Int)+1).sum
 induction x.aT with
 | nil=>exact Int.le_refl _
 | cons z r c6 =>
  rw[map_cons,sum_cons]
  omega
theorem Ia (h:x.isOpen d=true) (bl:(x.aT.map (·.1)).Nodup):((x.dh d).length:Int)+1≤x.bound:=by
 have ay:=yK bl h
 have aG:=yq ({ x with aT:=x.aT.filter fun z=>z.1 != d }:av)
 omega
theorem Cg:∀{l:List (Nat × Int)}{x:av},(x.es d l).log.length=x.log.length+l.length
 | [],_=>rfl
 | z::r,x=>by
  show ((x.putIn d z.1 z.2).es d r).log.length=_
  rw[Cg]
  show (x.log++[_]).length+r.length=_
  rw[length_append,length_singleton,length_cons]
  omega
theorem Hx:x.dW.log.length≤x.log.length:=by
 unfold av.dW
 split
 ·show (x.log.drop _).length≤_
  rw[length_drop]
  omega
 ·exact le_refl _
theorem Co:x.dW.room=x.room:=by
 unfold av.dW
 split <;> rfl
theorem TV:(x.full m).1.log.length≤x.log.length:=by
 rcases pM (x:=x) (m:=m) with e | e
 ·rw[e];exact le_refl _
 ·rw[e,jn]
  have:=Hx (x:=x.fk x.aB.length)
  rw[yw]at this
  exact this
theorem vO:(x.full m).1.room=x.room:=by
 rcases pM (x:=x) (m:=m) with e | e
 ·rw[e]
 ·rw[e,jn,Co,vH]
theorem Cn (h:(x.full m).2≠true):((x.full m).1.log.length:Int)+(x.full m).1.bound+m≤x.room:=by
 have key:(x.full m).1.fZ m=true:=by
  unfold av.full at h ⊢
  by_cases aj:x.fZ m=true
  ·rw[if_pos aj];exact aj
  ·rw[if_neg aj]at h ⊢
   show x.ed.fZ m=true
   cases e:x.ed.fZ m with
   | true=>rfl
   | false=>exact absurd (show (!x.ed.fZ m)=true by rw[e];rfl) h
 have:=of_decide_eq_true key
 rw[vO]at this
 exact this
end
def Ds (x y:av):Prop:=y=x∨y=x.began
def zf (x y:av):Prop:=y=x∨y=x.opened
theorem vB {x y:av}(h:y.aT=x.aT) (d:Int):y.isOpen d=x.isOpen d:=by
 show y.aT.any _=x.aT.any _
 rw[h]
theorem To {x y:av}(h:y.aT=x.aT) (p:Nat):y.d5 p=x.d5 p:=by
 show (y.aT.find? _).map _=(x.aT.find? _).map _
 rw[h]
theorem vE {x y:av}(h:y.aT=x.aT):y.bound=x.bound:=by
 show (y.aT.map _).sum=(x.aT.map _).sum
 rw[h]
theorem CD {x:av}(S:x.sound) (f:x.fit) (e:b1):∃y z,Ds x y∧Path y (x.row e) z∧zf z (x.a_ e).1:=by
 have aa:=yq x
 have aC:(x.log.length:Int)≤x.room:=by have vm:(x.log.length:Int)+x.bound≤x.room:=f;omega
 have fin:∀{y z:av} {l:List bO},Ds x y→Path y l z→zf z (x.a_ e).1→∃y z,Ds x y∧Path y (x.row e) z∧zf z (x.a_ e).1:=by
  intro y z l a b c
  have ay:=b.facts.1
  have eB:y.d8=x.d8:=by rcases a with rfl | rfl <;> rfl
  have gu:(x.a_ e).1.d8=z.d8:=by
   rcases c with h | h
   ·rw[h]
   ·rw[h];rfl
  rw[HH,ay,eB]at gu
  have:=List.append_cancel_left gu
  rw[this]
  exact⟨y,z,a,b,c⟩
 cases c7:x.refusal e with
 | some w =>
  refine fin (.inl rfl) (.nil _) (.inl ?_)
  unfold av.a_
  rw[c7]
 | none =>
  have aP:x.a_ e=x.fy e:=by
   unfold av.a_
   rw[c7]
  cases e with
  | begin =>
   obtain⟨l,a⟩:=IG (x:=x.began) (m:=1) aC
   refine fin (.inr rfl) a ?_
   rw[aP]
   show zf _ (if (x.began.full 1).2=true then ((x.began.full 1).1,dp.word "no room") else ((x.began.full 1).1.opened,.num x.begun)).1
   split
   ·exact .inl rfl
   ·exact .inr rfl
  | put d p n =>
   obtain⟨l,a⟩:=IG (x:=x) (m:=2) aC
   by_cases hf:(x.full 2).2=true
   ·refine fin (.inl rfl) a (.inl ?_)
    rw[aP]
    show (if (x.full 2).2=true then ((x.full 2).1,dp.word "no room") else ((((x.full 2).1.dA d p.toNat).putIn d p.toNat n),.word "done")).1=_
    rw[if_pos hf]
   ·have aH:=kp (.inl ⟨_,_,rfl⟩) c7
    have aI:=ox (.inl ⟨_,_,rfl⟩) c7
    have a6:x.d5 p.toNat=none∨x.d5 p.toNat=some d:=by
     have h':(if x.isOpen d=false then some ("no dealing":Str) else if p<0∨(x.aB.length:Int)≤p then some ("no page":Str) else if x.d5 p.toNat=none∨x.d5 p.toNat=some d then none else some ("taken":Str))=none:=c7
     rw[if_neg (by rw[aH];decide),if_neg (by omega)]at h'
     by_cases aj:x.d5 p.toNat=none∨x.d5 p.toNat=some d
     ·exact aj
     ·rw[if_neg aj]at h';cases h'
    have fM:=Cn hf
    rw[←vO (x:=x) (m:=2)]at fM
    refine fin (.inl rfl) (a.trans (.one (.put d p.toNat n (by rw[nu];omega) (by rw[vB jq];exact aH) (by rw[To jq];exact a6) fM (yq _)))) (.inl ?_)
    rw[aP]
    show (if (x.full 2).2=true then ((x.full 2).1,dp.word "no room") else ((((x.full 2).1.dA d p.toNat).putIn d p.toNat n),.word "done")).1=_
    rw[if_neg hf]
  | fin d =>
   have aH:=kp (.inr (.inl rfl)) c7
   have ay:=Ia aH S.bl
   have vm:(x.log.length:Int)+x.bound≤x.room:=f
   exact fin (.inl rfl) (.one (.fin d aH (by omega))) (.inl (by rw[aP];rfl))
  | drop d =>
   have aH:=kp (.inr (.inr rfl)) c7
   have ay:=Ia aH S.bl
   have vm:(x.log.length:Int)+x.bound≤x.room:=f
   have hm:=S.ei _ (mA aH)
   obtain⟨k,a⟩:=HD (d:=d) (l:=(x.dh d).reverse) aH (fun z hz=>⟨hm.2.2 z (mem_reverse.mp hz),z.2,mem_reverse.mp hz⟩) (by rw[length_reverse];omega)
   refine fin (.inl rfl) (a.trans (.one (.fin d (by rw[vB nr];exact aH) ?_))) (.inl (by rw[aP];rfl))
   rw[Cg,B7,length_reverse]
   omega
  | look p=>exact fin (.inl rfl) (.nil _) (.inl (by rw[aP];rfl))
  | carry p =>
   have aI:=ox (.inr (.inr rfl)) c7
   obtain⟨l,a⟩:=H6 (x:=x) (p:=p.toNat) (by omega) aC
   exact fin (.inl rfl) a (.inl (by rw[aP];rfl))
  | cut =>
   obtain⟨l,a⟩:=Jf aC
   exact fin (.inl rfl) a (.inl (by rw[aP];rfl))
section
variable {x y:av}{d m:Int}{p:Nat}
theorem H7:(x.ea p).b0.length=x.b0.length:=by
 unfold av.ea
 split
 ·rfl
 ·show (x.b0.set _ _).length=_
  rw[length_set]
theorem yz:∀{i:Nat},(x.fk i).b0.length=x.b0.length
 | 0=>rfl
 | i+1=>by rw[kq,H7];exact yz
theorem yo:x.dW.b0=x.b0:=by
 unfold av.dW
 split <;> rfl
theorem WE:(x.full m).1.b0.length=x.b0.length:=by
 rcases pM (x:=x) (m:=m) with e | e
 ·rw[e]
 ·rw[e,jn,yo,yz]
theorem Ie:∀{l:List (Nat × Int)}{x:av},(x.es d l).b0.length=x.b0.length
 | [],_=>rfl
 | z::r,x=>by
  show ((x.putIn d z.1 z.2).es d r).b0.length=_
  rw[Ie]
  rfl
theorem av.sound.of (S:x.sound) (aI:y.aT=x.aT) (aj:y.b0.length=x.b0.length) (hd:y.aB.length=x.aB.length) (aa:x.begun≤y.begun):y.sound :=
 ⟨by rw[aI];exact S.bl,by rw[aj,hd];exact S.cd,fun z hz=>by
  rw[aI]at hz
  obtain⟨a,b,c⟩:=S.ei z hz
  exact⟨a,by omega,fun w hw=>by rw[hd];exact c w hw⟩⟩
theorem av.sound.full (S:x.sound):(x.full m).1.sound:=S.of jq WE (by rw[nu]) (by rw[kY];exact le_refl _)
theorem av.sound.a_ (S:x.sound) (e:b1):(x.a_ e).1.sound:=by
 unfold av.a_
 cases c7:x.refusal e with
 | some w=>exact S
 | none =>
  cases e with
  | begin =>
   have SO:x.began.sound:=S.of rfl rfl rfl (le_succ _)
   show (if (x.began.full 1).2=true then ((x.began.full 1).1,dp.word "no room") else ((x.began.full 1).1.opened,.num x.begun)).1.sound
   split
   ·exact SO.full
   ·have sk:=SO.full (m:=1)
    have aI:(x.began.full 1).1.aT=x.aT:=jq
    have aa:(x.began.full 1).1.begun=x.begun+1:=kY
    refine⟨?_,sk.cd,fun z hz=>?_⟩
    ·show (((x.began.full 1).1.aT++[((((x.began.full 1).1.begun:Int) - 1),([]:List (Nat × Int)))]).map (·.1)).Nodup
     rw[map_append,aI,aa]
     refine nodup_append.mpr ⟨S.bl,by simp,fun a aX b uK=>?_⟩
     obtain⟨z,hz,rfl⟩:=mem_map.mp aX
     have:=(S.ei z hz).2.1
     have o3:=mem_singleton.mp uK
     rw[o3]
     show z.1≠((x.begun+1:Nat):Int) - 1
     omega
    ·rcases mem_append.mp hz with h | h
     ·exact sk.ei z h
     ·rw[mem_singleton.mp h]
      refine⟨?_,?_,fun w hw=>by cases hw⟩
      ·show (0:Int)≤((x.began.full 1).1.begun:Int) - 1
       rw[aa]
       omega
      ·show ((x.began.full 1).1.begun:Int) - 1<(x.began.full 1).1.begun
       omega
  | put d p n =>
   show (if (x.full 2).2=true then ((x.full 2).1,dp.word "no room") else ((((x.full 2).1.dA d p.toNat).putIn d p.toNat n),.word "done")).1.sound
   have sk:=S.full (m:=2)
   split
   ·exact sk
   ·have aI:=ox (.inl ⟨_,_,rfl⟩) c7
    have hd:(x.full 2).1.aB=x.aB:=nu
    refine⟨?_,?_,fun z hz=>?_⟩
    ·show (((x.full 2).1.aT.map fun z=>if z.1=d then (z.1,z.2++[(p.toNat,(x.full 2).1.aB.getD p.toNat 0)]) else z).map (·.1)).Nodup
     have aJ:(((x.full 2).1.aT.map fun z=>if z.1=d then (z.1,z.2++[(p.toNat,(x.full 2).1.aB.getD p.toNat 0)]) else z).map (·.1))=(x.full 2).1.aT.map (·.1):=by
      rw[map_map]
      refine map_congr_left fun z _=>?_
      show (if z.1=d then (z.1,z.2++_) else z).1=z.1
      split <;> rfl
     rw[aJ]
     exact sk.bl
    ·show (x.full 2).1.b0.length=((x.full 2).1.aB.set _ _).length
     rw[length_set]
     exact sk.cd
    ·obtain⟨y,cg,rfl⟩:=mem_map.mp (show z∈(x.full 2).1.aT.map fun z=>if z.1=d then (z.1,z.2++[(p.toNat,(x.full 2).1.aB.getD p.toNat 0)]) else z from hz)
     obtain⟨a,b,c⟩:=sk.ei y cg
     have ld:((((x.full 2).1.dA d p.toNat).putIn d p.toNat n)).aB.length=(x.full 2).1.aB.length:=by
      show ((x.full 2).1.aB.set _ _).length=_
      rw[length_set]
     rw[ld]
     split
     ·refine⟨a,b,fun w hw=>?_⟩
      rcases mem_append.mp hw with h | h
      ·exact c w h
      ·rw[mem_singleton.mp h,hd]
       show p.toNat<x.aB.length
       omega
     ·exact⟨a,b,c⟩
  | fin d =>
   refine⟨?_,S.cd,fun z hz=>S.ei z (mem_filter.mp hz).1⟩
   exact S.bl.sublist (List.Sublist.map _ (filter_sublist (l:=x.aT)))
  | drop d =>
   have G4:(x.eu d).sound:=S.of nr Ie sy (by rw[hL,vF];exact le_refl _)
   refine⟨?_,G4.cd,fun z hz=>G4.ei z (mem_filter.mp hz).1⟩
   exact G4.bl.sublist (List.Sublist.map _ (filter_sublist (l:=(x.eu d).aT)))
  | look p=>exact S
  | carry p=>exact S.of vG H7 (by rw[show ((x.fy (.carry p)).1).aB=x.aB from yp]) (by rw[show ((x.fy (.carry p)).1).begun=x.begun from vD];exact le_refl _)
  | cut=>exact S.of sD (by rw[show ((x.fy .cut).1).b0=x.b0 from yo]) (by rw[show ((x.fy .cut).1).aB=x.aB from vL]) (by rw[show ((x.fy .cut).1).begun=x.begun from vJ];exact le_refl _)
theorem TL:x.opened.bound=x.bound+1:=by
 show ((x.aT++[(((x.begun:Int) - 1),([]:List (Nat × Int)))]).map fun z=>(z.2.length:Int)+1).sum=(x.aT.map fun z=>(z.2.length:Int)+1).sum+1
 rw[map_append,sum_append]
 simp
theorem av.fit.a_ (S:x.sound) (f:x.fit) (e:b1):(x.a_ e).1.fit:=by
 have vm:(x.log.length:Int)+x.bound≤x.room:=f
 have Sq:∀{y:av} {m:Int},(y.log.length:Int)+y.bound≤y.room→(y.full m).1.fit:=fun {y} {m} h=>by
  have ay:=TV (x:=y) (m:=m)
  have aG:(y.full m).1.bound=y.bound:=vE jq
  have ct:=vO (x:=y) (m:=m)
  show ((y.full m).1.log.length:Int)+(y.full m).1.bound≤(y.full m).1.room
  rw[aG,ct]
  omega
 unfold av.a_
 cases c7:x.refusal e with
 | some w=>exact f
 | none =>
  cases e with
  | begin =>
   show (if (x.began.full 1).2=true then ((x.began.full 1).1,dp.word "no room") else ((x.began.full 1).1.opened,.num x.begun)).1.fit
   split
   ·exact Sq (y:=x.began) vm
   ·rename_i h
    have ay:=Cn h
    show ((x.began.full 1).1.log.length:Int)+(x.began.full 1).1.opened.bound≤(x.began.full 1).1.room
    rw[TL,vO]
    have aJ:x.began.room=x.room:=rfl
    omega
  | put d p n =>
   show (if (x.full 2).2=true then ((x.full 2).1,dp.word "no room") else ((((x.full 2).1.dA d p.toNat).putIn d p.toNat n),.word "done")).1.fit
   split
   ·exact Sq vm
   ·rename_i h
    have ay:=Cn h
    have aH:=kp (.inl ⟨_,_,rfl⟩) c7
    have aa:=H_ (x:=(x.full 2).1) (d:=d) (p:=p.toNat) (S.full).bl (by rw[vB jq];exact aH)
    show (((x.full 2).1.log++[dg.put d p.toNat (((x.full 2).1.dA d p.toNat).aB.getD p.toNat 0) n]).length:Int)+((x.full 2).1.dA d p.toNat).bound≤(x.full 2).1.room
    rw[aa,length_append,length_singleton,vO]
    omega
  | fin d =>
   have aH:=kp (.inr (.inl rfl)) c7
   have aa:=yK S.bl aH
   show ((x.log++[dg.fin d]).length:Int)+({ x with aT:=x.aT.filter fun z=>z.1 != d }:av).bound≤x.room
   rw[aa,length_append,length_singleton]
   omega
  | drop d =>
   have aH:=kp (.inr (.inr rfl)) c7
   have aa:=yK S.bl aH
   have aJ:((x.eu d).jV d).bound=({ x with aT:=x.aT.filter fun z=>z.1 != d }:av).bound:=vE (by
    show ((x.eu d).aT.filter fun z=>z.1 != d)=_
    rw[hL,nr])
   have aN:(x.eu d).log.length=x.log.length+(x.dh d).length:=by rw[hL,Cg,length_reverse]
   have b2:(x.eu d).room=x.room:=by rw[hL,B7]
   show (((x.eu d).log++[dg.fin d]).length:Int)+((x.eu d).jV d).bound≤(x.eu d).room
   rw[aJ,aa,length_append,length_singleton,aN,b2]
   omega
  | look p=>exact f
  | carry p =>
   show ((x.ea p.toNat).log.length:Int)+(x.ea p.toNat).bound≤(x.ea p.toNat).room
   rw[HR,Hy,vE vG]
   exact vm
  | cut =>
   have ay:=Hx (x:=x)
   show (x.dW.log.length:Int)+x.dW.bound≤x.dW.room
   rw[Co,vE sD]
   omega
end
theorem Ih:∀(l:List b1) {x:av},x.sound→x.fit→(x.run l).sound∧(x.run l).fit
 | [],_,S,f=>⟨S,f⟩
 | e::r,x,S,f=>Ih r (S.a_ e) (f.a_ S e)
theorem Ct (ps:List Int) (room:Int):(c_ ps room).sound:=⟨nodup_nil,rfl,fun z hz=>(by cases hz)⟩
theorem C7 {ps:List Int}{room:Int}(h:0≤room):(c_ ps room).fit:=by
 show (0:Int)+0≤room
 omega
structure d_ (H:ao) (h ce ak lo pu st:Addr) (pl:List (Int × Addr)) (x:av):Prop where
 hd:H ak=some (.lst (x.aB.map V.int))
 aI:H pu=some (.bQ (dX pl))
 eK:pl.map (·.1)=x.aT.map (·.1)
 af:∀(i:Nat) z w,pl[i]?=some z→x.aT[i]?=some w→∃ys,H z.2=some (.lst ys)∧bk H (w.2.map pairD) ys
 bz:(x.aT.map (·.1)).Nodup
 ap:(ak::pu::pl.map (·.2)).Nodup
def ie (ak pu:Addr) (pl:List (Int × Addr)):List Addr:=ak::pu::pl.map (·.2)
section
variable {H ah:ao}{h ce ak lo pu st:Addr}{pl:List (Int × Addr)}{x y:av}
theorem bB.p8 (A:bB H h ce ak lo pu st pl x):d_ H h ce ak lo pu st pl x:=by
 have ap:=A.ap
 unfold own at ap
 simp only[nodup_cons,mem_cons,not_or]at ap
 obtain⟨_,_,⟨ep,_,kT⟩,⟨_,GW⟩,_,e⟩:=ap
 exact⟨A.hd,A.aI,A.eK,A.af,A.bz,nodup_cons.mpr ⟨fun m=>(mem_cons.mp m).elim ep kT,nodup_cons.mpr ⟨GW,e⟩⟩⟩
theorem d_.of (A:d_ H h ce ak lo pu st pl x) (aJ:y.aB=x.aB) (aN:y.aT=x.aT):d_ H h ce ak lo pu st pl y :=
 ⟨by rw[aJ];exact A.hd,A.aI,by rw[aN];exact A.eK,by rw[aN];exact A.af,by rw[aN];exact A.bz,A.ap⟩
theorem d_.same (A:d_ H h ce ak lo pu st pl x) (s:bI H ah):d_ ah h ce ak lo pu st pl x:=by
 refine⟨s _ _ A.hd,s _ _ A.aI,A.eK,fun i z w a b=>?_,A.bz,A.ap⟩
 obtain⟨ys,bu,aV⟩:=A.af i z w a b
 exact⟨ys,s _ _ bu,bk.mono s _ _ aV⟩
theorem d_.ne (A:d_ H h ce ak lo pu st pl x):ak≠pu∧∀z∈pl,z.2≠ak∧z.2≠pu:=by
 have ap:=A.ap
 simp only[nodup_cons,mem_cons,not_or]at ap
 obtain⟨⟨a1,a2⟩,b,_⟩:=ap
 refine⟨a1,fun z hz=>?_⟩
 have hm:z.2∈pl.map (·.2):=mem_map.mpr ⟨z,hz,rfl⟩
 exact⟨fun e=>a2 (e ▸ hm),fun e=>b (e ▸ hm)⟩
theorem d_.isOpen (A:d_ H h ce ak lo pu st pl x) (d:Int):(dn (dX pl) (Sum.inl d)).isSome=x.isOpen d:=by
 rw[pO,Option.isSome_map,CI d A.eK]
 unfold av.isOpen
 induction x.aT with
 | nil=>rfl
 | cons z r c6 =>
  rw[find?_cons,any_cons]
  cases z.1 == d with
  | true=>rfl
  | false=>exact c6
theorem d_.tT (A:d_ H h ce ak lo pu st pl x) (d:Int):e2 H pu (.int d) (dn (dX pl) (Sum.inl d)):=.inl ⟨_,Sum.inl d,.inl A.aI,rfl,rfl⟩
theorem d_.lW (A:d_ H h ce ak lo pu st pl x):pl.length=x.aT.length:=by
 have:=congrArg List.length A.eK
 rw[length_map,length_map]at this
 exact this
theorem d_.at_ (A:d_ H h ce ak lo pu st pl x) {i:Nat}{z:Int × Addr}(hz:pl[i]?=some z):∃w ys,x.aT[i]?=some w∧w.1=z.1∧H z.2=some (.lst ys)∧bk H (w.2.map pairD) ys∧e2 H pu (.int z.1) (some (.ref z.2)):=by
 have aL:i<x.aT.length:=by rw[←A.lW];exact (List.getElem?_eq_some_iff.mp hz).1
 have hw:x.aT[i]?=some x.aT[i]:=getElem?_eq_getElem aL
 obtain⟨ys,bu,aV⟩:=A.af i z _ hz hw
 have aJ:(pl.map (·.1))[i]?=some z.1:=by rw[getElem?_map,hz];rfl
 have aN:(x.aT.map (·.1))[i]?=some (x.aT[i]).1:=by rw[getElem?_map,hw];rfl
 rw[A.eK,aN]at aJ
 refine⟨_,ys,hw,Option.some.inj aJ,bu,aV,?_⟩
 have g:=A.tT z.1
 rw[pO,lJ (by rw[A.eK];exact A.bz) hz]at g
 exact g
theorem d_.tW (A:d_ H h ce ak lo pu st pl x) {b:Addr}{xs:List V}(aa:H b=some (.tup xs)):b∉ie ak pu pl:=by
 intro hm
 rcases mem_cons.mp hm with e | hm
 ·rw[e,A.hd]at aa;cases aa
 rcases mem_cons.mp hm with e | hm
 ·rw[e,A.aI]at aa;cases aa
 obtain⟨z,hz,e⟩:=mem_map.mp hm
 obtain⟨i,aL⟩:=getElem?_of_mem hz
 obtain⟨w,ys,_,_,q,_,_⟩:=A.at_ aL
 rw[e,aa]at q
 cases q
theorem d_.et (A:d_ H h ce ak lo pu st pl x) (o:gq (ie ak pu pl) H ah):el H ah:=fun b xs q=>o b _ (A.tW q) q
theorem d_.there (A:d_ H h ce ak lo pu st pl x) {b:Addr}(aa:H b=none):b∉ie ak pu pl:=by
 intro hm
 rcases mem_cons.mp hm with e | hm
 ·rw[e,A.hd]at aa;cases aa
 rcases mem_cons.mp hm with e | hm
 ·rw[e,A.aI]at aa;cases aa
 obtain⟨z,hz,e⟩:=mem_map.mp hm
 obtain⟨i,aL⟩:=getElem?_of_mem hz
 obtain⟨w,ys,_,_,q,_,_⟩:=A.at_ aL
 rw[e,aa]at q
 cases q
theorem d_.q7 (A:d_ H h ce ak lo pu st pl x) {c:List Int}:d_ (upd H ak (.lst (c.map V.int))) h ce ak lo pu st pl { x with aB:=c }:=by
 obtain⟨dH,np⟩:=A.ne
 have kt:el H (upd H ak (.lst (c.map V.int))):=qR A.hd
 refine⟨aQ,by rw[aA dH.symm];exact A.aI,A.eK,fun i z w a b=>?_,A.bz,A.ap⟩
 obtain⟨ys,bu,aV⟩:=A.af i z w a b
 exact⟨ys,by rw[aA (np z (mem_of_getElem? a)).1];exact bu,bk.keep kt _ _ (eG g5 _) aV⟩
theorem d_.ended (A:d_ H h ce ak lo pu st pl x) (d:Int):d_ (upd H pu (.bQ (kx (dX pl) (Sum.inl d)))) h ce ak lo pu st (pl.filter fun z=>z.1 != d) { x with aT:=x.aT.filter fun z=>z.1 != d }:=by
 obtain⟨dH,np⟩:=A.ne
 have kt:el H (upd H pu (.bQ (kx (dX pl) (Sum.inl d)))):=el.zj A.aI
 obtain⟨hb,kc⟩:=B4 (R:=fun z w=>z∈pl∧∃ys,H z.2=some (.lst ys)∧bk H (w.2.map pairD) ys) (fun y=>y != d) A.eK fun i z w p q=>⟨mem_of_getElem? p,A.af i z w p q⟩
 have sub:(ak::pu::(pl.filter fun z=>z.1 != d).map (·.2)).Sublist (ak::pu::pl.map (·.2)):=((filter_sublist.map _).cons_cons _).cons_cons _
 refine⟨by rw[aA dH];exact A.hd,by rw[aQ,Jv],hb,fun i z w a b=>?_,(filter_sublist.map _).nodup A.bz,sub.nodup A.ap⟩
 obtain⟨hz,ys,bu,aV⟩:=kc i z w a b
 exact⟨ys,by rw[aA (np z hz).2];exact bu,bk.keep kt _ _ (eG g5 _) aV⟩
theorem d_.opened (A:d_ H h ce ak lo pu st pl x) {d:Int}{a:Addr}(aX:H a=some (.lst [])) (aS:a∉ie ak pu pl) (hd:x.isOpen d=false) :
  d_ (upd H pu (.bQ (putK (dX pl) (Sum.inl d) (.ref a)))) h ce ak lo pu st (pl++[(d,a)]) { x with aT:=x.aT++[(d,[])] }:=by
 obtain⟨dH,np⟩:=A.ne
 have kt:el H (upd H pu (.bQ (putK (dX pl) (Sum.inl d) (.ref a)))):=el.zj A.aI
 have pe:dn (dX pl) (Sum.inl d)=none:=by
  have:=A.isOpen d
  rw[hd]at this
  exact Option.isNone_iff_eq_none.mp (by rw[←Option.not_isSome,this];rfl)
 have b7:putK (dX pl) (Sum.inl d) (.ref a)=dX (pl++[(d,a)]):=by
  rw[I3 _ pe]
  unfold dX
  rw[map_append]
  rfl
 have bl:¬d∈x.aT.map (·.1):=by
  intro m
  obtain⟨z,hz,e⟩:=mem_map.mp m
  have:x.isOpen d=true:=any_eq_true.mpr ⟨z,hz,by rw[e];exact beq_self_eq_true d⟩
  rw[hd]at this
  cases this
 have qx:=A.lW
 have ht:(ak::pu::(pl++[(d,a)]).map (·.2))=(ak::pu::pl.map (·.2))++[a]:=by
  rw[map_append]
  rfl
 refine⟨by rw[aA dH];exact A.hd,by rw[aQ,b7],by rw[map_append,map_append,A.eK];rfl,fun i z w p q=>?_,?_,?_⟩
 ·by_cases aL:i<pl.length
  ·rw[getElem?_append_left aL]at p
   rw[getElem?_append_left (by omega)]at q
   obtain⟨ys,bu,aV⟩:=A.af i z w p q
   exact⟨ys,by rw[aA (np z (mem_of_getElem? p)).2];exact bu,bk.keep kt _ _ (eG g5 _) aV⟩
  ·have rH:i=pl.length:=by
    have:=(List.getElem?_eq_some_iff.mp p).1
    rw[length_append,length_singleton]at this
    omega
   subst rH
   rw[getElem?_append_right (le_refl _),sub_self]at p
   rw[qx,getElem?_append_right (le_refl _),sub_self]at q
   have gu:(d,a)=z:=Option.some.inj p
   have jR:((d,[]):Int × List (Nat × Int))=w:=Option.some.inj q
   subst gu jR
   have na:a≠pu:=fun e=>aS (by rw[e];exact mem_cons_of_mem _ mem_cons_self)
   exact⟨[],by rw[aA na];exact aX,.nil⟩
 ·rw[map_append,nodup_append]
  refine⟨A.bz,by simp,fun u a7 v br=>?_⟩
  have l5:v=d:=by simpa using br
  subst l5
  exact fun e=>bl (e ▸ a7)
 ·rw[ht,nodup_append]
  refine⟨A.ap,by simp,fun u a7 v br=>?_⟩
  have l5:v=a:=by simpa using br
  subst l5
  exact fun e=>aS (e ▸ a7)
theorem d_.dA (A:d_ H h ce ak lo pu st pl x) {i:Nat}{d:Int}{a:Addr}{ys:List V}{y:Nat × Int}{v:V}(aL:pl[i]?=some (d,a)) (aX:H a=some (.lst ys)) (br:Rep H (pairD y) v) :
  d_ (upd H a (.lst (ys++[v]))) h ce ak lo pu st pl { x with aT:=x.aT.map fun z=>if z.1=d then (z.1,z.2++[y]) else z }:=by
 obtain⟨dH,np⟩:=A.ne
 obtain⟨k3,jP⟩:=np _ (mem_of_getElem? aL)
 have kt:el H (upd H a (.lst (ys++[v]))):=qR aX
 have kO:(x.aT.map fun z=>if z.1=d then (z.1,z.2++[y]) else z).map (·.1)=x.aT.map (·.1):=by
  rw[map_map]
  refine map_congr_left fun z _=>?_
  show (if z.1=d then (z.1,z.2++[y]) else z).1=z.1
  split <;> rfl
 have Ey:(pl.map (·.2)).Nodup:=(nodup_cons.mp (nodup_cons.mp A.ap).2).2
 refine⟨by rw[aA (Ne.symm k3)];exact A.hd,by rw[aA (Ne.symm jP)];exact A.aI,by rw[kO];exact A.eK,fun j z w p q=>?_,by rw[kO];exact A.bz,A.ap⟩
 obtain⟨eb,bu,rfl⟩:=JV q
 obtain⟨us,jJ,hS⟩:=A.af j z eb p bu
 obtain⟨eU,_,t1,en,_,_,_⟩:=A.at_ p
 rw[bu]at t1
 cases t1
 by_cases e:z=(d,a)
 ·subst e
  rw[if_pos en]
  rw[aX]at jJ
  cases jJ
  refine⟨ys++[v],aQ,?_⟩
  show bk _ ((eb.2++[y]).map pairD) _
  rw[map_append]
  exact (bk.keep kt _ _ (eG g5 _) hS).append (.cons (Rep.keep kt _ _ (g5 y) br) .nil)
 ·have bl:¬eb.1=d:=by
   intro b6
   have f1:=lJ (l:=pl) (by rw[A.eK];exact A.bz) p
   have f2:=lJ (l:=pl) (by rw[A.eK];exact A.bz) aL
   rw[←en,b6]at f1
   have eL:pl.find? (fun y=>y.1 == d)=some (d,a):=f2
   rw[eL]at f1
   exact e (Option.some.inj f1).symm
  have na:z.2≠a:=by
   intro b6
   have g1:(pl.map (·.2))[j]?=some a:=by rw[getElem?_map,p];exact congrArg some b6
   have g2:(pl.map (·.2))[i]?=some a:=by rw[getElem?_map,aL];rfl
   have de:j=i:=by
    have fN:=(List.getElem?_eq_some_iff.mp g1).1
    exact (List.getElem?_inj fN Ey).mp (g1.trans g2.symm)
   subst de
   rw[p]at aL
   exact e (Option.some.inj aL)
  rw[if_neg bl]
  exact⟨us,by rw[aA na];exact jJ,bk.keep kt _ _ (eG g5 _) hS⟩
theorem d_.pR (A:d_ H h ce ak lo pu st pl x) {d:Int}(hd:x.isOpen d=true):∃(i:Nat) (a:Addr) (ys:List V),pl[i]?=some (d,a)∧x.aT[i]?=some (d,x.dh d)∧H a=some (.lst ys)∧bk H ((x.dh d).map pairD) ys∧e2 H pu (.int d) (some (.ref a)):=by
 obtain⟨w,hw,e⟩:=any_eq_true.mp hd
 obtain⟨i,aL⟩:=getElem?_of_mem hw
 have cV:w.1=d:=beq_iff_eq.mp e
 have az:i<pl.length:=by rw[A.lW];exact (List.getElem?_eq_some_iff.mp aL).1
 have hz:pl[i]?=some pl[i]:=getElem?_eq_getElem az
 obtain⟨eU,ys,bu,aV,eV,iW,lz⟩:=A.at_ hz
 rw[aL]at bu
 cases bu
 have b7:x.dh d=w.2:=by
  unfold av.dh
  have:=lJ A.bz aL
  rw[cV]at this
  rw[this]
  rfl
 have gu:pl[i]=(d,(pl[i]).2):=by
  rw[←cV,aV]
 refine⟨i,(pl[i]).2,ys,by rw[hz];exact congrArg some gu,by rw[aL,b7,←cV],eV,by rw[b7];exact iW,?_⟩
 rw[←aV,cV]at lz
 exact lz
end
def pT (l:List (Nat × Int)) (ds:List Int):List Int:=l.foldl (fun ds z=>ds.set z.1 z.2) ds
def av.qn (x:av):b1→av
 | .begin=>{ x with aT:=x.aT++[((x.begun:Int),[])] }
 | .put d p n=>{ x with aT:=(x.dA d p.toNat).aT,aB:=x.aB.set p.toNat n }
 | .fin d=>{ x with aT:=x.aT.filter fun z=>z.1 != d }
 | .drop d=>{ x with aB:=pT (x.dh d).reverse x.aB,aT:=x.aT.filter fun z=>z.1 != d }
 | _=>x
section
variable {x:av}{d m:Int}{p:Nat}{e:b1}
theorem Cf:∀{l:List (Nat × Int)}{x:av},(x.es d l).aB=pT l x.aB
 | [],_=>rfl
 | z::l,x=>by
  show ((x.putIn d z.1 z.2).es d l).aB=_
  rw[Cf]
  rfl
theorem J5 (aC:x.refusal e=none) (aX:(x.a_ e).2≠.word "no room"):(x.a_ e).1.aB=(x.qn e).aB∧(x.a_ e).1.aT=(x.qn e).aT:=by
 have aP:x.a_ e=x.fy e:=by unfold av.a_;rw[aC]
 rw[aP]at aX ⊢
 cases e with
 | begin =>
  have dY:x.fy .begin=if (x.began.full 1).2=true then ((x.began.full 1).1,.word "no room") else ((x.began.full 1).1.opened,.num x.begun):=rfl
  cases hf:(x.began.full 1).2 with
  | true=>rw[dY,hf,if_pos rfl]at aX;exact absurd rfl aX
  | false =>
   rw[dY,hf,if_neg Bool.false_ne_true]
   refine⟨nu (x:=x.began),?_⟩
   show (x.began.full 1).1.aT++[((((x.began.full 1).1.begun:Nat):Int) - 1,[])]=x.aT++[((x.begun:Int),[])]
   have aJ:(x.began.full 1).1.aT=x.aT:=jq
   have aN:(x.began.full 1).1.begun=x.begun+1:=kY
   rw[aJ,aN]
   have b2:(((x.begun+1:Nat):Int) - 1)=(x.begun:Int):=by omega
   rw[b2]
 | put d p n =>
  have dY:x.fy (.put d p n)=if (x.full 2).2=true then ((x.full 2).1,.word "no room") else ((((x.full 2).1.dA d p.toNat).putIn d p.toNat n),.word "done"):=rfl
  cases hf:(x.full 2).2 with
  | true=>rw[dY,hf,if_pos rfl]at aX;exact absurd rfl aX
  | false =>
   rw[dY,hf,if_neg Bool.false_ne_true]
   have aJ:(x.full 2).1.aT=x.aT:=jq
   have aN:(x.full 2).1.aB=x.aB:=nu
   refine⟨?_,?_⟩
   ·show (x.full 2).1.aB.set p.toNat n=x.aB.set p.toNat n
    rw[aN]
   ·show ((x.full 2).1.dA d p.toNat).aT=(x.dA d p.toNat).aT
    unfold av.dA
    rw[aJ,aN]
 | fin d=>exact⟨rfl,rfl⟩
 | drop d =>
  refine⟨?_,?_⟩
  ·show (x.eu d).aB=_
   rw[hL,Cf]
   rfl
  ·show (x.eu d).aT.filter _=_
   rw[hL,nr]
   rfl
 | look p=>exact⟨rfl,rfl⟩
 | carry p=>exact⟨yp,vG⟩
 | cut=>exact⟨vL,sD⟩
theorem Ca (ce ak:List Int) (op:Int→Bool):∀l:List dg,ee ce ak op (l.drop (ee ce ak op l))=0
 | []=>rfl
 | .fin d::r=>by
  show ee ce ak op ((dg.fin d::r).drop (ee ce ak op r+1))=0
  rw[List.drop_succ_cons]
  exact Ca ce ak op r
 | .put d p o n::r=>by
  have e:ee ce ak op (.put d p o n::r)=if op d=true∨(r.any (jw p)=false∧ce[p]?≠ak[p]?) then 0 else ee ce ak op r+1:=rfl
  by_cases c:op d=true∨(r.any (jw p)=false∧ce[p]?≠ak[p]?)
  ·rw[if_pos c]at e
   rw[e]
   exact e
  ·rw[if_neg c]at e
   rw[e,List.drop_succ_cons]
   exact Ca ce ak op r
theorem Uj:ee x.dW.b0 x.dW.aB x.dW.isOpen x.dW.log=0:=by
 have aJ:x.dW.log=x.log.drop (ee x.b0 x.aB x.isOpen x.log):=by
  unfold av.dW
  by_cases c:0<ee x.b0 x.aB x.isOpen x.log
  ·rw[if_pos c];rfl
  ·rw[if_neg c]
   have z:ee x.b0 x.aB x.isOpen x.log=0:=by omega
   rw[z];rfl
 have aN:x.dW.isOpen=x.isOpen:=by funext d;exact vB sD d
 rw[yo,vL,aN,aJ]
 exact Ca _ _ _ _
theorem Un (aj:x.b0.length=x.aB.length) (aI:p<x.aB.length):(x.ea p).b0[p]?=x.aB[p]?∧∀j,j≠p→(x.ea p).b0[j]?=x.b0[j]?:=by
 unfold av.ea
 by_cases c:x.b0[p]?=x.aB[p]?
 ·rw[if_pos c];exact⟨c,fun _ _=>rfl⟩
 ·rw[if_neg c]
  refine⟨?_,fun j de=>?_⟩
  ·show (x.b0.set p (x.aB.getD p 0))[p]?=_
   rw[List.getElem?_set_self (by omega),getD_eq_getElem?_getD,getElem?_eq_getElem aI]
   rfl
  ·show (x.b0.set p _)[j]?=_
   rw[List.getElem?_set_ne (Ne.symm de)]
theorem H9 (aj:x.b0.length=x.aB.length):∀{i:Nat},i≤x.aB.length→∀j,j<i→(x.fk i).b0[j]?=x.aB[j]?
 | 0,_,j,de=>by omega
 | i+1,aL,j,de=>by
  rw[kq]
  have ay:=Un (x:=x.fk i) (p:=i) (by rw[yz,oz];exact aj) (by rw[oz];omega)
  rw[oz]at ay
  by_cases e:j=i
  ·rw[e];exact ay.1
  ·rw[ay.2 j e]
   exact H9 aj (by omega) j (by omega)
theorem Tf (aj:x.b0.length=x.aB.length):x.ed.b0=x.aB:=by
 rw[jn,yo]
 refine List.ext_getElem? fun j=>?_
 by_cases h:j<x.aB.length
 ·exact H9 aj (le_refl _) j h
 ·rw[List.getElem?_eq_none (by rw[yz,aj];omega),List.getElem?_eq_none (by omega)]
theorem Ts:ee x.ed.b0 x.ed.aB x.ed.isOpen x.ed.log=0:=by
 rw[jn]
 exact Uj
structure J8 (x y:av) (m:Int):Prop where
 ce:y.b0=x.aB
 ak:y.aB=x.aB
 pu:y.aT=x.aT
 nn:ee y.b0 y.aB y.isOpen y.log=0
 lo:x.room<(y.log.length:Int)+x.bound+m
theorem HP (aj:x.b0.length=x.aB.length) (h:(x.full m).2=true):J8 x (x.full m).1 m:=by
 have e:x.full m=if x.fZ m=true then (x,false) else (x.ed, !x.ed.fZ m):=rfl
 by_cases c:x.fZ m=true
 ·rw[e,if_pos c]at h;cases h
 ·rw[if_neg c]at e
  rw[e]at h ⊢
  have aG:x.ed.fZ m=false:=by
   have:(!x.ed.fZ m)=true:=h
   cases z:x.ed.fZ m with
   | false=>rfl
   | true=>rw[z]at this;cases this
  have ct:=of_decide_eq_false aG
  have dN:x.ed.bound=x.bound:=vE ym
  have gQ:x.ed.room=x.room:=by rw[jn,Co,vH]
  rw[dN,gQ]at ct
  exact⟨Tf aj,Ht,ym,Ts,by show _<(x.ed.log.length:Int)+_+_;omega⟩
def more:b1→Int
 | .put _ _ _=>2
 | _=>1
theorem Th (aj:x.b0.length=x.aB.length) (aC:x.refusal e=none) (aX:(x.a_ e).2=.word "no room"):(e=.begin∨∃d p n,e=.put d p n)∧J8 x (x.a_ e).1 (more e):=by
 have aP:x.a_ e=x.fy e:=by unfold av.a_;rw[aC]
 rw[aP]at aX ⊢
 have jS:∀{p:Prop},dp.word "done"=dp.word "no room"→p:=fun z=>absurd (dp.word.inj z) (by decide +kernel)
 cases e with
 | begin =>
  refine⟨.inl rfl,?_⟩
  have dY:x.fy .begin=if (x.began.full 1).2=true then ((x.began.full 1).1,.word "no room") else ((x.began.full 1).1.opened,.num x.begun):=rfl
  cases hf:(x.began.full 1).2 with
  | true =>
   rw[dY,hf,if_pos rfl]
   obtain⟨a1,a2,kU,qE,pF⟩:=HP (x:=x.began) aj hf
   exact⟨a1,a2,kU,qE,pF⟩
  | false=>rw[dY,hf,if_neg Bool.false_ne_true]at aX;cases aX
 | put d p n =>
  refine⟨.inr ⟨d,p,n,rfl⟩,?_⟩
  have dY:x.fy (.put d p n)=if (x.full 2).2=true then ((x.full 2).1,.word "no room") else ((((x.full 2).1.dA d p.toNat).putIn d p.toNat n),.word "done"):=rfl
  cases hf:(x.full 2).2 with
  | true =>
   rw[dY,hf,if_pos rfl]
   exact HP aj hf
  | false=>rw[dY,hf,if_neg Bool.false_ne_true]at aX;exact jS aX
 | fin d=>exact jS aX
 | drop d=>exact jS aX
 | look p=>cases aX
 | carry p=>exact jS aX
 | cut=>exact jS aX
end
def bO.nY (cs:List Int):bO→List Int
 | .eO p n=>cs.set p n
 | _=>cs
def bO.j2 (l:List dg):bO→List dg
 | .line ln=>l++[ln]
 | .cut k=>l.drop k
 | _=>l
theorem l_.qn {x y:av}{s:bO}(h:l_ x s y):y.b0=s.nY x.b0∧y.log=s.j2 x.log∧(y.log.length:Int)≤x.room:=by
 cases h with
 | carry p aI aS aC=>exact⟨rfl,rfl,aC⟩
 | cut h aC=>exact⟨rfl,rfl,by
   show ((x.log.drop (ee x.b0 x.aB x.isOpen x.log)).length:Int)≤_
   rw[length_drop]
   omega⟩
 | put d p n aI aH a6 aC h0=>exact⟨rfl,rfl,by
   show ((x.log++[_]).length:Int)≤_
   rw[length_append,length_singleton]
   omega⟩
 | eu d p n aI aH hm aC=>exact⟨rfl,rfl,by
   show ((x.log++[_]).length:Int)≤_
   rw[length_append,length_singleton]
   omega⟩
 | fin d aH aC=>exact⟨rfl,rfl,by
   show ((x.log++[_]).length:Int)≤_
   rw[length_append,length_singleton]
   omega⟩
theorem Path.qn {x y:av}{l:List bO}(h:Path x l y):y.b0=l.foldl bO.nY x.b0∧y.log=l.foldl bO.j2 x.log:=by
 induction h with
 | nil x=>exact⟨rfl,rfl⟩
 | cons m t c6 =>
  obtain⟨a,b,_⟩:=m.qn
  rw[foldl_cons,foldl_cons,←a,←b]
  exact c6
theorem Path.low {x y:av}{l:List bO}(h:Path x l y) (aC:(x.log.length:Int)≤x.room):∀i,((l.take i).foldl bO.j2 x.log).length≤x.room:=by
 induction h with
 | nil x=>intro i;rw[List.take_nil];exact aC
 | cons m t c6 =>
  intro i
  obtain⟨a,b,c⟩:=m.qn
  cases i with
  | zero=>exact aC
  | succ i =>
   rw[List.take_succ_cons,foldl_cons,←b]
   have:=c6 (by rw[m.facts.2.2.1];exact c) i
   rw[m.facts.2.2.1]at this
   exact this
section
variable {X:bE}
def Wf:i2:=fun x y H Q=>∃(a b:Addr) (ns:List Int),x=.ref a∧y=.ref b∧H a=some (.lst (ns.map V.int))∧H b=some (.lst (ns.map V.int))∧Q (.bV false) H
theorem B6:∀{ns:List Int}{us:List Value},Vals (ns.map V.int) us→∀(j:Nat) (h:j<us.length),∃t,us[j]=.int (ns.getD j 0) t
 | [],_,.nil,j,h=>absurd h (by simp)
 | n::ns,_,.cons r t,0,h=>by
  obtain⟨t',e⟩:=r
  exact⟨t',e⟩
 | n::ns,_::us,.cons r t,j+1,h=>by
  obtain⟨t',e⟩:=B6 t j (by simpa using h)
  exact⟨t',by simpa using e⟩
theorem UD (a7:X.A.units<cLine):gX X (compareOp .NotEq) Wf:=by
 intro pins s σ H x y v u Q I bC bM h
 obtain⟨a,b,ns,rfl,rfl,aX,aa,q⟩:=h
 cases bC
 cases bM
 obtain⟨its,r,p,_⟩:=I.list (aR.of aX)
 obtain⟨iO,bH,fQ,_⟩:=I.list (aR.of aa)
 have fN:=r.length
 have hY:=bH.length
 refine SeqAt.RcNeAt.lists (e:=fun _=>true) p.isList fQ.isList (by rw[size_toArray,size_toArray];omega) a7 (fun j ay aG=>?_) X.prog X.w X.dF _ ?_
 ·obtain⟨t1,aJ⟩:=B6 r j (by simpa using ay)
  obtain⟨en,aN⟩:=B6 bH j (by simpa using aG)
  have g1:its.toArray[j]=Value.int (ns.getD j 0) t1:=by rw[List.getElem_toArray];exact aJ
  have g2:iO.toArray[j]=Value.int (ns.getD j 0) en:=by rw[List.getElem_toArray];exact aN
  rw[g1,g2]
  have:=SeqAt.EqAt.int_int (A:=X.A.in1) (s:=s) (ns.getD j 0) t1 (ns.getD j 0) en
  rw[beq_self_eq_true]at this
  exact this
 ·have e:(!(List.range its.toArray.size).all fun _=>true)=false:=by simp
  rw[e]
  exact⟨.bV false,H,I,rfl,q⟩
end
end L2
namespace F9
open PySem L2
theorem b9 {j k:Nat}{A:Around}(h:gd j A) (q:k≤j:=by decide):gd k A:=h.mono q
theorem dM {N Q:List Str}{sc:Scope}(a:sc.kind=.function:=by rfl) (b:sc.isCoroutine=false:=by rfl) (c:sc.isGenerator=false:=by rfl) (d:N.Nodup:=by decide +kernel) (e:N.take Q.length=Q:=by rfl) (f:∀x∈Q,sc.names.lookup x=some .local∨sc.names.lookup x=some .cell:=by decide +kernel) (g:∀y∈sc.names,y.2≠.free:=by decide +kernel):dk N Q sc:=⟨a,b,c,d,e,f,g⟩
abbrev rf:List Str:=["_law_cells","_law_count","_law_words","_law_asked","_law_out","_law_over","_law_begun","_law_k","_law_rest","_law_word","_law_odd","_law_far","_law_page","_law_strange","_law_dealing","_law_number"]
abbrev zR:List Str:=["_law_script","_law_head","_law_count","_law_room","_law_cellar","_law_asked","_law_found","_law_rows","_law_desk","_law_log","_law_puts","_law_begun","_law_k","_law_deed"]
abbrev p0:List Str:=["_law_house","_law_dealing","_law_page","_law_number"]
abbrev t_:List Str:=["_law_pages","_law_log","_law_strokes","_law_room"]
abbrev t8:List Str:=["_law_found","_law_rows","_law_asked","_law_house"]
abbrev t9:List Str:=["_law_puts","_law_desk","_law_deed","_law_begun"]
abbrev p3:List Str:=["_law_pages","_law_desk","_law_log","_law_puts"]
abbrev rk:List Str:=["_law_number","_law_prime","_law_many"]
abbrev ua:List Str:=["_law_pages","_law_log","_law_strokes"]
abbrev oQ:List Str:=["_law_pages","_law_log","_law_stroke"]
abbrev uc:List Str:=["_law_found","_law_count","_law_many"]
abbrev Ld:List Str:=["_law_found","_law_count","_law_part"]
abbrev pZ:List Str:=["_law_puts","_law_desk","_law_deed"]
abbrev jD:List Str:=["self","dealing","page","number"]
abbrev ue:List Str:=["pages","desk","log","dealings"]
abbrev la:List Str:=["_law_house","_law_stroke"]
abbrev iQ:List Str:=["_law_found","_law_count"]
abbrev uh:List Str:=["_law_house","_law_needs"]
abbrev ud:List Str:=["_law_cells","_law_count"]
abbrev l1:List Str:=["_law_house","_law_deed"]
abbrev p1:List Str:=["_law_house","_law_page"]
abbrev ri:List Str:=["_law_cell","_law_count"]
abbrev um:List Str:=["_law_lines","_law_page"]
abbrev ug:List Str:=["_law_pages","_law_room"]
abbrev uf:List Str:=["self","dealing","page"]
abbrev lV:List Str:=["pages","room","deeds"]
abbrev uo:List Str:=["_law_found","_law_due"]
abbrev uk:List Str:=["_law_puts","_law_page"]
abbrev oR:List Str:=["self","pages","room"]
abbrev rj:List Str:=["_law_script","_law_k"]
abbrev rg:List Str:=["self","pages","log"]
abbrev gm:List Str:=["self","dealing"]
abbrev hP:List Str:=["self","stroke"]
abbrev gK:List Str:=["house","deed"]
abbrev gf:List Str:=["self","page"]
abbrev jC:List Str:=["self","more"]
abbrev zQ:List Str:=["_law_script"]
abbrev mI:List Str:=["_law_found"]
abbrev p2:List Str:=["_law_house"]
abbrev oS:List Str:=["_law_puts"]
abbrev rd:List Str:=["_law_deed"]
abbrev rb:List Str:=["_law_head"]
abbrev hO:List Str:=["self"]
def top (i:Nat):Stmt:=PySem.Challenge.pw_quillhouse_k09_whole_room.main.body.getD i (.Pass ⟨0,0,0,0⟩)
abbrev tr:Stmt:=inClass (top 7) 0
abbrev uw:Stmt:=inClass (top 7) 1
abbrev tc:Stmt:=top 9
abbrev tf:Stmt:=top 10
abbrev ti:Stmt:=inClass (top 12) 0
abbrev tu:Stmt:=inClass (top 12) 1
abbrev tZ:Stmt:=inClass (top 12) 2
abbrev t4:Stmt:=inClass (top 12) 3
abbrev tK:Stmt:=inClass (top 12) 4
abbrev tF:Stmt:=inClass (top 12) 5
abbrev tp:Stmt:=inClass (top 12) 6
abbrev t6:Stmt:=inClass (top 12) 7
abbrev tP:Stmt:=inClass (top 12) 8
abbrev tN:Stmt:=inClass (top 12) 9
abbrev tO:Stmt:=inClass (top 12) 10
abbrev tM:Stmt:=inClass (top 12) 11
abbrev tG:Stmt:=inClass (top 12) 12
abbrev te:Stmt:=inClass (top 12) 13
abbrev sP:Stmt:=inClass (top 12) 14
abbrev td:Stmt:=inClass (top 12) 15
abbrev sM:Stmt:=top 14
abbrev sA:Stmt:=top 15
abbrev qV:Stmt:=top 16
abbrev sU:Stmt:=top 17
abbrev tL:Stmt:=top 19
abbrev s9:Stmt:=top 20
abbrev ux:Stmt:=top 21
abbrev t2:Stmt:=top 22
abbrev tY:Stmt:=top 23
abbrev sS:Stmt:=top 24
abbrev sE:Stmt:=top 25
abbrev t7:Stmt:=top 26
abbrev tD:Stmt:=top 27
abbrev iM:Stmt:=top 28
abbrev s_:Stmt:=top 29
abbrev sJ:Stmt:=top 30
abbrev t5:Stmt:=top 31
abbrev ts:Stmt:=top 32
abbrev tw:Stmt:=top 33
abbrev sR:Stmt:=top 34
abbrev tb:Stmt:=top 35
abbrev th:Stmt:=top 36
abbrev tE:Stmt:=top 37
abbrev tn:Stmt:=top 38
abbrev tv:Stmt:=top 39
abbrev tg:Stmt:=top 40
abbrev sQ:Stmt:=top 41
abbrev tl:Stmt:=top 42
abbrev sL:Stmt:=top 43
abbrev tH:Stmt:=top 44
abbrev ta:Stmt:=top 45
abbrev tk:Stmt:=top 46
abbrev sF:Stmt:=top 47
abbrev sV:Stmt:=top 48
abbrev jW:Stmt:=top 49
theorem dS {c A B:Prop} [Decidable c] (aj:c) (h:A):if decide c=true then A else B:=by
 rw[decide_eq_true aj]
 exact fm h
theorem bx {c A B:Prop} [Decidable c] (aj:¬c) (h:B):if decide c=true then A else B:=by
 rw[decide_eq_false aj]
 exact cU h
theorem nF {c A B:Prop} [Decidable c] (aj:¬c) (h:A):if (!decide c)=true then A else B:=by
 rw[decide_eq_false aj]
 exact fm h
theorem ic:bootBuiltins "list"=some (.type "list"):=by decide +kernel
theorem wu:bootBuiltins "tuple"=some (.type "tuple"):=by decide +kernel
theorem ur:bootBuiltins "int"=some (.type "int"):=by decide +kernel
theorem wN:bootBuiltins "str"=some (.type "str"):=by decide +kernel
theorem Yt:bootBuiltins "bool"=some (.type "bool"):=by decide +kernel
theorem Ys:bootBuiltins "dict"=some (.type "dict"):=by decide +kernel
theorem i6:bootBuiltins "isinstance"=some (.builtin "isinstance"):=by decide +kernel
section
variable (K:PySem.W.Frag)
theorem TU:kitOne K (.type "int") (.type "int")=some true:=by kernel_rfl
theorem TG:kitOne K (.type "int") (.type "bool")=some false:=by kernel_rfl
theorem HM:kitOne K (.type "int") (.type "str")=some false:=by kernel_rfl
theorem oB:kitOne K (.type "str") (.type "str")=some true:=by kernel_rfl
theorem vC:kitOne K (.type "list") (.type "list")=some true:=by kernel_rfl
theorem Hr:kitOne K (.type "list") (.type "tuple")=some false:=by kernel_rfl
theorem Hq:kitOne K (.type "tuple") (.type "list")=some false:=by kernel_rfl
theorem qJ:kitOne K (.type "tuple") (.type "tuple")=some true:=by kernel_rfl
theorem Wx:PySem.W.kitAny K (.type "int") ([ "list","tuple"].map Value.type)=some false:=by kernel_rfl
theorem Ww:PySem.W.kitAny K (.type "str") ([ "list","tuple"].map Value.type)=some false:=by kernel_rfl
theorem VR:PySem.W.kitAny K (.type "list") ([ "list","tuple"].map Value.type)=some true:=by kernel_rfl
theorem UU:PySem.W.kitAny K (.type "tuple") ([ "list","tuple"].map Value.type)=some true:=by kernel_rfl
end
structure ew (ai:Str→Option Value):Prop where
 lst:ai "list"=none
 tup:ai "tuple"=none
 int:ai "int"=none
 str:ai "str"=none
 bV:ai "bool"=none
 i_:ai "isinstance"=none
 len:ai "len"=none
 l0:ai "range"=none
 Ou:ai "enumerate"=none
 aiF:ai "dict"=none
def Dn:c3:=fun vs H Q _=>∃n p m:Int,vs=[.int n,.int p,.int m]∧0<p∧0<m∧∀r:Int,0≤r→r<m→Q (.int r) H
def vY:c3:=fun vs H Q _=>∃i:Int,vs=[.int i]∧Q (.bV true) H
def DR (K:PySem.W.Frag):c3:=fun vs H Q _=>∃(a:Addr) (ns:List Int) (k:Int),vs=[.ref a,.int k]∧aR K H a (ns.map V.int)∧0≤k∧∀z:Int,Q (.int z) H
def CV:c3:=fun vs H Q _=>∃(x y:V) (d:D),vs=[x,y]∧Rep H d x∧Rep H d y∧d.e9≤190000∧∀ah,bI H ah→Q (.bV true) ah
section
variable {P:Program}{w:World}{K:PySem.W.Frag}{ai:Str→Option Value}{base:Heap}{f:Addr}{fd:FuncData}
theorem WU:dk rk rk (bF tL):=dM
theorem Ws (F:da K "_law_draw" "_law_draw" tL f fd):aU P w K ai base bf 1 f fd rk Dn:=by
 refine F.ok WU (fun vs H Q E h=>?_) (fun b4 A outer s H vs Q E aC h=>?_)
 ·obtain⟨n,p,m,rfl,_⟩:=h
  rfl
 obtain⟨n,p,m,rfl,aI,hm,q⟩:=h
 refine⟨_,aZ (cF (c0 jv (c0 jv (c0 zh (af 0) aW) (af 1)) (af 2))),?_⟩
 refine⟨_,rfl,_,_,rfl,rfl,.inr ⟨by decide,by decide⟩,_,rfl,_,_,rfl,rfl,aI,_,rfl,_,_,rfl,rfl,hm,?_⟩
 exact q _ (Int.emod_nonneg _ (by omega)) (Int.emod_lt_of_pos _ hm)
theorem V9:dk mI mI (bF s9):=dM
theorem Vu (F:da K "_law_whole" "_law_whole" s9 f fd) (B:ew ai):aU P w K ai base bf 1 f fd mI vY:=by
 refine F.ok V9 (fun vs H Q E h=>?_) (fun b4 A outer s H vs Q E aC h=>?_)
 ·obtain⟨i,rfl,_⟩:=h
  rfl
 obtain⟨i,rfl,q⟩:=h
 refine⟨_,aZ (cF (nB (dP jt rfl B.i_ i6 (aq (af 0) (aq (iL (v:=.ty "int") rfl B.int ur rfl) aK)))
  (tA (W7 (dP jt rfl B.i_ i6 (aq (af 0) (aq (iL (v:=.ty "bool") rfl B.bV Yt rfl) aK))))))),?_⟩
 refine⟨_,rfl,_,_,_,_,rfl,.int i,TU K,_,rfl,fm ?_⟩
 exact⟨_,rfl,_,_,_,_,rfl,.int i,TG K,_,rfl,q⟩
theorem ZA:dk rj rj (bF ux):=dM
theorem X5 (F:da K "_law_at" "_law_at" ux f fd) (B:ew ai):aU P w K ai base bf 1 f fd rj (DR K):=by
 refine F.ok ZA (fun vs H Q E h=>?_) (fun b4 A outer s H vs Q E aC h=>?_)
 ·obtain⟨a,ns,k,rfl,_⟩:=h
  rfl
 obtain⟨a,ns,k,rfl,mq,h0,q⟩:=h
 refine⟨_,bh (b_ (cn pW (af 1) (dP e8 rfl B.len PySem.boot_len (aq (af 0) aK)) (bY _)) (aZ (cF (bA eH (af 0) (af 1) (fun _ _=>rfl)))) cZ) (aZ (cF aW)),?_⟩
 refine⟨_,rfl,_,rfl,a,_,rfl,.inl mq,_,_,rfl,rfl,_,rfl,?_⟩
 refine gk (fun c=>?_) (fun c=>?_)
 ·have gv:k<(((ns.map V.int).length:Nat):Int):=of_decide_eq_true c
  obtain⟨v,ay,aG⟩:=DA h0 gv
  obtain⟨z,rfl,_⟩:=Cc aG
  exact⟨_,rfl,_,rfl,a,_,_,_,rfl,rfl,mq,ay,q z⟩
 ·exact q 0
theorem vZ:dk ["_law_found","_law_due","_law_left","_law_right","_law_one","_law_two"] uo (bF tv):=dM
theorem JB {α:Type}(l:List α) (a:α):(l++[a])[(l++[a]).length - 1]?=some a:=by
 rw[length_append,length_singleton,Nat.add_sub_cancel,getElem?_append_right (le_refl _),sub_self]
 rfl
theorem VJ {g:Addr}{hs:FuncData}(F:da K "_law_alike" "_law_alike" tv f fd) (B:ew ai) (nj:aU P w K ai base bf 1 g hs mI vY) (nf:Binds K hs mI []) (r5:keepIn K (.ref g)=true) (m5:ai "_law_whole"=some (.ref g)) :
  aU P w K ai base bf 2 f fd uo CV:=by
 refine F.ok vZ (fun vs H Q E h=>?_) (fun b4 A outer s H vs Q E aC h=>?_)
 ·obtain⟨x,y,d,rfl,_⟩:=h
  rfl
 obtain⟨x,y,d,rfl,bg,cg,hz,q⟩:=h
 have a7:=gT aC
 refine⟨_,(bh (dm (i:=2) vZ.bl rfl (Or.inl rfl) (fl (aq (af 0) aK))) (bh (dm (i:=3) vZ.bl rfl (Or.inl rfl) (fl (aq (af 1) aK))) (bh (Vn PassesOwn.never (cn (I4 (Nat.lt_of_succ_lt a7)) (af 3) (fl aK) (bY _)) (bh (dm (i:=4) vZ.bl rfl (Or.inl rfl) (JY plainAttrs_list PySem.F.slot_list_pop PySem.F.type_list_pop J0 (af 2))) (bh (dm (i:=5) vZ.bl rfl (Or.inl rfl) (JY plainAttrs_list PySem.F.slot_list_pop PySem.F.type_list_pop J0 (af 3))) (aZ (b_ (gy (dP U9 rfl B.i_ i6 (aq (af 5) (aq (gz (aq (iL (v:=.ty "list") rfl B.lst ic rfl) (aq (iL (v:=.ty "tuple") rfl B.tup wu rfl) aK))) aK)))) (bh (b_ (cn i5 (dP jt rfl B.i_ i6 (aq (af 4) (aq (iL (v:=.ty "list") rfl B.lst ic rfl) aK))) (dP jt rfl B.i_ i6 (aq (af 5) (aq (iL (v:=.ty "list") rfl B.lst ic rfl) aK))) (bY _)) (aZ (cF fF)) cZ) (bh (b_ (lQ (cn i5 (dP jt rfl B.i_ i6 (aq (af 4) (aq (iL (v:=.ty "tuple") rfl B.tup wu rfl) aK))) (dP jt rfl B.i_ i6 (aq (af 5) (aq (iL (v:=.ty "tuple") rfl B.tup wu rfl) aK))) (bY _)) (cn i5 (dP e8 rfl B.len PySem.boot_len (aq (af 4) aK)) (dP e8 rfl B.len PySem.boot_len (aq (af 5) aK)) (bY _))) (aZ (cF fF)) cZ) (bh (dz (jx plainAttrs_list PySem.F.slot_list_extend PySem.F.type_list_extend H2 (af 2) (aq (af 4) aK))) (aZ (dz (jx plainAttrs_list PySem.F.slot_list_extend PySem.F.type_list_extend H2 (af 3) (aq (af 5) aK))))))) (aZ (b_ (gy (dP jt rfl B.i_ i6 (aq (af 5) (aq (iL (v:=.ty "str") rfl B.str wN rfl) aK)))) (aZ (b_ (lQ (hM (gy (dP jt rfl B.i_ i6 (aq (af 4) (aq (iL (v:=.ty "str") rfl B.str wN rfl) aK))))) (cn i5 (af 4) (af 5) (bY _))) (aZ (cF fF)) cZ)) (aZ (b_ (lQ (hM (gy (dt nj (b9 aC) rfl m5 r5 nf .nil cP (aq (af 4) aK)))) (cn i5 (af 4) (af 5) (bY _))) (aZ (cF fF)) cZ))))))))) (aZ (cF fF))))),?_⟩
 have small:∀{n:Nat},n≤190000→n<sizeLine:=fun h=>ia (by omega)
 refine⟨_,rfl,cS,fun l az=>⟨_,rfl,cS,fun r ir=>?_⟩⟩
 have qd:l≠r:=cD (aQ (H:=H) (a:=l) (o:=.lst [x])) ir
 have Fp:H r=none:=by rw[aA qd.symm]at ir;exact ir
 refine⟨fun m σ au=>∃(ds:List D) (xs ys:List V) (bU bW:Option V),m=e3 ds∧σ=[some x,some y,some (.ref l),some (.ref r),bU,bW]∧bI H au∧au l=some (.lst xs)∧au r=some (.lst ys)∧bk H ds xs∧bk H ds ys∧e3 ds≤190000,
  ⟨d.e9,[d],[x],[y],none,none,by rw[lN,mC];rfl,rfl,(bP az _).trans (bP ir _),by rw[aA qd,aQ],aQ,.cons bg .nil,.cons cg .nil,by rw[lN,mC];exact hz⟩,?_⟩
 rintro m σ au ⟨ds,xs,ys,bU,bW,rfl,rfl,s2,aJ,aN,a4,bH,hsz⟩
 refine⟨_,rfl,cS,fun t a6=>?_⟩
 have s3:bI H (upd au t (.lst [])):=s2.trans (bP a6 _)
 have FU:(upd au t (.lst [])) l=some (.lst xs):=by rw[aA (cD aJ a6)];exact aJ
 have FT:(upd au t (.lst [])) r=some (.lst ys):=by rw[aA (cD aN a6)];exact aN
 have rO:(upd au t (.lst [])) t=some (.lst []):=aQ
 generalize upd au t (.lst [])=a9 at s3 FU FT rO ⊢
 refine⟨r,t,ys,rfl,rfl,FT,rO,_,rfl,?_⟩
 rcases List.eq_nil_or_concat ds with rfl | ⟨nX,d',Ov⟩
 ·rw[bH.lX]
  refine cU ?_
  exact q a9 s3
 rw[List.concat_eq_append]at Ov
 subst Ov
 obtain⟨jY,n2,rfl,Mw,z8⟩:=a4.snoc
 obtain⟨kC,n1,rfl,Mv,z7⟩:=bH.snoc
 have kF:(!(kC++[n1]).isEmpty)=true:=by simp
 rw[kF]
 refine fm ⟨_,fun bK ah h=>h,?_⟩
 have c4:∀(gh:List D) (us vs:List V) (bU bW:Option V) (ah:ao),e3 gh<d'.e9→bI H ah→ah l=some (.lst (jY++us))→ah r=some (.lst (kC++vs))→bk H gh us→bk H gh vs →
   ∃fS,fS<e3 (nX++[d'])∧∃(ds:List D) (xs ys:List V) (hX fQ:Option V),fS=e3 ds∧([some x,some y,some (.ref l),some (.ref r),bU,bW]:St)=[some x,some y,some (.ref l),some (.ref r),hX,fQ]∧bI H ah∧ah l=some (.lst xs)∧ah r=some (.lst ys)∧bk H ds xs∧bk H ds ys∧e3 ds≤190000 :=
  fun gh us vs bU bW ah dw c2 ay aG ct dN=>by
   have e:e3 (nX++[d'])=e3 nX+d'.e9:=by rw[yx,lN,mC,Nat.add_zero]
   have cV:e3 (nX++gh)=e3 nX+e3 gh:=yx _ _
   exact⟨e3 (nX++gh),by omega,nX++gh,_,_,bU,bW,rfl,rfl,c2,ay,aG,Mw.append ct,Mv.append dN,by omega⟩
 have Lu:(upd a9 l (.lst (jY++[n2]).dropLast)) r=some (.lst (kC++[n1])):=by rw[aA qd.symm];exact FT
 refine⟨_,rfl,.inl ⟨rfl,_,aR.of FU⟩,l,_,n2,rfl,rfl,FU,JB _ _,?_⟩
 refine⟨_,rfl,.inl ⟨rfl,_,aR.of Lu⟩,r,_,n1,rfl,rfl,Lu,JB _ _,?_⟩
 have s4:bI H (upd (upd a9 l (.lst (jY++[n2]).dropLast)) r (.lst (kC++[n1]).dropLast)):=(s3.kr az).kr Fp
 have m6:(upd (upd a9 l (.lst (jY++[n2]).dropLast)) r (.lst (kC++[n1]).dropLast)) l=some (.lst jY):=by rw[aA qd,aQ,List.dropLast_concat]
 have jK:(upd (upd a9 l (.lst (jY++[n2]).dropLast)) r (.lst (kC++[n1]).dropLast)) r=some (.lst kC):=by rw[aQ,List.dropLast_concat]
 generalize upd (upd a9 l (.lst (jY++[n2]).dropLast)) r (.lst (kC++[n1]).dropLast)=cO at s4 m6 jK ⊢
 refine⟨_,rfl,cS,fun p aI=>?_⟩
 have iX:(upd cO p (.tup [.ty "list",.ty "tuple"])) p=some (.tup [.ty "list",.ty "tuple"]):=aQ
 have s5:bI H (upd cO p (.tup [.ty "list",.ty "tuple"])):=s4.trans (bP aI _)
 have gr:(upd cO p (.tup [.ty "list",.ty "tuple"])) l=some (.lst jY):=by rw[aA (cD m6 aI)];exact m6
 have m3:(upd cO p (.tup [.ty "list",.ty "tuple"])) r=some (.lst kC):=by rw[aA (cD jK aI)];exact jK
 generalize upd cO p (.tup [.ty "list",.ty "tuple"])=d4 at iX s5 gr m3 ⊢
 have hlen:∀(gh:List D) (us:List V),e3 gh<d'.e9→bk H gh us→jY.length+us.length≤sizeLine∧kC.length+us.length≤sizeLine:=fun gh us ay aG=>by
  have a1:=C6 gh
  have a2:=aG.length
  have kU:=C6 nX
  have qE:=Mw.length
  have pF:=Mv.length
  have e:e3 (nX++[d'])=e3 nX+d'.e9:=by rw[yx,lN,mC,Nat.add_zero]
  exact⟨le_of_lt (small (by omega)),le_of_lt (small (by omega))⟩
 cases d' with
 | int i =>
  cases z8.int_inv
  cases z7.int_inv
  refine⟨_,_,p,["list","tuple"],_,rfl,.int i,iX,Wx K,_,rfl,cU ?_⟩
  refine⟨_,rfl,_,_,_,_,rfl,.int i,HM K,_,rfl,cU ?_⟩
  refine⟨_,rfl,i,rfl,_,rfl,cU ?_⟩
  refine⟨_,rfl,_,rfl,rfl,_,rfl,mF rfl ?_⟩
  exact c4 [] [] [] _ _ d4 (by rw[mC,JQ];decide) s5 (by rw[append_nil];exact gr) (by rw[append_nil];exact m3) .nil .nil
 | str z =>
  cases z8.str_inv
  cases z7.str_inv
  refine⟨_,_,p,["list","tuple"],_,rfl,.str z,iX,Ww K,_,rfl,cU ?_⟩
  refine⟨_,rfl,_,_,_,_,rfl,.str z,oB K,_,rfl,fm ?_⟩
  refine⟨_,rfl,_,_,_,_,rfl,.str z,oB K,_,rfl,cU ?_⟩
  refine⟨_,rfl,_,rfl,rfl,_,rfl,mF rfl ?_⟩
  exact c4 [] [] [] _ _ d4 (by rw[mC,JP];decide) s5 (by rw[append_nil];exact gr) (by rw[append_nil];exact m3) .nil .nil
 | tup gh =>
  obtain⟨a,us,rfl,aX,jh⟩:=z8.qU
  obtain⟨b,vs,rfl,aa,r1⟩:=z7.qU
  have o4:=s5 _ _ aX
  have mV:=s5 _ _ aa
  have dw:e3 gh<(D.tup gh).e9:=by rw[WQ];omega
  obtain⟨dE,_⟩:=hlen gh us dw jh
  obtain⟨_,dU⟩:=hlen gh vs dw r1
  refine⟨_,_,p,["list","tuple"],_,rfl,.tup mV,iX,UU K,_,rfl,fm ?_⟩
  refine⟨_,rfl,_,_,_,_,rfl,.tup o4,Hq K,_,rfl,_,_,_,_,rfl,.tup mV,Hq K,rfl,_,rfl,mF rfl ?_⟩
  refine⟨_,rfl,_,_,_,_,rfl,.tup o4,qJ K,_,rfl,_,_,_,_,rfl,.tup mV,qJ K,rfl,_,rfl,mF rfl ?_⟩
  refine⟨_,rfl,a,us,rfl,.inr (aF.of o4),_,rfl,b,vs,rfl,.inr (aF.of mV),rfl,_,rfl,mF (by rw[jh.length,r1.length]) ?_⟩
  refine⟨_,rfl,.inl ⟨rfl,_,aR.of gr⟩,_,rfl,l,a,jY,us,rfl,rfl,gr,.inr o4,dE,?_⟩
  have uJ:(upd d4 l (.lst (jY++us))) b=some (.tup vs):=by rw[aA (cD aa az)];exact mV
  have xR:(upd d4 l (.lst (jY++us))) r=some (.lst kC):=by rw[aA qd.symm];exact m3
  refine⟨_,rfl,.inl ⟨rfl,_,aR.of xR⟩,_,rfl,r,b,kC,vs,rfl,rfl,xR,.inr uJ,dU,?_⟩
  exact c4 gh us vs _ _ _ dw ((s5.kr az).kr Fp) (by rw[aA qd,aQ]) aQ jh r1
 | lst gh =>
  obtain⟨a,us,rfl,aX,jh⟩:=z8.lst_inv
  obtain⟨b,vs,rfl,aa,r1⟩:=z7.lst_inv
  have o4:=s5 _ _ aX
  have mV:=s5 _ _ aa
  have dw:e3 gh<(D.lst gh).e9:=by rw[Dd];omega
  obtain⟨dE,_⟩:=hlen gh us dw jh
  obtain⟨_,dU⟩:=hlen gh vs dw r1
  refine⟨_,_,p,["list","tuple"],_,rfl,.lst mV,iX,VR K,_,rfl,fm ?_⟩
  refine⟨_,rfl,_,_,_,_,rfl,.lst o4,vC K,_,rfl,_,_,_,_,rfl,.lst mV,vC K,rfl,_,rfl,mF rfl ?_⟩
  refine⟨_,rfl,_,_,_,_,rfl,.lst o4,Hr K,_,rfl,_,_,_,_,rfl,.lst mV,Hr K,rfl,_,rfl,mF rfl ?_⟩
  refine⟨_,rfl,a,us,rfl,.inl (aR.of o4),_,rfl,b,vs,rfl,.inl (aR.of mV),rfl,_,rfl,mF (by rw[jh.length,r1.length]) ?_⟩
  refine⟨_,rfl,.inl ⟨rfl,_,aR.of gr⟩,_,rfl,l,a,jY,us,rfl,rfl,gr,.inl o4,dE,?_⟩
  have uJ:(upd d4 l (.lst (jY++us))) b=some (.lst vs):=by rw[aA (cD aa az)];exact mV
  have xR:(upd d4 l (.lst (jY++us))) r=some (.lst kC):=by rw[aA qd.symm];exact m3
  refine⟨_,rfl,.inl ⟨rfl,_,aR.of xR⟩,_,rfl,r,b,kC,vs,rfl,rfl,xR,.inl uJ,dU,?_⟩
  exact c4 gh us vs _ _ _ dw ((s5.kr az).kr Fp) (by rw[aA qd,aQ]) aQ jh r1
def CW:c3:=fun vs H Q _=>∃(l:Addr) (xs:List V) (log:List dg) (p:Nat),vs=[.ref l,.int (p:Nat)]∧H l=some (.lst xs)∧gj H log xs∧Q (.bV (log.any (jw p))) H
def yL:c3:=fun vs H Q _=>∃(ce ak lo pu:Addr) (cs ds:List Int) (xs:List V) (log:List dg) (kvs:List (Key × V)) (op:Int→Bool),vs=[.ref ce,.ref ak,.ref lo,.ref pu]∧H ce=some (.lst (cs.map V.int))∧H ak=some (.lst (ds.map V.int))∧cs.length=ds.length∧H lo=some (.lst xs)∧gj H log xs∧(∀ln∈log,ln.ok ds.length)∧log.length≤100000 ∧
 H pu=some (.bQ kvs)∧(∀d:Int,(dn kvs (Sum.inl d)).isSome=op d)∧∀ah,bI H ah→Q (.int (ee cs ds op log:Nat)) ah
def sI:c3:=fun vs H Q _=>∃(h ce ak lo pu st:Addr) (pl:List (Int × Addr)) (x:av) (v:V) (s:bO),vs=[.ref h,v]∧bB H h ce ak lo pu st pl x∧Rep H s.D v∧s.okIn x∧x.fits 1 ∧
 ∀lo' ah,bB ah h ce ak lo' pu st pl (x.cT s)→iP (own h ce ak pu st pl) lo lo' H ah→Q .cE ah
def y2:c3:=fun vs H Q _=>∃(h ce ak lo pu st:Addr) (pl:List (Int × Addr)) (x:av),vs=[.ref h]∧bB H h ce ak lo pu st pl x∧x.fits 1 ∧
 ∀lo' ah,bB ah h ce ak lo' pu st pl x.dW→iP (own h ce ak pu st pl) lo lo' H ah→Q .cE ah
def yD:c3:=fun vs H Q _=>∃(h ce ak lo pu st:Addr) (pl:List (Int × Addr)) (x:av) (p:Nat),vs=[.ref h,.int (p:Nat)]∧bB H h ce ak lo pu st pl x∧p<x.aB.length∧x.fits 1 ∧
 ∀lo' ah,bB ah h ce ak lo' pu st pl (x.ea p)→iP (own h ce ak pu st pl) lo lo' H ah→Q .cE ah
theorem Jq:dk ["_law_lines","_law_page","_law_one"] um (bF tw):=dM
theorem VK (F:da K "_law_put_again" "_law_put_again" tw f fd):aU P w K ai base bf 1 f fd um CW:=by
 refine F.ok Jq (fun vs H Q E h=>?_) (fun b4 A outer s H vs Q E aC h=>?_)
 ·obtain⟨l,xs,log,p,rfl,_⟩:=h
  rfl
 obtain⟨l,xs,log,p,rfl,az,fY,q⟩:=h
 refine⟨_,(bh (hA PassesOwn.never rfl (ks (af 0)) (fj (i:=2) Jq.bl rfl (Or.inl rfl)) (aZ (b_ (oD (cn dv (bA bZ (af 2) aW (fun _ _=>rfl)) bw (bY _)) (cn dv (bA bZ (af 2) aW (fun _ _=>rfl)) (af 1) (bY _))) (aZ (cF fF)) cZ))) (aZ (cF fF))),?_⟩
 refine⟨_,rfl,l,rfl,⟨xs,aR.of az⟩,nx (K:=K) (a:=l) (xs:=xs) (fun i σ au=>∃o:Option V,σ=[some (.ref l),some (.int (p:Nat)),o]∧au=H∧(log.take i).any (jw p)=false)
  ⟨none,rfl,rfl,rfl⟩ (fun i σ au _ ⟨_,_,e,_⟩=>by rw[e];exact aR.of az) ?_ ?_⟩
 ·rintro i x σ au aL ⟨o,rfl,rfl,aS⟩
  obtain⟨ln,iR,jb⟩:=fY.get aL
  have iE:(log.take (i+1)).any (jw p)=jw p ln:=by
   rw[take_add_one,any_append,aS,iR]
   simp
  cases ln with
  | fin d =>
   obtain⟨c,rfl,aj⟩:=jb
   refine⟨_,rfl,c,_,_,_,rfl,rfl,aF.of aj,rfl,rfl,_,rfl,bx zC ?_⟩
   refine cU ?_
   exact⟨_,rfl,rfl,iE⟩
  | put d ec fB n =>
   obtain⟨c,rfl,aj⟩:=jb
   refine⟨_,rfl,c,_,_,_,rfl,rfl,aF.of aj,rfl,rfl,_,rfl,dS rfl ?_⟩
   refine⟨_,rfl,c,_,_,_,rfl,rfl,aF.of aj,rfl,_,rfl,rfl,_,rfl,gk (fun cL=>?_) (fun cL=>?_)⟩
   ·have aJ:V.int (ec:Nat)=V.int (p:Nat):=of_decide_eq_true cL
    injection aJ with aJ
    have aN:ec=p:=by omega
    have b2:log.any (jw p)=true:=any_eq_true.mpr ⟨_,mem_of_getElem? iR,decide_eq_true aN⟩
    rw[b2]at q
    exact q
   ·refine⟨_,rfl,rfl,?_⟩
    rw[iE]
    refine decide_eq_false fun z=>cL (decide_eq_true (by rw[z]))
 ·rintro σ au ⟨o,rfl,rfl,aS⟩
  rw[←fY.1,take_length]at aS
  rw[aS]at q
  exact q
theorem yN:dk ["_law_pages","_law_desk","_law_log","_law_puts","_law_k","_law_line","_law_page"] p3 (bF sR):=dM
theorem UM {cs ds:List Int}{op:Int→Bool}{log:List dg}{i:Nat}{ln:dg}(h:log[i]?=some ln):log.drop i=ln::log.drop (i+1):=by
 obtain⟨aL,e⟩:=List.getElem?_eq_some_iff.mp h
 rw[List.drop_eq_getElem_cons aL,e]
theorem UG {GR:Addr}{Sy:FuncData}(F:da K "_law_needed" "_law_needed" sR f fd) (B:ew ai) (als:aU P w K ai base bf 1 GR Sy um CW) (ak5:Binds K Sy um []) (akJ:keepIn K (.ref GR)=true) (akx:ai "_law_put_again"=some (.ref GR)) :
  aU P w K ai base bf 2 f fd p3 yL:=by
 refine F.ok yN (fun vs H Q E h=>?_) (fun b4 A outer s H vs Q E aC h=>?_)
 ·obtain⟨ce,ak,lo,pu,cs,ds,xs,log,kvs,op,rfl,_⟩:=h
  rfl
 obtain⟨ce,ak,lo,pu,cs,ds,xs,log,kvs,op,rfl,aj,hd,kG,az,fY,bD,qq,aI,mS,q⟩:=h
 have a7:=gT aC
 have kM:=fY.1
 refine⟨_,(bh (hA PassesOwn.never rfl (qQ rfl B.l0 (aq (dP e8 rfl B.len PySem.boot_len (aq (af 2) aK)) aK)) (fj (i:=4) yN.bl rfl (Or.inl rfl)) (bh (dm (i:=5) yN.bl rfl (Or.inl rfl) (bA eH (af 2) (af 4) (fun _ _=>rfl))) (aZ (b_ (cn dv (bA bZ (af 5) aW (fun _ _=>rfl)) bw (bY _)) (bh (b_ (we (Du a7 (bA bZ (af 5) aW (fun _ _=>rfl)) (af 3))) (aZ (cF (af 4))) cZ) (bh (dm (i:=6) yN.bl rfl (Or.inl rfl) (bA bZ (af 5) aW (fun _ _=>rfl))) (aZ (b_ (oD (hM (gy (dt als (b9 aC) rfl akx akJ ak5 .nil cP (aq (nv pP (af 2) (ny (c0 gJ (af 4) aW)) nA) (aq (af 6) aK))))) (cn i5 (bA eH (af 0) (af 6) (fun _ _=>rfl)) (bA eH (af 1) (af 6) (fun _ _=>rfl)) (bY _))) (aZ (cF (af 4))) cZ)))) cZ)))) (aZ (cF (dP e8 rfl B.len PySem.boot_len (aq (af 2) aK))))),?_⟩
 refine⟨_,rfl,lo,xs,rfl,.inl (aR.of az),_,rfl,by omega,by omega,sH (fun i σ au=>∃fR fa jM:Option V,σ=[some (.ref ce),some (.ref ak),some (.ref lo),some (.ref pu),fR,fa,jM]∧bI H au∧ee cs ds op log=i+ee cs ds op (log.drop i))
  ⟨none,none,none,rfl,bI.refl _,by rw[drop_zero,zero_add]⟩ ?_ ?_⟩
 ·rintro i σ au aL ⟨fR,fa,jM,rfl,s2,aS⟩
  have e0:(0:Int)+(i:Int)=((i:Nat):Int):=by omega
  rw[e0]
  have jF:i<xs.length:=by omega
  obtain⟨ln,iR,jb⟩:=fY.get (getElem?_eq_getElem jF)
  have nG:=jb.mono s2.et
  have ja:=UM (cs:=cs) (ds:=ds) (op:=op) iR
  rw[ja]at aS
  refine⟨_,rfl,_,rfl,lo,_,_,_,rfl,rfl,aR.of (s2 _ _ az),k4 (getElem?_eq_getElem jF),?_⟩
  generalize xs[i]=v at nG ⊢
  cases ln with
  | fin d =>
   obtain⟨c,rfl,br⟩:=nG
   refine⟨_,rfl,c,_,_,_,rfl,rfl,aF.of br,rfl,rfl,_,rfl,bx zC ?_⟩
   refine⟨_,_,_,rfl,s2,?_⟩
   rw[aS]
   show i+(ee cs ds op (log.drop (i+1))+1)=_
   omega
  | put d p o n =>
   obtain⟨c,rfl,br⟩:=nG
   have ahU:p<ds.length:=bD _ (mem_of_getElem? iR)
   refine⟨_,rfl,c,_,_,_,rfl,rfl,aF.of br,rfl,rfl,_,rfl,dS rfl ?_⟩
   refine⟨_,rfl,c,_,_,_,rfl,rfl,aF.of br,rfl,_,rfl,pu,_,rfl,e2.k (k:=Sum.inl d) (s2 _ _ aI),_,rfl,?_⟩
   rw[mS d]
   have jA:¬(op d=true∨((log.drop (i+1)).any (jw p)=false∧cs[p]?≠ds[p]?))→ee cs ds op log=(i+1)+ee cs ds op (log.drop (i+1)):=fun z=>by
    rw[aS]
    show i+(if _ then _ else _)=_
    rw[if_neg z]
    omega
   have stop:(op d=true∨((log.drop (i+1)).any (jw p)=false∧cs[p]?≠ds[p]?))→ee cs ds op log=i:=fun z=>by
    rw[aS]
    show i+(if _ then _ else _)=_
    rw[if_pos z]
    rfl
   refine gk (fun cL=>?_) (fun cL=>?_)
   ·have aV:=q au s2
    rw[stop (.inl cL)]at aV
    exact⟨_,rfl,aV⟩
   refine⟨_,rfl,c,_,_,_,rfl,rfl,aF.of br,rfl,?_⟩
   refine⟨_,rfl,_,rfl,_,_,rfl,rfl,_,rfl,lo,_,rfl,aR.of (s2 _ _ az),fun u nN=>?_⟩
   have aJ:((i:Nat):Int)+1=((i+1:Nat):Int):=by omega
   rw[aJ,s7]at *
   have s3:=bP nN (.lst (xs.drop (i+1)))
   have lE:(upd au u (.lst (xs.drop (i+1)))) u=some (.lst (xs.drop (i+1))):=aQ
   generalize upd au u (.lst (xs.drop (i+1)))=a9 at s3 lE ⊢
   have gw:=s2.trans s3
   obtain⟨dE,a1,e7⟩:=ku (ns:=cs) (k:=((p:Nat):Int)) (by omega) (by omega)
   obtain⟨dU,a2,fO⟩:=ku (ns:=ds) (k:=((p:Nat):Int)) (by omega) (by omega)
   rw[Int.toNat_natCast]at a1 a2
   refine⟨_,rfl,u,_,log.drop (i+1),p,rfl,lE,(fY.mono fun a x h=>h.mono gw.et).drop _,_,rfl,?_⟩
   cases Lq:(log.drop (i+1)).any (jw p) with
   | true =>
    refine cU (cU ?_)
    exact⟨_,_,_,rfl,gw,jA fun z=>z.elim (fun y=>cL y) fun y=>by rw[Lq]at y;cases y.1⟩
   | false =>
    refine fm ?_
    refine⟨_,rfl,_,rfl,ce,_,_,_,rfl,rfl,aR.of (gw _ _ aj),e7,_,rfl,_,rfl,ak,_,_,_,rfl,rfl,aR.of (gw _ _ hd),fO,rfl,_,rfl,?_⟩
    by_cases e:dE=dU
    ·rw[e]
     have dY:decide (V.int dU=V.int dU)=true:=decide_eq_true rfl
     rw[dY]
     refine cU ?_
     exact⟨_,_,_,rfl,gw,jA fun z=>z.elim (fun y=>cL y) fun y=>y.2 (by rw[a1,a2,e])⟩
    ·have dY:decide (V.int dE=V.int dU)=false:=decide_eq_false fun y=>e (by injection y)
     rw[dY]
     refine fm ?_
     have aV:=q a9 gw
     rw[stop (.inr ⟨Lq,by rw[a1,a2];exact fun y=>e (Option.some.inj y)⟩)]at aV
     exact⟨_,rfl,aV⟩
 ·rintro σ au ⟨fR,fa,jM,rfl,s2,aS⟩
  have aN:(xs.length:Int).toNat=log.length:=by omega
  rw[aN,List.drop_length]at aS
  have aV:=q au s2
  rw[aS]at aV
  refine⟨_,rfl,lo,xs,rfl,.inl (aR.of (s2 _ _ az)),?_⟩
  rw[←kM]
  exact aV
theorem Vd:dk la la (bF sQ):=dM
theorem zJ:¬(V.str "cut"=V.str "line"):=by decide +kernel
theorem zB:¬(V.str "page"=V.str "line"):=by decide +kernel
theorem DG:¬(V.str "page"=V.str "cut"):=by decide +kernel
theorem UE (F:da K "_law_stroke_in" "_law_stroke_in" sQ f fd) (B:ew ai):aU P w K ai base bf 1 f fd la sI:=by
 refine F.ok Vd (fun vs H Q E h=>?_) (fun b4 A outer s H vs Q E aC h=>?_)
 ·obtain⟨h,ce,ak,lo,pu,st,pl,x,v,s,rfl,_⟩:=h
  rfl
 obtain⟨h,ce,ak,lo,pu,st,pl,x,v,c2,rfl,bJ,bp,bD,⟨dE,dU,u2⟩,q⟩:=h
 have a7:=gT aC
 refine⟨_,(bh (dz (jx plainAttrs_list PySem.F.slot_list_append PySem.F.type_list_append jo (ek a7 (af 0) bw (fun _ _=>rfl)) (aq (af 1) aK))) (aZ (b_ (cn dv (bA bZ (af 1) aW (fun _ _=>rfl)) bw (bY _)) (aZ (lO a7 (af 0) bw (c0 tB (ek a7 (af 0) bw (fun _ _=>rfl)) (fl (aq (bA bZ (af 1) aW (fun _ _=>rfl)) aK))) rfl)) (aZ (b_ (cn dv (bA bZ (af 1) aW (fun _ _=>rfl)) bw (bY _)) (aZ (lO a7 (af 0) bw (nv pP (ek a7 (af 0) bw (fun _ _=>rfl)) (ny (bA bZ (af 1) aW (fun _ _=>rfl))) nA) rfl)) (aZ (oH (bA bZ (af 1) aW (fun _ _=>rfl)) (tx (ek a7 (af 0) bw (fun _ _=>rfl)) (bA bZ (af 1) aW (fun _ _=>rfl)) set_list)))))))),?_⟩
 obtain⟨zs,aE,rs⟩:=bJ.fK
 have jO:=rs.length
 rw[length_map]at jO
 refine⟨_,rfl,h,_,rfl,bJ.Ja,.inl ⟨rfl,_,aR.of aE⟩,_,rfl,st,zs,v,rfl,rfl,aE,ia (by omega),?_⟩
 have bq:=bJ.KS aE rs bp
 have kt:el H (upd H st (.lst (zs++[v]))):=qR aE
 have uy:=Rep.keep kt _ _ (bO.gA c2) bp
 have bW:gq (own h ce ak pu st pl) H (upd H st (.lst (zs++[v]))):=ju (bB.ms ..)
 generalize upd H st (.lst (zs++[v]))=au at bq uy bW ⊢
 cases c2 with
 | line ln =>
  obtain⟨c,b6,ck,rfl,aj,a4,bH⟩:=er uy
  cases a4.str_inv
  refine⟨_,rfl,c,_,_,_,rfl,rfl,aF.of aj,rfl,rfl,_,rfl,dS rfl ?_⟩
  obtain⟨xs,eN,jg⟩:=bq.az
  have iA:xs.length=x.log.length:=jg.1.symm
  refine⟨_,rfl,h,_,rfl,bq.wK,_,rfl,c,_,_,_,rfl,rfl,aF.of aj,rfl,cS,fun jJ ay=>?_⟩
  have s3:=bP ay (.lst [ck])
  have b2:(upd au jJ (.lst [ck])) jJ=some (.lst [ck]):=aQ
  generalize upd au jJ (.lst [ck])=a9 at s3 b2 ⊢
  have bX:=bq.same s3
  refine⟨lo,jJ,_,_,rfl,rfl,s3 _ _ eN,b2,le_of_lt (ia (by rw[length_singleton];omega)),fun hS aG=>?_⟩
  have s4:=bP aG (.lst (xs++[ck]))
  have cj:(upd a9 hS (.lst (xs++[ck]))) hS=some (.lst (xs++[ck])):=aQ
  have dC:=bX.there aG
  generalize upd a9 hS (.lst (xs++[ck]))=cO at s4 cj ⊢
  have c9:=bX.same s4
  have hH:=s3.trans s4
  have Hf:gj cO (x.log++[ln]) (xs++[ck]):=gU.snoc (jg.mono fun a y q=>q.mono hH.et) ((kB.zE bH).mono hH.et)
  refine⟨_,rfl,h,_,rfl,c9.K7 _,?_⟩
  exact q hS _ (c9.DS cj Hf dC) (.fresh (bW.trans (bI.dQ s3)) aG (bW.trans ((bI.dQ hH).trans (ju (bB.r2 ..)))))
 | cut k =>
  obtain⟨c,b6,ck,rfl,aj,a4,bH⟩:=er uy
  cases a4.str_inv
  cases bH.int_inv
  refine⟨_,rfl,c,_,_,_,rfl,rfl,aF.of aj,rfl,rfl,_,rfl,bx zJ ?_⟩
  refine⟨_,rfl,c,_,_,_,rfl,rfl,aF.of aj,rfl,rfl,_,rfl,dS rfl ?_⟩
  obtain⟨xs,eN,jg⟩:=bq.az
  refine⟨_,rfl,h,_,rfl,bq.wK,_,rfl,c,_,_,_,rfl,rfl,aF.of aj,rfl,_,rfl,lo,xs,rfl,aR.of eN,fun hS aG=>?_⟩
  rw[s7]at *
  have s4:=bP aG (.lst (xs.drop k))
  have cj:(upd au hS (.lst (xs.drop k))) hS=some (.lst (xs.drop k)):=aQ
  have dC:=bq.there aG
  generalize upd au hS (.lst (xs.drop k))=cO at s4 cj ⊢
  have c9:=bq.same s4
  have Hf:gj cO (x.log.drop k) (xs.drop k):=(jg.mono fun a y q=>q.mono s4.et).drop k
  refine⟨_,rfl,h,_,rfl,c9.K7 _,?_⟩
  exact q hS _ (c9.DS cj Hf dC) (.fresh bW aG (bW.trans ((bI.dQ s4).trans (ju (bB.r2 ..)))))
 | eO p n =>
  obtain⟨c,b6,ck,j8,rfl,aj,a4,bH,hq⟩:=yP uy
  cases a4.str_inv
  cases bH.int_inv
  cases hq.int_inv
  refine⟨_,rfl,c,_,_,_,rfl,rfl,aF.of aj,rfl,rfl,_,rfl,bx zB ?_⟩
  refine⟨_,rfl,c,_,_,_,rfl,rfl,aF.of aj,rfl,rfl,_,rfl,bx DG ?_⟩
  have aI:p<x.aB.length:=bD
  refine⟨_,rfl,c,_,_,_,rfl,rfl,aF.of aj,rfl,_,rfl,h,_,rfl,bq.C9,_,rfl,c,_,_,_,rfl,rfl,aF.of aj,rfl,ce,_,_,p,rfl,rfl,bq.aj,sX (by rw[length_map];exact bJ.cd ▸ aI),?_⟩
  rw[qN]
  exact q lo _ (bq.setC (by rw[length_set];exact bJ.cd)) (bW.trans (ju (bB.u_ ..))).l
def y0:c3:=fun vs H Q _=>∃(h ce ak lo pu st:Addr) (pl:List (Int × Addr)) (x:av) (d:Int) (p:Nat) (n:Int),vs=[.ref h,.int d,.int (p:Nat),.int n]∧bB H h ce ak lo pu st pl x∧p<x.aB.length∧x.fits 1 ∧
 ∀lo' ah,bB ah h ce ak lo' pu st pl (x.putIn d p n)→iP (own h ce ak pu st pl) lo lo' H ah→Q .cE ah
def y4:c3:=fun vs H Q _=>∃(h ce ak lo pu st:Addr) (pl:List (Int × Addr)) (x:av),vs=[.ref pu]∧d_ H h ce ak lo pu st pl x∧x.aT.length≤200∧∀ah,bI H ah→Q (.int x.bound) ah
def CL:c3:=fun vs H Q _=>∃(h ce ak lo pu st:Addr) (pl:List (Int × Addr)) (x:av) (p:Nat),vs=[.ref pu,.int (p:Nat)]∧d_ H h ce ak lo pu st pl x∧∀ah,bI H ah→Q (.int ((x.d5 p).getD (-1))) ah
def Dl:c3:=fun vs H Q _=>∃(h ce ak lo pu st:Addr) (pl:List (Int × Addr)) (x:av) (m:Int),vs=[.ref h,.int m]∧bB H h ce ak lo pu st pl x∧x.aT.length≤200∧x.aB.length≤1000∧x.fits (x.aB.length+1) ∧
 ∀lo' ah,bB ah h ce ak lo' pu st pl (x.full m).1→iP (own h ce ak pu st pl) lo lo' H ah→Q (.bV (x.full m).2) ah
theorem Jo:dk ["_law_house","_law_many"] p2 (bF tl):=dM
theorem VD {jl:Addr}{kR:FuncData}{fc:Addr}{f9:FuncData}(F:da K "_law_cut_in" "_law_cut_in" tl f fd) (B:ew ai) (pI:aU P w K ai base bf 2 jl kR p3 yL) (pC:Binds K kR p3 []) (xV:keepIn K (.ref jl)=true) (mN:ai "_law_needed"=some (.ref jl)) (iK:aU P w K ai base bf 1 fc f9 la sI) (iF:Binds K f9 la []) (m7:keepIn K (.ref fc)=true) (iz:ai "_law_stroke_in"=some (.ref fc)):aU P w K ai base bf 3 f fd p2 y2:=by
 refine F.ok Jo (fun vs H Q E h=>?_) (fun b4 A outer s H vs Q E aC h=>?_)
 ·obtain⟨h,ce,ak,lo,pu,st,pl,x,rfl,_⟩:=h
  rfl
 obtain⟨h,ce,ak,lo,pu,st,pl,x,rfl,bJ,z,q⟩:=h
 have a7:=gT aC
 refine⟨_,(bh (dm (i:=1) Jo.bl rfl (Or.inl rfl) (dt pI (b9 aC) rfl mN xV pC .nil cP (aq (ek a7 (af 0) bw (fun _ _=>rfl)) (aq (ek a7 (af 0) bw (fun _ _=>rfl)) (aq (ek a7 (af 0) bw (fun _ _=>rfl)) (aq (ek a7 (af 0) bw (fun _ _=>rfl)) aK)))))) (aZ (b_ (cn pX (af 1) aW (bY _)) (aZ (dz (dt iK (b9 aC) rfl iz m7 iF .nil cP (aq (af 0) (aq (gz (aq bw (aq (af 1) aK))) aK))))) cZ))),?_⟩
 obtain⟨xs,eN,jg⟩:=bJ.az
 refine⟨_,rfl,h,_,rfl,bJ.C9,_,rfl,h,_,rfl,bJ.k6,_,rfl,h,_,rfl,bJ.wK,_,rfl,h,_,rfl,bJ.kv,?_⟩
 refine⟨ce,ak,lo,pu,_,_,xs,x.log,_,x.isOpen,rfl,bJ.aj,bJ.hd,bJ.cd,eN,jg,z.2.2,by have:=z.2.1;omega,bJ.aI,bJ.isOpen,fun au s2=>?_⟩
 have bq:=bJ.same s2
 have fC:x.dW=if 0<ee x.b0 x.aB x.isOpen x.log then x.cT (.cut (ee x.b0 x.aB x.isOpen x.log)) else x:=rfl
 generalize ee x.b0 x.aB x.isOpen x.log=n at fC ⊢
 refine⟨_,rfl,_,_,rfl,rfl,_,rfl,gk (fun cL=>?_) (fun cL=>?_)⟩
 ·have dV:0<n:=by have ep:(0:Int)<(n:Nat):=of_decide_eq_true cL;omega
  rw[if_pos dV]at fC
  refine⟨_,rfl,_,rfl,cS,fun t a6=>?_⟩
  have s3:=bP a6 (.tup [.str "cut",.int (n:Nat)])
  refine⟨h,ce,ak,lo,pu,st,pl,x,.ref t,.cut n,rfl,bq.same s3,.gS aQ (.cons .ofStr (.cons .ofInt .nil)),True.intro,z,fun lo' ah bX dB=>?_⟩
  rw[←fC]at bX
  exact q lo' ah bX ((bI.dQ (s2.trans s3)).l.trans dB)
 ·have dV:¬0<n:=fun y=>cL (decide_eq_true (by omega))
  rw[if_neg dV]at fC
  rw[←fC]at bq
  exact q lo au bq ((bI.dQ s2).l)
theorem Ij:dk ["_law_house","_law_page","_law_number"] p1 (bF sL):=dM
theorem T9 {fc:Addr}{f9:FuncData}(F:da K "_law_carry_in" "_law_carry_in" sL f fd) (B:ew ai) (iK:aU P w K ai base bf 1 fc f9 la sI) (iF:Binds K f9 la []) (m7:keepIn K (.ref fc)=true) (iz:ai "_law_stroke_in"=some (.ref fc)):aU P w K ai base bf 2 f fd p1 yD:=by
 refine F.ok Ij (fun vs H Q E h=>?_) (fun b4 A outer s H vs Q E aC h=>?_)
 ·obtain⟨h,ce,ak,lo,pu,st,pl,x,p,rfl,_⟩:=h
  rfl
 obtain⟨h,ce,ak,lo,pu,st,pl,x,p,rfl,bJ,aI,z,q⟩:=h
 have a7:=gT aC
 refine⟨_,(bh (dm (i:=2) Ij.bl rfl (Or.inl rfl) (bA eH (ek a7 (af 0) bw (fun _ _=>rfl)) (af 1) (fun _ _=>rfl))) (aZ (b_ (cn i5 (bA eH (ek a7 (af 0) bw (fun _ _=>rfl)) (af 1) (fun _ _=>rfl)) (af 2) (bY _)) (aZ (dz (dt iK (b9 aC) rfl iz m7 iF .nil cP (aq (af 0) (aq (gz (aq bw (aq (af 1) (aq (af 2) aK)))) aK))))) cZ))),?_⟩
 obtain⟨c,cL,dV⟩:=bJ.atC aI
 obtain⟨d,fs,eF⟩:=bJ.qp aI
 have fC:x.ea p=if x.b0[p]?=x.aB[p]? then x else x.cT (.eO p (x.aB.getD p 0)):=rfl
 rw[getD_eq_getElem?_getD,cL,fs,Option.getD_some]at fC
 refine⟨_,rfl,h,_,rfl,bJ.k6,_,rfl,ak,_,_,_,rfl,rfl,aR.of bJ.hd,eF,?_⟩
 refine⟨_,rfl,h,_,rfl,bJ.C9,_,rfl,ce,_,_,_,rfl,rfl,aR.of bJ.aj,dV,_,rfl,rfl,_,rfl,?_⟩
 by_cases e:c=d
 ·have dY:decide (V.int c=V.int d)=true:=decide_eq_true (by rw[e])
  rw[dY]
  rw[if_pos (by rw[e])]at fC
  refine cU ?_
  rw[←fC]at bJ
  exact q lo H bJ (gq.refl _ _).l
 ·have dY:decide (V.int c=V.int d)=false:=decide_eq_false fun y=>e (by injection y)
  rw[dY]
  rw[if_neg (fun y=>e (Option.some.inj y))]at fC
  refine fm ?_
  refine⟨_,rfl,_,rfl,_,rfl,cS,fun t a6=>?_⟩
  have s3:=bP a6 (.tup [.str "page",.int (p:Nat),.int d])
  refine⟨h,ce,ak,lo,pu,st,pl,x,.ref t,.eO p d,rfl,bJ.same s3,.gS aQ (.cons .ofStr (.cons .ofInt (.cons .ofInt .nil))),aI,z,fun lo' ah bX dB=>?_⟩
  rw[←fC]at bX
  exact q lo' ah bX ((bI.dQ s3).l.trans dB)
theorem Jl:dk ["_law_house","_law_dealing","_law_page","_law_number","_law_old"] p0 (bF ta):=dM
theorem Vw {fc:Addr}{f9:FuncData}(F:da K "_law_put_in" "_law_put_in" ta f fd) (B:ew ai) (iK:aU P w K ai base bf 1 fc f9 la sI) (iF:Binds K f9 la []) (m7:keepIn K (.ref fc)=true) (iz:ai "_law_stroke_in"=some (.ref fc)):aU P w K ai base bf 2 f fd p0 y0:=by
 refine F.ok Jl (fun vs H Q E h=>?_) (fun b4 A outer s H vs Q E aC h=>?_)
 ·obtain⟨h,ce,ak,lo,pu,st,pl,x,d,p,n,rfl,_⟩:=h
  rfl
 obtain⟨h,ce,ak,lo,pu,st,pl,x,d,p,n,rfl,bJ,aI,z,q⟩:=h
 have a7:=gT aC
 refine⟨_,(bh (dm (i:=4) Jl.bl rfl (Or.inl rfl) (bA eH (ek a7 (af 0) bw (fun _ _=>rfl)) (af 2) (fun _ _=>rfl))) (bh (dz (dt iK (b9 aC) rfl iz m7 iF .nil cP (aq (af 0) (aq (gz (aq bw (aq (gz (aq bw (aq (af 1) (aq (af 2) (aq (af 4) (aq (af 3) aK)))))) aK))) aK)))) (aZ (oH (af 3) (tx (ek a7 (af 0) bw (fun _ _=>rfl)) (af 2) set_list))))),?_⟩
 obtain⟨o,fs,eF⟩:=bJ.qp aI
 have ht:x.aB.getD p 0=o:=by rw[getD_eq_getElem?_getD,fs];rfl
 have fC:x.putIn d p n={ x.cT (.line (.put d p (x.aB.getD p 0) n)) with aB:=x.aB.set p n }:=rfl
 rw[ht]at fC
 refine⟨_,rfl,h,_,rfl,bJ.k6,_,rfl,ak,_,_,_,rfl,rfl,aR.of bJ.hd,eF,?_⟩
 refine⟨_,rfl,_,rfl,_,rfl,_,rfl,_,rfl,cS,fun t1 rD=>⟨cS,fun en rC=>?_⟩⟩
 have s1:=bP rD (.tup [.str "put",.int d,.int (p:Nat),.int o,.int n])
 have aJ:(upd H t1 (.tup [.str "put",.int d,.int (p:Nat),.int o,.int n])) t1=some (.tup [.str "put",.int d,.int (p:Nat),.int o,.int n]):=aQ
 have wH:(upd H t1 (.tup [.str "put",.int d,.int (p:Nat),.int o,.int n])) en=none:=rC
 have s2:=bP wH (.tup [.str "line",.ref t1])
 refine⟨h,ce,ak,lo,pu,st,pl,x,.ref en,.line (.put d p o n),rfl,bJ.same (s1.trans s2),.gS aQ (.cons .ofStr (.cons (.gS (s2 _ _ aJ) (.cons .ofStr (.cons .ofInt (.cons .ofInt (.cons .ofInt (.cons .ofInt .nil)))))) .nil)),aI,z,fun lo' ah bX dB=>?_⟩
 have ld:(x.cT (.line (.put d p o n))).aB=x.aB:=rfl
 refine⟨_,rfl,_,rfl,h,_,rfl,bX.k6,_,rfl,ak,_,_,p,rfl,rfl,bX.hd,sX (by rw[length_map];exact aI),?_⟩
 rw[qN]
 have c9:=bX.q7 (c:=x.aB.set p n) (by rw[length_set];rfl)
 exact q lo' _ (by rw[fC];exact c9) ((bI.dQ (s1.trans s2)).l.trans (dB.trans (ju (bB.BF ..)).l))
structure zZ (ai:Str→Option Value):Prop where
 sum:ai "sum"=none
 rev:ai "reversed"=none
theorem aeO:bootBuiltins "sum"=some (.builtin "sum"):=by decide +kernel
theorem Wc:dk oS oS (bF ts):=dM
theorem VH (F:da K "_law_bound" "_law_bound" ts f fd) (B:ew ai) (nk:zZ ai):aU P w K ai base bf 1 f fd oS y4:=by
 refine F.ok Wc (fun vs H Q E h=>?_) (fun b4 A outer s H vs Q E aC h=>?_)
 ·obtain⟨h,ce,ak,lo,pu,st,pl,x,rfl,_⟩:=h
  rfl
 obtain⟨h,ce,ak,lo,pu,st,pl,x,rfl,bJ,Gh,q⟩:=h
 have a7:=gT aC
 refine⟨_,(aZ (cF (dP (V1 aC.hd) rfl nk.sum aeO (aq (y9 [0] ["_law_dealing","_law_puts"] (k8.one (fv:="_law_puts") (j:=0) rfl (by decide +kernel) (by decide +kernel) rfl (by decide +kernel) rfl rfl (by decide +kernel) rfl rfl rfl) rfl (ks (h_ (Cp aC.hd) rfl B.lst ic (aq (af 0) aK))) (fun C s1 H1 b5=>(c0 gJ (dP (Tu (K:=K) rfl) rfl B.len PySem.boot_len (aq (ek a7 (af 1) (af 0) (fun _ _=>rfl)) aK)) aW))) aK)))),?_⟩
 have qx:=bJ.lW
 refine⟨_,rfl,pu,_,rfl,bJ.aI,fun fN ay=>⟨fN,rfl,⟨_,aR.of aQ⟩,fun acc e1=>?_⟩⟩
 rw[C1]at *
 have s1:=bP ay (.lst ((pl.map (·.1)).map V.int))
 have aJ:(upd H fN (.lst ((pl.map (·.1)).map V.int))) fN=some (.lst ((pl.map (·.1)).map V.int)):=aQ
 have bq:=bJ.same s1
 have DO:(upd H fN (.lst ((pl.map (·.1)).map V.int))) acc=none:=e1
 generalize upd H fN (.lst ((pl.map (·.1)).map V.int))=H1 at s1 aJ bq DO ⊢
 refine U6 (K:=K) (zs:=(x.aT.map fun z=>(z.2.length:Int)+1).map V.int) aJ DO (by rw[length_map,length_map];omega) (by rw[length_map,length_map,length_map,length_map];exact qx.symm) (fun i y z a9 k cg hz s3 a8=>?_) ?_
 ·have aL:i<pl.length:=by
   have:=(List.getElem?_eq_some_iff.mp cg).1
   rw[length_map,length_map]at this
   exact this
  have ho:pl[i]?=some pl[i]:=getElem?_eq_getElem aL
  obtain⟨w,ys,fH,eU,iT,rX,xO⟩:=(bq.same s3).at_ ho
  have eB:y=.int (pl[i]).1:=by
   rw[getElem?_map,getElem?_map,ho]at cg
   exact (Option.some.inj cg).symm
  have gu:z=.int ((w.2.length:Int)+1):=by
   rw[getElem?_map,getElem?_map,fH]at hz
   exact (Option.some.inj hz).symm
  subst eB gu
  have gg:=rX.length
  rw[length_map]at gg
  refine⟨_,rfl,_,rfl,pu,_,rfl,xO,_,ys,rfl,.inl (aR.of iT),_,_,rfl,rfl,?_⟩
  rw[gg]
  exact a8
 ·exact⟨acc,_,rfl,aR.of aQ,q _ (s1.trans (bP DO _))⟩
theorem CX:dk ["_law_puts","_law_page","_law_dealing","_law_pair"] uk (bF s_):=dM
theorem Vv (F:da K "_law_taker" "_law_taker" s_ f fd) (B:ew ai):aU P w K ai base bf 1 f fd uk CL:=by
 refine F.ok CX (fun vs H Q E h=>?_) (fun b4 A outer s H vs Q E aC h=>?_)
 ·obtain⟨h,ce,ak,lo,pu,st,pl,x,p,rfl,_⟩:=h
  rfl
 obtain⟨h,ce,ak,lo,pu,st,pl,x,p,rfl,bJ,q⟩:=h
 have a7:=gT aC
 refine⟨_,(bh (hA PassesOwn.never rfl (ks (h_ (Cp aC.hd) rfl B.lst ic (aq (af 0) aK))) (fj (i:=2) CX.bl rfl (Or.inl rfl)) (aZ (hA PassesOwn.never rfl (ks (ek a7 (af 0) (af 2) (fun _ _=>rfl))) (fj (i:=3) CX.bl rfl (Or.inl rfl)) (aZ (b_ (cn dv (bA bZ (af 3) aW (fun _ _=>rfl)) (af 1) (bY _)) (aZ (cF (af 2))) cZ))))) (aZ (cF (tQ s8 aW)))),?_⟩
 have qx:=bJ.lW
 refine⟨_,rfl,pu,_,rfl,bJ.aI,fun fN ay=>⟨fN,rfl,⟨_,aR.of aQ⟩,?_⟩⟩
 rw[C1]at *
 have s1:=bP ay (.lst ((pl.map (·.1)).map V.int))
 have aJ:(upd H fN (.lst ((pl.map (·.1)).map V.int))) fN=some (.lst ((pl.map (·.1)).map V.int)):=aQ
 have bq:=bJ.same s1
 generalize upd H fN (.lst ((pl.map (·.1)).map V.int))=H1 at s1 aJ bq ⊢
 have bN:=q H1 s1
 refine nx (K:=K) (a:=fN) (xs:=(pl.map (·.1)).map V.int) (fun i σ au=>∃bW dB:Option V,σ=[some (.ref pu),some (.int (p:Nat)),bW,dB]∧H1=au∧(x.aT.take i).find? (fun z=>z.2.any fun y=>y.1 == p)=none)
  ⟨none,none,rfl,rfl,rfl⟩ (fun i σ au _ ⟨_,_,_,e,_⟩=>by rw[←e];exact aR.of aJ) ?_ ?_
 ·rintro i v σ au aL ⟨bW,dB,rfl,rfl,aS⟩
  have rH:i<pl.length:=by
   have:=(List.getElem?_eq_some_iff.mp aL).1
   rw[length_map,length_map]at this
   exact this
  have ho:pl[i]?=some pl[i]:=getElem?_eq_getElem rH
  obtain⟨w,ys,fH,eU,iT,rX,xO⟩:=bq.at_ ho
  have eB:v=.int w.1:=by
   rw[getElem?_map,getElem?_map,ho]at aL
   rw[eU]
   exact (Option.some.inj aL).symm
  subst eB
  rw[←eU]at xO
  generalize (pl[i]).2=kN at iT xO
  refine⟨_,rfl,_,rfl,pu,_,rfl,xO,kN,rfl,⟨ys,aR.of iT⟩,?_⟩
  refine nx (K:=K) (a:=kN) (xs:=ys) (fun j σ au=>∃dB:Option V,σ=[some (.ref pu),some (.int (p:Nat)),some (.int w.1),dB]∧H1=au∧(w.2.take j).any (fun y=>y.1 == p)=false)
   ⟨_,rfl,rfl,rfl⟩ (fun j σ au _ ⟨_,_,e,_⟩=>by rw[←e];exact aR.of iT) ?_ ?_
  ·rintro j v σ au de ⟨dB,rfl,rfl,hm⟩
   obtain⟨z,dE,dU⟩:=mB rX de
   obtain⟨c,b6,ck,rfl,aj,a4,bH⟩:=er (a:=.int (z.1:Nat)) (b:=.int z.2) dU
   cases a4.int_inv
   have iE:(w.2.take (j+1)).any (fun y=>y.1 == p)=(z.1 == p):=by
    rw[take_add_one,any_append,hm,dE]
    simp
   refine⟨_,rfl,c,_,_,_,rfl,rfl,aF.of aj,rfl,_,rfl,rfl,_,rfl,gk (fun cL=>?_) (fun cL=>?_)⟩
   ·have b2:V.int (z.1:Nat)=V.int (p:Nat):=of_decide_eq_true cL
    injection b2 with b2
    have cj:z.1=p:=by omega
    have fe:x.d5 p=some w.1:=by
     unfold av.d5
     rw[H5 fH aS (any_eq_true.mpr ⟨z,mem_of_getElem? dE,by rw[cj];exact beq_self_eq_true p⟩)]
     rfl
    rw[fe]at bN
    exact⟨_,rfl,bN⟩
   ·refine⟨_,rfl,rfl,?_⟩
    rw[iE]
    exact beq_eq_false_iff_ne.mpr fun y=>cL (decide_eq_true (by rw[y]))
  ·rintro σ au ⟨dB,rfl,rfl,hm⟩
   have gg:=rX.length
   rw[length_map]at gg
   rw[gg,take_length]at hm
   exact⟨_,_,rfl,rfl,U0 fH aS hm⟩
 ·rintro σ au ⟨bW,dB,rfl,rfl,aS⟩
  rw[length_map,length_map,qx,take_length]at aS
  have fe:x.d5 p=none:=by
   unfold av.d5
   rw[aS]
   rfl
  rw[fe]at bN
  exact⟨_,rfl,bN⟩
theorem JT:dk ["_law_house","_law_needs","_law_page"] uh (bF tH):=dM
theorem Wo {vg:Addr}{x9:FuncData}{jm:Addr}{kS:FuncData}{jk:Addr}{kQ:FuncData}(F:da K "_law_full" "_law_full" tH f fd) (B:ew ai) (BY:aU P w K ai base bf 1 vg x9 oS y4) (BS:Binds K x9 oS []) (Sg:keepIn K (.ref vg)=true) (BI:ai "_law_bound"=some (.ref vg)) (pK:aU P w K ai base bf 2 jm kS p1 yD) (pD:Binds K kS p1 []) (xX:keepIn K (.ref jm)=true) (pg:ai "_law_carry_in"=some (.ref jm)) (ow:aU P w K ai base bf 3 jk kQ p2 y2) (oo:Binds K kQ p2 []) (vc:keepIn K (.ref jk)=true) (n9:ai "_law_cut_in"=some (.ref jk)):aU P w K ai base bf 4 f fd uh Dl:=by
 refine F.ok JT (fun vs H Q E h=>?_) (fun b4 A outer s H vs Q E aC h=>?_)
 ·obtain⟨h,ce,ak,lo,pu,st,pl,x,m,rfl,_⟩:=h
  rfl
 obtain⟨h,ce,ak,lo,pu,st,pl,x,m,rfl,bJ,Gh,Bs,z,q⟩:=h
 have a7:=gT aC
 refine⟨_,(bh (b_ (cn DH (c0 gJ (c0 gJ (dP e8 rfl B.len PySem.boot_len (aq (ek a7 (af 0) bw (fun _ _=>rfl)) aK)) (dt BY (b9 aC) rfl BI Sg BS .nil cP (aq (ek a7 (af 0) bw (fun _ _=>rfl)) aK))) (af 1)) (ek a7 (af 0) bw (fun _ _=>rfl)) (bY _)) (aZ (cF fF)) cZ) (bh (hA PassesOwn.never rfl (qQ rfl B.l0 (aq (dP e8 rfl B.len PySem.boot_len (aq (ek a7 (af 0) bw (fun _ _=>rfl)) aK)) aK)) (fj (i:=2) JT.bl rfl (Or.inl rfl)) (aZ (dz (dt pK (b9 aC) rfl pg xX pD .nil cP (aq (af 0) (aq (af 2) aK)))))) (bh (dz (dt ow (b9 aC) rfl n9 vc oo .nil cP (aq (af 0) aK))) (aZ (cF (hx pX (c0 gJ (c0 gJ (dP e8 rfl B.len PySem.boot_len (aq (ek a7 (af 0) bw (fun _ _=>rfl)) aK)) (dt BY (b9 aC) rfl BI Sg BS .nil cP (aq (ek a7 (af 0) bw (fun _ _=>rfl)) aK))) (af 1)) (ek a7 (af 0) bw (fun _ _=>rfl)) (bY _))))))),?_⟩
 obtain⟨xs,eN,jg⟩:=bJ.az
 have kM:x.log.length=xs.length:=jg.1
 have oi:x.full m=if x.fZ m=true then (x,false) else (x.ed, !x.ed.fZ m):=rfl
 refine⟨_,rfl,h,_,rfl,bJ.wK,lo,xs,rfl,.inl (aR.of eN),_,rfl,h,_,rfl,bJ.kv,h,ce,ak,lo,pu,st,pl,x,rfl,bJ.p8,Gh,fun au s2=>?_⟩
 have bq:=bJ.same s2
 refine⟨_,_,rfl,rfl,_,rfl,_,_,rfl,rfl,_,rfl,h,_,rfl,bq.Kn,_,_,rfl,rfl,_,rfl,gk (fun cL=>?_) (fun cL=>?_)⟩
 ·have dV:x.fZ m=true:=by unfold av.fZ;rw[kM];exact cL
  rw[if_pos dV]at oi
  rw[oi]at q
  exact q lo au bq ((bI.dQ s2).l)
 have dV:¬x.fZ m=true:=fun y=>cL (by unfold av.fZ at y;rw[kM]at y;exact y)
 rw[if_neg dV]at oi
 rw[oi]at q
 have ld:(x.aB.map V.int).length=x.aB.length:=length_map _
 refine⟨_,rfl,h,_,rfl,bq.k6,ak,_,rfl,.inl (aR.of bq.hd),_,rfl,by omega,by omega,sH (fun i σ a9=>∃(bW:Option V) (lo':Addr),σ=[some (.ref h),some (.int m),bW]∧bB a9 h ce ak lo' pu st pl (x.fk i)∧iP (own h ce ak pu st pl) lo lo' H a9)
  ⟨none,lo,rfl,bq,(bI.dQ s2).l⟩ ?_ ?_⟩
 ·rintro i σ a9 aL ⟨bW,lo',rfl,bX,dB⟩
  have e0:(0:Int)+(i:Int)=((i:Nat):Int):=by omega
  rw[e0]
  have jF:i<x.aB.length:=by omega
  refine⟨_,rfl,_,rfl,h,ce,ak,lo',pu,st,pl,_,i,rfl,bX,by rw[oz];exact jF,av.fits.fk (i:=i) (k:=1) (z.mono (by omega)) (by omega),fun d7 cO c9 fR=>?_⟩
  rw[←kq]at c9
  exact⟨_,d7,rfl,c9,dB.trans fR⟩
 ·rintro σ a9 ⟨bW,lo',rfl,bX,dB⟩
  have Ss:((x.aB.map V.int).length:Int).toNat=x.aB.length:=by omega
  rw[Ss]at bX
  refine⟨_,rfl,h,ce,ak,lo',pu,st,pl,_,rfl,bX,av.fits.fk (i:=x.aB.length) (k:=1) z (le_refl _),fun d7 cO c9 fR=>?_⟩
  rw[←jn]at c9
  obtain⟨ys,aiy,af1⟩:=c9.az
  have gg:x.ed.log.length=ys.length:=af1.1
  refine⟨_,rfl,h,_,rfl,c9.wK,d7,ys,rfl,.inl (aR.of aiy),_,rfl,h,_,rfl,c9.kv,h,ce,ak,d7,pu,st,pl,x.ed,rfl,c9.p8,by rw[ym];exact Gh,fun d4 s5=>?_⟩
  have fu:=c9.same s5
  refine⟨_,_,rfl,rfl,_,rfl,_,_,rfl,rfl,_,rfl,h,_,rfl,fu.Kn,_,_,rfl,rfl,?_⟩
  have lz:=q d7 d4 fu (dB.trans (fR.trans (bI.dQ s5).l))
  have pB:(!x.ed.fZ m)=decide (x.ed.room<(ys.length:Int)+x.ed.bound+m):=by
   unfold av.fZ
   rw[gg]
   by_cases y:(ys.length:Int)+x.ed.bound+m≤x.ed.room
   ·rw[decide_eq_true y,decide_eq_false (by omega)];rfl
   ·rw[decide_eq_false y,decide_eq_true (by omega)];rfl
  rw[pB]at lz
  exact lz
def yC:c3:=fun vs H Q _=>∃(h ce ak lo pu st:Addr) (pl:List (Int × Addr)) (x:av) (v:V) (e:b1),vs=[.ref pu,.ref ak,v]∧d_ H h ce ak lo pu st pl x∧Rep H e.D v∧1≤x.aB.length∧(∀z∈x.aT,0≤z.1)∧∀ah,bI H ah→Q (.str ((x.refusal e).getD "done")) ah
def Xz (oj:Bool) (d:Int):b1:=if oj then .drop d else .fin d
def CQ:c3:=fun vs H Q _=>∃(h ce ak lo pu st:Addr) (pl:List (Int × Addr)) (x:av) (v:V) (oj:Bool) (d:Int),vs=[.ref h,v]∧bB H h ce ak lo pu st pl x∧Rep H (Xz oj d).D v∧x.isOpen d=true∧(∀z∈x.dh d,z.1<x.aB.length)∧x.fits ((x.dh d).length+1) ∧
 ∀lo' ah,bB ah h ce ak lo' pu st (pl.filter fun z=>z.1 != d) ((if oj then x.eu d else x).jV d)→iP (own h ce ak pu st pl) lo lo' H ah→Q .cE ah
theorem yE:dk ["_law_puts","_law_desk","_law_deed","_law_page"] pZ (bF sJ):=dM
theorem Wy (t d:Int):(if true=true then !hQ (.int t) [.int (-1),.int d] else hQ (.int t) [.int (-1),.int d]) = !decide (t = -1∨t=d):=by
 rw[if_pos rfl]
 have e:=VS t [-1,d]
 have aN:([-1,d]:List Int).map V.int=[.int (-1),.int d]:=rfl
 rw[aN]at e
 rw[e]
 congr 1
 exact decide_eq_decide.mpr (by simp)
theorem mJ {c A B:Prop} [Decidable c] (aj:c) (h:B):if (!decide c)=true then A else B:=by
 rw[decide_eq_true aj]
 exact cU h
theorem T8 {GP:Addr}{hu:FuncData}(F:da K "_law_refusal" "_law_refusal" sJ f fd) (B:ew ai) (GT:aU P w K ai base bf 1 GP hu uk CL) (ak3:Binds K hu uk []) (akE:keepIn K (.ref GP)=true) (BG:ai "_law_taker"=some (.ref GP)):aU P w K ai base bf 2 f fd pZ yC:=by
 refine F.ok yE (fun vs H Q E h=>?_) (fun b4 A outer s H vs Q E aC h=>?_)
 ·obtain⟨h,ce,ak,lo,pu,st,pl,x,v,e,rfl,_⟩:=h
  rfl
 obtain⟨h,ce,ak,lo,pu,st,pl,x,v,e,rfl,bJ,bp,ame,aS,q⟩:=h
 have a7:=gT aC
 refine⟨_,(bh (b_ (oD (cn Iw (bA bZ (af 2) aW (fun _ _=>rfl)) (fl (aq bw (aq bw (aq bw aK)))) (by with_unfolding_all rfl)) (we (It a7 (bA bZ (af 2) aW (fun _ _=>rfl)) (af 0)))) (aZ (cF bw)) cZ) (bh (dm (i:=3) yE.bl rfl (Or.inl rfl) aW) (bh (b_ (cn dv (bA bZ (af 2) aW (fun _ _=>rfl)) bw (bY _)) (aZ (dm (i:=3) yE.bl rfl (Or.inl rfl) (bA bZ (af 2) aW (fun _ _=>rfl)))) cZ) (bh (b_ (lQ (cn dv (bA bZ (af 2) aW (fun _ _=>rfl)) bw (bY _)) (cn dv (bA bZ (af 2) aW (fun _ _=>rfl)) bw (bY _))) (aZ (dm (i:=3) yE.bl rfl (Or.inl rfl) (bA bZ (af 2) aW (fun _ _=>rfl)))) cZ) (bh (b_ (lQ (cn pW (af 3) aW (bY _)) (cn zD (af 3) (dP e8 rfl B.len PySem.boot_len (aq (af 1) aK)) (bY _))) (aZ (cF bw)) cZ) (bh (b_ (oD (cn dv (bA bZ (af 2) aW (fun _ _=>rfl)) bw (bY _)) (cn Tz (dt GT (b9 aC) rfl BG akE ak3 .nil cP (aq (af 0) (aq (af 3) aK))) (fl (aq (tQ s8 aW) (aq (bA bZ (af 2) aW (fun _ _=>rfl)) aK))) (by with_unfolding_all rfl))) (aZ (cF bw)) cZ) (aZ (cF bw)))))))),?_⟩
 cases e with
 | begin =>
  obtain⟨c,b6,rfl,aj,a4⟩:=kZ bp
  cases a4.str_inv
  refine⟨_,rfl,c,_,_,_,rfl,rfl,aF.of aj,rfl,cS,fun l az=>⟨l,_,rfl,.inl (aR.of aQ),rfl,rfl,_,rfl,?_⟩⟩
  have s1:=bP az (.lst [.str "put",.str "end",.str "drop"])
  have bq:=bJ.same s1
  have cc:=s1 _ _ aj
  have aV:=q _ s1
  generalize upd H l (.lst [.str "put",.str "end",.str "drop"])=H1 at s1 bq cc aV ⊢
  have lp:(if false=true then !hQ (V.str "begin") [V.str "put",V.str "end",V.str "drop"] else hQ (V.str "begin") [V.str "put",V.str "end",V.str "drop"])=false:=by decide +kernel
  rw[lp]
  have aV:Q (.str ((none:Option Str).getD "done")) H1:=aV
  refine cU (cU ?_)
  refine⟨_,rfl,c,_,_,_,rfl,rfl,aF.of cc,rfl,rfl,_,rfl,bx (by decide +kernel) ?_⟩
  refine⟨_,rfl,c,_,_,_,rfl,rfl,aF.of cc,rfl,rfl,_,rfl,bx (by decide +kernel) ?_⟩
  refine⟨_,rfl,c,_,_,_,rfl,rfl,aF.of cc,rfl,rfl,_,rfl,bx (by decide +kernel) ?_⟩
  refine⟨_,rfl,_,_,rfl,rfl,_,rfl,bx (by decide) ?_⟩
  refine⟨_,rfl,_,rfl,ak,_,rfl,.inl (aR.of bq.hd),_,_,rfl,rfl,_,rfl,bx (by rw[length_map];omega) ?_⟩
  refine⟨_,rfl,c,_,_,_,rfl,rfl,aF.of cc,rfl,rfl,_,rfl,bx (by decide +kernel) (cU ?_)⟩
  exact aV
 | put d p n =>
  obtain⟨c,b6,ck,j8,qs,rfl,aj,a4,bH,hq,jK⟩:=qS bp
  cases a4.str_inv
  cases bH.int_inv
  cases hq.int_inv
  cases jK.int_inv
  refine⟨_,rfl,c,_,_,_,rfl,rfl,aF.of aj,rfl,cS,fun l az=>⟨l,_,rfl,.inl (aR.of aQ),rfl,rfl,_,rfl,?_⟩⟩
  have s1:=bP az (.lst [.str "put",.str "end",.str "drop"])
  have bq:=bJ.same s1
  have cc:=s1 _ _ aj
  have aV:=q _ s1
  generalize upd H l (.lst [.str "put",.str "end",.str "drop"])=H1 at s1 bq cc aV ⊢
  have lp:(if false=true then !hQ (V.str "put") [V.str "put",V.str "end",V.str "drop"] else hQ (V.str "put") [V.str "put",V.str "end",V.str "drop"])=true:=by decide +kernel
  rw[lp]
  have aV:Q (.str (((if x.isOpen d=false then some "no dealing" else if p<0∨(x.aB.length:Int)≤p then some "no page" else if x.d5 p.toNat=none∨x.d5 p.toNat=some d then none else some "taken"):Option Str).getD "done")) H1:=aV
  refine fm ?_
  refine⟨_,rfl,c,_,_,_,rfl,rfl,aF.of cc,rfl,_,rfl,pu,_,rfl,bq.tT d,_,rfl,?_⟩
  rw[bq.isOpen d]
  cases aH:x.isOpen d with
  | false =>
   rw[aH,if_pos rfl]at aV
   exact fm aV
  | true =>
  rw[aH,if_neg (fun z=>nomatch z)]at aV
  refine cU ?_
  refine⟨_,rfl,c,_,_,_,rfl,rfl,aF.of cc,rfl,rfl,_,rfl,dS rfl ?_⟩
  refine⟨_,rfl,c,_,_,_,rfl,rfl,aF.of cc,rfl,?_⟩
  refine⟨_,rfl,c,_,_,_,rfl,rfl,aF.of cc,rfl,rfl,_,rfl,bx (by decide +kernel) ?_⟩
  refine⟨_,rfl,c,_,_,_,rfl,rfl,aF.of cc,rfl,rfl,_,rfl,bx (by decide +kernel) ?_⟩
  refine⟨_,rfl,_,_,rfl,rfl,_,rfl,gk (fun cL=>?_) (fun cL=>?_)⟩
  ·have dV:p<0:=of_decide_eq_true cL
   refine fm ?_
   rw[if_pos (Or.inl dV)]at aV
   exact aV
  refine⟨_,rfl,_,rfl,ak,_,rfl,.inl (aR.of bq.hd),_,_,rfl,rfl,_,rfl,gk (fun ep=>?_) (fun ep=>?_)⟩
  ·have f_:((x.aB.map V.int).length:Int)≤p:=of_decide_eq_true ep
   rw[length_map]at f_
   rw[if_pos (Or.inr f_)]at aV
   exact aV
  have dV:¬p<0:=fun y=>cL (decide_eq_true y)
  have f_:¬(x.aB.length:Int)≤p:=fun y=>ep (decide_eq_true (by rw[length_map];exact y))
  rw[if_neg (fun y=>y.elim dV f_)]at aV
  refine⟨_,rfl,c,_,_,_,rfl,rfl,aF.of cc,rfl,rfl,_,rfl,dS rfl ?_⟩
  obtain⟨bz,rfl⟩:∃bz:Nat,p=(bz:Int):=⟨p.toNat,by omega⟩
  rw[Int.toNat_natCast]at aV
  refine⟨_,rfl,_,rfl,h,ce,ak,lo,pu,st,pl,x,bz,rfl,bq,fun a9 s3=>?_⟩
  have kH:=s3 _ _ cc
  refine⟨_,rfl,_,rfl,c,_,_,_,rfl,rfl,aF.of kH,rfl,cS,fun hY uH=>⟨hY,_,rfl,.inl (aR.of aQ),rfl,rfl,_,rfl,?_⟩⟩
  have s4:=bP uH (.lst [.int (-1),.int d])
  have iW:=q _ (s1.trans (s3.trans s4))
  have iW:Q (.str ((if x.isOpen d=false then some "no dealing" else if (bz:Int)<0∨(x.aB.length:Int)≤(bz:Int) then some "no page" else if x.d5 (bz:Int).toNat=none∨x.d5 (bz:Int).toNat=some d then none else some "taken":Option Str).getD "done")) _:=iW
  rw[aH,if_neg (fun z=>nomatch z),if_neg (fun y=>y.elim dV f_),Int.toNat_natCast]at iW
  rw[Wy]
  cases a6:x.d5 bz with
  | none =>
   rw[a6,if_pos (Or.inl rfl)]at iW
   refine mJ ?_ iW
   exact Or.inl rfl
  | some t =>
   rw[a6]at iW
   have t0:0≤t:=by
    unfold av.d5 at a6
    obtain⟨z,hz,e⟩:=Option.map_eq_some_iff.mp a6
    rw[←e]
    exact aS z (List.mem_of_find?_eq_some hz)
   by_cases e:t=d
   ·subst e
    rw[if_pos (Or.inr rfl)]at iW
    exact mJ (Or.inr rfl) iW
   ·rw[if_neg (fun y=>y.elim (fun z=>nomatch z) fun z=>e (Option.some.inj z))]at iW
    refine nF (fun y=>?_) iW
    rcases y with y | y
    ·have n1:t = -1:=y
     omega
    ·exact e y
 | fin d =>
  obtain⟨c,b6,ck,rfl,aj,a4,bH⟩:=er bp
  cases a4.str_inv
  cases bH.int_inv
  refine⟨_,rfl,c,_,_,_,rfl,rfl,aF.of aj,rfl,cS,fun l az=>⟨l,_,rfl,.inl (aR.of aQ),rfl,rfl,_,rfl,?_⟩⟩
  have s1:=bP az (.lst [.str "put",.str "end",.str "drop"])
  have bq:=bJ.same s1
  have cc:=s1 _ _ aj
  have aV:=q _ s1
  generalize upd H l (.lst [.str "put",.str "end",.str "drop"])=H1 at s1 bq cc aV ⊢
  have lp:(if false=true then !hQ (V.str "end") [V.str "put",V.str "end",V.str "drop"] else hQ (V.str "end") [V.str "put",V.str "end",V.str "drop"])=true:=by decide +kernel
  rw[lp]
  have aV:Q (.str (((if x.isOpen d=false then some "no dealing" else none):Option Str).getD "done")) H1:=aV
  refine fm ?_
  refine⟨_,rfl,c,_,_,_,rfl,rfl,aF.of cc,rfl,_,rfl,pu,_,rfl,bq.tT d,_,rfl,?_⟩
  rw[bq.isOpen d]
  cases aH:x.isOpen d with
  | false =>
   rw[aH,if_pos rfl]at aV
   exact fm aV
  | true =>
  rw[aH,if_neg (fun z=>nomatch z)]at aV
  refine cU ?_
  refine⟨_,rfl,c,_,_,_,rfl,rfl,aF.of cc,rfl,rfl,_,rfl,bx (by decide +kernel) ?_⟩
  refine⟨_,rfl,c,_,_,_,rfl,rfl,aF.of cc,rfl,rfl,_,rfl,bx (by decide +kernel) ?_⟩
  refine⟨_,rfl,c,_,_,_,rfl,rfl,aF.of cc,rfl,rfl,_,rfl,bx (by decide +kernel) ?_⟩
  refine⟨_,rfl,_,_,rfl,rfl,_,rfl,bx (by decide) ?_⟩
  refine⟨_,rfl,_,rfl,ak,_,rfl,.inl (aR.of bq.hd),_,_,rfl,rfl,_,rfl,bx (by rw[length_map];omega) ?_⟩
  refine⟨_,rfl,c,_,_,_,rfl,rfl,aF.of cc,rfl,rfl,_,rfl,bx (by decide +kernel) (cU ?_)⟩
  exact aV
 | drop d =>
  obtain⟨c,b6,ck,rfl,aj,a4,bH⟩:=er bp
  cases a4.str_inv
  cases bH.int_inv
  refine⟨_,rfl,c,_,_,_,rfl,rfl,aF.of aj,rfl,cS,fun l az=>⟨l,_,rfl,.inl (aR.of aQ),rfl,rfl,_,rfl,?_⟩⟩
  have s1:=bP az (.lst [.str "put",.str "end",.str "drop"])
  have bq:=bJ.same s1
  have cc:=s1 _ _ aj
  have aV:=q _ s1
  generalize upd H l (.lst [.str "put",.str "end",.str "drop"])=H1 at s1 bq cc aV ⊢
  have lp:(if false=true then !hQ (V.str "drop") [V.str "put",V.str "end",V.str "drop"] else hQ (V.str "drop") [V.str "put",V.str "end",V.str "drop"])=true:=by decide +kernel
  rw[lp]
  have aV:Q (.str (((if x.isOpen d=false then some "no dealing" else none):Option Str).getD "done")) H1:=aV
  refine fm ?_
  refine⟨_,rfl,c,_,_,_,rfl,rfl,aF.of cc,rfl,_,rfl,pu,_,rfl,bq.tT d,_,rfl,?_⟩
  rw[bq.isOpen d]
  cases aH:x.isOpen d with
  | false =>
   rw[aH,if_pos rfl]at aV
   exact fm aV
  | true =>
  rw[aH,if_neg (fun z=>nomatch z)]at aV
  refine cU ?_
  refine⟨_,rfl,c,_,_,_,rfl,rfl,aF.of cc,rfl,rfl,_,rfl,bx (by decide +kernel) ?_⟩
  refine⟨_,rfl,c,_,_,_,rfl,rfl,aF.of cc,rfl,rfl,_,rfl,bx (by decide +kernel) ?_⟩
  refine⟨_,rfl,c,_,_,_,rfl,rfl,aF.of cc,rfl,rfl,_,rfl,bx (by decide +kernel) ?_⟩
  refine⟨_,rfl,_,_,rfl,rfl,_,rfl,bx (by decide) ?_⟩
  refine⟨_,rfl,_,rfl,ak,_,rfl,.inl (aR.of bq.hd),_,_,rfl,rfl,_,rfl,bx (by rw[length_map];omega) ?_⟩
  refine⟨_,rfl,c,_,_,_,rfl,rfl,aF.of cc,rfl,rfl,_,rfl,bx (by decide +kernel) (cU ?_)⟩
  exact aV
 | look p =>
  obtain⟨c,b6,ck,rfl,aj,a4,bH⟩:=er bp
  cases a4.str_inv
  cases bH.int_inv
  refine⟨_,rfl,c,_,_,_,rfl,rfl,aF.of aj,rfl,cS,fun l az=>⟨l,_,rfl,.inl (aR.of aQ),rfl,rfl,_,rfl,?_⟩⟩
  have s1:=bP az (.lst [.str "put",.str "end",.str "drop"])
  have bq:=bJ.same s1
  have cc:=s1 _ _ aj
  have aV:=q _ s1
  generalize upd H l (.lst [.str "put",.str "end",.str "drop"])=H1 at s1 bq cc aV ⊢
  have lp:(if false=true then !hQ (V.str "look") [V.str "put",V.str "end",V.str "drop"] else hQ (V.str "look") [V.str "put",V.str "end",V.str "drop"])=false:=by decide +kernel
  rw[lp]
  have aV:Q (.str (((if p<0∨(x.aB.length:Int)≤p then some "no page" else none):Option Str).getD "done")) H1:=aV
  refine cU (cU ?_)
  refine⟨_,rfl,c,_,_,_,rfl,rfl,aF.of cc,rfl,rfl,_,rfl,bx (by decide +kernel) ?_⟩
  refine⟨_,rfl,c,_,_,_,rfl,rfl,aF.of cc,rfl,rfl,_,rfl,dS rfl (fm ?_)⟩
  refine⟨_,rfl,c,_,_,_,rfl,rfl,aF.of cc,rfl,?_⟩
  refine⟨_,rfl,_,_,rfl,rfl,_,rfl,gk (fun cL=>?_) (fun cL=>?_)⟩
  ·have dV:p<0:=of_decide_eq_true cL
   refine fm ?_
   rw[if_pos (Or.inl dV)]at aV
   exact aV
  refine⟨_,rfl,_,rfl,ak,_,rfl,.inl (aR.of bq.hd),_,_,rfl,rfl,_,rfl,gk (fun ep=>?_) (fun ep=>?_)⟩
  ·have f_:((x.aB.map V.int).length:Int)≤p:=of_decide_eq_true ep
   rw[length_map]at f_
   rw[if_pos (Or.inr f_)]at aV
   exact aV
  have dV:¬p<0:=fun y=>cL (decide_eq_true y)
  have f_:¬(x.aB.length:Int)≤p:=fun y=>ep (decide_eq_true (by rw[length_map];exact y))
  rw[if_neg (fun y=>y.elim dV f_)]at aV
  refine⟨_,rfl,c,_,_,_,rfl,rfl,aF.of cc,rfl,rfl,_,rfl,bx (by decide +kernel) (cU ?_)⟩
  exact aV
 | carry p =>
  obtain⟨c,b6,ck,rfl,aj,a4,bH⟩:=er bp
  cases a4.str_inv
  cases bH.int_inv
  refine⟨_,rfl,c,_,_,_,rfl,rfl,aF.of aj,rfl,cS,fun l az=>⟨l,_,rfl,.inl (aR.of aQ),rfl,rfl,_,rfl,?_⟩⟩
  have s1:=bP az (.lst [.str "put",.str "end",.str "drop"])
  have bq:=bJ.same s1
  have cc:=s1 _ _ aj
  have aV:=q _ s1
  generalize upd H l (.lst [.str "put",.str "end",.str "drop"])=H1 at s1 bq cc aV ⊢
  have lp:(if false=true then !hQ (V.str "carry") [V.str "put",V.str "end",V.str "drop"] else hQ (V.str "carry") [V.str "put",V.str "end",V.str "drop"])=false:=by decide +kernel
  rw[lp]
  have aV:Q (.str (((if p<0∨(x.aB.length:Int)≤p then some "no page" else none):Option Str).getD "done")) H1:=aV
  refine cU (cU ?_)
  refine⟨_,rfl,c,_,_,_,rfl,rfl,aF.of cc,rfl,rfl,_,rfl,bx (by decide +kernel) ?_⟩
  refine⟨_,rfl,c,_,_,_,rfl,rfl,aF.of cc,rfl,rfl,_,rfl,bx (by decide +kernel) ?_⟩
  refine⟨_,rfl,c,_,_,_,rfl,rfl,aF.of cc,rfl,rfl,_,rfl,dS rfl ?_⟩
  refine⟨_,rfl,c,_,_,_,rfl,rfl,aF.of cc,rfl,?_⟩
  refine⟨_,rfl,_,_,rfl,rfl,_,rfl,gk (fun cL=>?_) (fun cL=>?_)⟩
  ·have dV:p<0:=of_decide_eq_true cL
   refine fm ?_
   rw[if_pos (Or.inl dV)]at aV
   exact aV
  refine⟨_,rfl,_,rfl,ak,_,rfl,.inl (aR.of bq.hd),_,_,rfl,rfl,_,rfl,gk (fun ep=>?_) (fun ep=>?_)⟩
  ·have f_:((x.aB.map V.int).length:Int)≤p:=of_decide_eq_true ep
   rw[length_map]at f_
   rw[if_pos (Or.inr f_)]at aV
   exact aV
  have dV:¬p<0:=fun y=>cL (decide_eq_true y)
  have f_:¬(x.aB.length:Int)≤p:=fun y=>ep (decide_eq_true (by rw[length_map];exact y))
  rw[if_neg (fun y=>y.elim dV f_)]at aV
  refine⟨_,rfl,c,_,_,_,rfl,rfl,aF.of cc,rfl,rfl,_,rfl,bx (by decide +kernel) (cU ?_)⟩
  exact aV
 | cut =>
  obtain⟨c,b6,rfl,aj,a4⟩:=kZ bp
  cases a4.str_inv
  refine⟨_,rfl,c,_,_,_,rfl,rfl,aF.of aj,rfl,cS,fun l az=>⟨l,_,rfl,.inl (aR.of aQ),rfl,rfl,_,rfl,?_⟩⟩
  have s1:=bP az (.lst [.str "put",.str "end",.str "drop"])
  have bq:=bJ.same s1
  have cc:=s1 _ _ aj
  have aV:=q _ s1
  generalize upd H l (.lst [.str "put",.str "end",.str "drop"])=H1 at s1 bq cc aV ⊢
  have lp:(if false=true then !hQ (V.str "cut") [V.str "put",V.str "end",V.str "drop"] else hQ (V.str "cut") [V.str "put",V.str "end",V.str "drop"])=false:=by decide +kernel
  rw[lp]
  have aV:Q (.str ((none:Option Str).getD "done")) H1:=aV
  refine cU (cU ?_)
  refine⟨_,rfl,c,_,_,_,rfl,rfl,aF.of cc,rfl,rfl,_,rfl,bx (by decide +kernel) ?_⟩
  refine⟨_,rfl,c,_,_,_,rfl,rfl,aF.of cc,rfl,rfl,_,rfl,bx (by decide +kernel) ?_⟩
  refine⟨_,rfl,c,_,_,_,rfl,rfl,aF.of cc,rfl,rfl,_,rfl,bx (by decide +kernel) ?_⟩
  refine⟨_,rfl,_,_,rfl,rfl,_,rfl,bx (by decide) ?_⟩
  refine⟨_,rfl,_,rfl,ak,_,rfl,.inl (aR.of bq.hd),_,_,rfl,rfl,_,rfl,bx (by rw[length_map];omega) ?_⟩
  refine⟨_,rfl,c,_,_,_,rfl,rfl,aF.of cc,rfl,rfl,_,rfl,bx (by decide +kernel) (cU ?_)⟩
  exact aV
theorem CY:dk ["_law_house","_law_deed","_law_page","_law_old"] l1 (bF tk):=dM
theorem VB {fc:Addr}{f9:FuncData}{hc:Addr}{h2:FuncData}(F:da K "_law_end_in" "_law_end_in" tk f fd) (B:ew ai) (nk:zZ ai) (iK:aU P w K ai base bf 1 fc f9 la sI) (iF:Binds K f9 la []) (m7:keepIn K (.ref fc)=true) (iz:ai "_law_stroke_in"=some (.ref fc)) (lH:aU P w K ai base bf 2 hc h2 p0 y0) (lF:Binds K h2 p0 []) (xU:keepIn K (.ref hc)=true) (jN:ai "_law_put_in"=some (.ref hc)):aU P w K ai base bf 3 f fd l1 CQ:=by
 refine F.ok CY (fun vs H Q E h=>?_) (fun b4 A outer s H vs Q E aC h=>?_)
 ·obtain⟨h,ce,ak,lo,pu,st,pl,x,v,oj,d,rfl,_⟩:=h
  rfl
 obtain⟨h,ce,ak,lo,pu,st,pl,x,v,oj,d,rfl,bJ,bp,aH,nP,z,q⟩:=h
 have a7:=gT aC
 refine⟨_,(bh (b_ (cn dv (bA bZ (af 1) aW (fun _ _=>rfl)) bw (bY _)) (aZ (hA PassesOwn.never rfl (ks (HX aC.hd rfl B.lst rfl nk.rev (ek a7 (ek a7 (af 0) bw (fun _ _=>rfl)) (bA bZ (af 1) aW (fun _ _=>rfl)) (fun _ _=>rfl)))) (pU rfl (jr (fj (i:=2) CY.bl rfl (Or.inl rfl)) (jr (fj (i:=3) CY.bl rfl (Or.inl rfl)) pQ))) (aZ (dz (dt lH (b9 aC) rfl jN xU lF .nil cP (aq (af 0) (aq (bA bZ (af 1) aW (fun _ _=>rfl)) (aq (af 2) (aq (af 3) aK))))))))) cZ) (bh (dz (dt iK (b9 aC) rfl iz m7 iF .nil cP (aq (af 0) (aq (gz (aq bw (aq (gz (aq bw (aq (bA bZ (af 1) aW (fun _ _=>rfl)) aK))) aK))) aK)))) (aZ (dz (yT (ek a7 (af 0) bw (fun _ _=>rfl)) (bA bZ (af 1) aW (fun _ _=>rfl)) ⟨rfl,rfl,rfl,rfl⟩))))),?_⟩
 obtain⟨c,ck,ev,aj,bH,kF⟩:∃c w,v=.ref c∧H c=some (.tup [.str w,.int d])∧(oj=true→w="drop")∧(oj=false→w="end"):=by
  cases oj with
  | true =>
   obtain⟨c,b6,ck,rfl,aj,a4,bH⟩:=er (a:=.str "drop") (b:=.int d) bp
   cases a4.str_inv
   cases bH.int_inv
   exact⟨c,_,rfl,aj,fun _=>rfl,(fun z=>nomatch z)⟩
  | false =>
   obtain⟨c,b6,ck,rfl,aj,a4,bH⟩:=er (a:=.str "end") (b:=.int d) bp
   cases a4.str_inv
   cases bH.int_inv
   exact⟨c,_,rfl,aj,(fun z=>nomatch z),fun _=>rfl⟩
 subst ev
 cases oj with
 | true =>
  cases bH rfl
  refine⟨_,rfl,c,_,_,_,rfl,rfl,aF.of aj,rfl,rfl,_,rfl,dS rfl ?_⟩
  obtain⟨i,a,ys,aL,hw,aX,o1,cA⟩:=bJ.pR aH
  have l3:=o1.length
  rw[length_map]at l3
  refine⟨_,rfl,h,_,rfl,bJ.kv,_,rfl,c,_,_,_,rfl,rfl,aF.of aj,rfl,pu,_,rfl,cA,a,ys,rfl,aR.of aX,fun l az=>⟨l,rfl,⟨_,aR.of aQ⟩,?_⟩⟩
  have s1:=bP az (.lst ys.reverse)
  have aJ:(upd H l (.lst ys.reverse)) l=some (.lst ys.reverse):=aQ
  have nl:=bJ.there az
  have bq:=bJ.same s1
  have mR:=bk.mono s1 _ _ o1
  have cc:=s1 _ _ aj
  generalize upd H l (.lst ys.reverse)=H1 at s1 aJ bq mR cc ⊢
  refine nx (K:=K) (a:=l) (xs:=ys.reverse) (fun j σ au=>∃(bW dB:Option V) (lo':Addr),σ=[some (.ref h),some (.ref c),bW,dB]∧bB au h ce ak lo' pu st pl (x.es d ((x.dh d).reverse.take j))∧iP (own h ce ak pu st pl) lo lo' H1 au)
   ⟨none,none,lo,rfl,bq,(gq.refl _ _).l⟩ (fun j σ au _ ⟨_,_,_,_,_,bW⟩=>aR.of (bW.1 _ _ nl aJ)) ?_ ?_
  ·rintro j v σ au de ⟨bW,dB,lo',rfl,bX,dQ⟩
   have Fy:j<ys.length:=by
    have:=(List.getElem?_eq_some_iff.mp de).1
    rw[length_reverse]at this
    exact this
   have uI:ys[ys.length - 1 - j]?=some v:=by rw[getElem?_reverse Fy]at de;exact de
   obtain⟨hR,dE,dU⟩:=mB mR uI
   have Ef:(x.dh d).reverse[j]?=some hR:=by
    rw[getElem?_reverse (by omega),←l3]
    exact dE
   have kt:=bq.et dQ.1
   obtain⟨b,fH,eU,rfl,aa,bu,aV⟩:=er (a:=.int (hR.1:Nat)) (b:=.int hR.2) (Rep.keep kt _ _ (g5 hR) dU)
   cases bu.int_inv
   cases aV.int_inv
   have l6:hR.1<x.aB.length:=nP hR (mem_of_getElem? dE)
   refine⟨b,_,rfl,aF.of aa,rfl,_,_,rfl,_,_,rfl,rfl,?_⟩
   refine⟨_,rfl,_,rfl,c,_,_,_,rfl,rfl,aF.of (kt _ _ cc),rfl,_,rfl,_,rfl,h,ce,ak,lo',pu,st,pl,_,d,hR.1,hR.2,rfl,bX,by rw[sy];exact l6,av.fits.es (k:=1) (z.mono ?_) (fun y cg=>nP y (mem_reverse.mp (List.mem_of_mem_take cg))),fun d7 cO c9 fR=>?_⟩
   ·rw[length_take,length_reverse]
    omega
   ·rw[←HC]at c9
    have iE:(x.dh d).reverse.take (j+1)=(x.dh d).reverse.take j++[hR]:=by
     rw[take_add_one,Ef]
     rfl
    rw[←iE]at c9
    exact⟨_,_,d7,rfl,c9,dQ.trans fR⟩
  ·rintro σ au ⟨bW,dB,lo',rfl,bX,dQ⟩
   have eN:ys.reverse.length=(x.dh d).reverse.length:=by rw[length_reverse,length_reverse];exact l3
   rw[eN,take_length,←hL]at bX
   have kH:=bq.et dQ.1 _ _ cc
   have z_:(x.eu d).aT=x.aT:=by rw[hL,nr]
   have u2:(x.eu d).fits 1:=by
    rw[hL]
    exact av.fits.es (k:=1) (by rw[length_reverse];exact z) fun y cg=>nP y (mem_reverse.mp cg)
   have qf:(x.eu d).isOpen d=true:=by unfold av.isOpen;rw[z_];exact aH
   have eV:∀d7 ah,bB ah h ce ak d7 pu st (pl.filter fun z=>z.1 != d) ((x.eu d).jV d)→iP (own h ce ak pu st pl) lo' d7 au ah→Q .cE ah:=fun d7 ah c9 fR=>q d7 ah c9 ((bI.dQ s1).l.trans (dQ.trans fR))
   refine⟨_,rfl,_,rfl,c,_,_,_,rfl,rfl,aF.of kH,rfl,cS,fun t1 rD=>⟨cS,fun en rC=>?_⟩⟩
   have s1:=bP rD (.tup [.str "end",.int d])
   have aJ:(upd au t1 (.tup [.str "end",.int d])) t1=some (.tup [.str "end",.int d]):=aQ
   have wH:(upd au t1 (.tup [.str "end",.int d])) en=none:=rC
   have s2:=bP wH (.tup [.str "line",.ref t1])
   have gb:=s1.trans s2
   refine⟨h,ce,ak,lo',pu,st,pl,(x.eu d),.ref en,.line (.fin d),rfl,bX.same gb,.gS aQ (.cons .ofStr (.cons (.gS (s2 _ _ aJ) (.cons .ofStr (.cons .ofInt .nil))) .nil)),True.intro,u2,fun d7 d4 fu fa=>?_⟩
   have l8:=(bX.same gb).et fa.1 _ _ (gb _ _ kH)
   have br:=fu.isOpen d
   have Fv:((x.eu d).cT (.line (.fin d))).isOpen d=true:=qf
   rw[Fv]at br
   obtain⟨rZ,rB⟩:=Option.isSome_iff_exists.mp br
   refine⟨_,rfl,h,_,rfl,fu.kv,pu,rfl,.inl ⟨_,.inl fu.aI⟩,_,rfl,c,_,_,_,rfl,rfl,aF.of l8,rfl,_,Sum.inl d,rZ,fu.aI,rfl,rB,?_⟩
   exact eV d7 _ (fu.ended d) ((bI.dQ gb).l.trans (fa.trans (ju (bB.mp ..)).l))
 | false =>
  cases kF rfl
  refine⟨_,rfl,c,_,_,_,rfl,rfl,aF.of aj,rfl,rfl,_,rfl,bx (by decide +kernel) ?_⟩
  have eV:∀d7 ah,bB ah h ce ak d7 pu st (pl.filter fun z=>z.1 != d) (x.jV d)→iP (own h ce ak pu st pl) lo d7 H ah→Q .cE ah:=q
  have bX:=bJ
  have kH:=aj
  have qf:=aH
  have u2:x.fits 1:=z.mono (by omega)
  refine⟨_,rfl,_,rfl,c,_,_,_,rfl,rfl,aF.of kH,rfl,cS,fun t1 rD=>⟨cS,fun en rC=>?_⟩⟩
  have s1:=bP rD (.tup [.str "end",.int d])
  have aJ:(upd H t1 (.tup [.str "end",.int d])) t1=some (.tup [.str "end",.int d]):=aQ
  have wH:(upd H t1 (.tup [.str "end",.int d])) en=none:=rC
  have s2:=bP wH (.tup [.str "line",.ref t1])
  have gb:=s1.trans s2
  refine⟨h,ce,ak,lo,pu,st,pl,x,.ref en,.line (.fin d),rfl,bX.same gb,.gS aQ (.cons .ofStr (.cons (.gS (s2 _ _ aJ) (.cons .ofStr (.cons .ofInt .nil))) .nil)),True.intro,u2,fun d7 d4 fu fa=>?_⟩
  have l8:=(bX.same gb).et fa.1 _ _ (gb _ _ kH)
  have br:=fu.isOpen d
  have Fv:(x.cT (.line (.fin d))).isOpen d=true:=qf
  rw[Fv]at br
  obtain⟨rZ,rB⟩:=Option.isSome_iff_exists.mp br
  refine⟨_,rfl,h,_,rfl,fu.kv,pu,rfl,.inl ⟨_,.inl fu.aI⟩,_,rfl,c,_,_,_,rfl,rfl,aF.of l8,rfl,_,Sum.inl d,rZ,fu.aI,rfl,rB,?_⟩
  exact eV d7 _ (fu.ended d) ((bI.dQ gb).l.trans (fa.trans (ju (bB.mp ..)).l))
def Cj:c3:=fun vs H Q _=>∃(h ce ak lo pu st:Addr) (pl:List (Int × Addr)) (x:av) (v:V) (e:b1) (n:Nat),vs=[.ref h,v]∧bB H h ce ak lo pu st pl x∧Rep H e.D v∧x.good n∧n≤110 ∧
 ∀lo' g8 ah,bB ah h ce ak lo' pu st g8 (x.a_ e).1→iP (own h ce ak pu st pl) lo lo' H ah→(∀b∈own h ce ak pu st g8,b∈own h ce ak pu st pl∨H b=none)→Q (x.a_ e).2.v ah
theorem Kg:dk ["_law_house","_law_deed","_law_word"] l1 (bF sF):=dM
theorem TQ {od:Addr}{qC:FuncData}{lC:Addr}{m_:FuncData}{hc:Addr}{h2:FuncData}{r8:Addr}{x8:FuncData}{jm:Addr}{kS:FuncData}{jk:Addr}{kQ:FuncData}(F:da K "_law_answered" "_law_answered" sF f fd) (B:ew ai) (vz:aU P w K ai base bf 4 od qC uh Dl) (vp:Binds K qC uh []) (BL:keepIn K (.ref od)=true) (va:ai "_law_full"=some (.ref od)) (sq:aU P w K ai base bf 2 lC m_ pZ yC) (sb:Binds K m_ pZ []) (Gy:keepIn K (.ref lC)=true) (n_:ai "_law_refusal"=some (.ref lC)) (lH:aU P w K ai base bf 2 hc h2 p0 y0) (lF:Binds K h2 p0 []) (xU:keepIn K (.ref hc)=true) (jN:ai "_law_put_in"=some (.ref hc)) (GE:aU P w K ai base bf 3 r8 x8 l1 CQ) (G1:Binds K x8 l1 []) (GA:keepIn K (.ref r8)=true) (Gx:ai "_law_end_in"=some (.ref r8)) (pK:aU P w K ai base bf 2 jm kS p1 yD) (pD:Binds K kS p1 []) (xX:keepIn K (.ref jm)=true) (pg:ai "_law_carry_in"=some (.ref jm)) (ow:aU P w K ai base bf 3 jk kQ p2 y2) (oo:Binds K kQ p2 []) (vc:keepIn K (.ref jk)=true) (n9:ai "_law_cut_in"=some (.ref jk)):aU P w K ai base bf 5 f fd l1 Cj:=by
 refine F.ok Kg (fun vs H Q E h=>?_) (fun b4 A outer s H vs Q E aC h=>?_)
 ·obtain⟨h,ce,ak,lo,pu,st,pl,x,v,e,n,rfl,_⟩:=h
  rfl
 obtain⟨h,ce,ak,lo,pu,st,pl,x,v,e,nn,rfl,bJ,bp,g,aS,q⟩:=h
 have a7:=gT aC
 refine⟨_,(bh (b_ (cn dv (bA bZ (af 1) aW (fun _ _=>rfl)) bw (bY _)) (bh (lO a7 (af 0) bw (c0 gJ (ek a7 (af 0) bw (fun _ _=>rfl)) aW) rfl) (bh (b_ (gy (dt vz (b9 aC) rfl va BL vp .nil cP (aq (af 0) (aq aW aK)))) (aZ (cF bw)) cZ) (bh (lO a7 (ek a7 (af 0) bw (fun _ _=>rfl)) (c0 qZ (ek a7 (af 0) bw (fun _ _=>rfl)) aW) (fl aK) rfl) (aZ (cF (c0 qZ (ek a7 (af 0) bw (fun _ _=>rfl)) aW)))))) cZ) (bh (dm (i:=2) Kg.bl rfl (Or.inl rfl) (dt sq (b9 aC) rfl n_ Gy sb .nil cP (aq (ek a7 (af 0) bw (fun _ _=>rfl)) (aq (ek a7 (af 0) bw (fun _ _=>rfl)) (aq (af 1) aK))))) (bh (b_ (cn i5 (af 2) bw (bY _)) (aZ (cF (af 2))) cZ) (bh (b_ (cn dv (bA bZ (af 1) aW (fun _ _=>rfl)) bw (bY _)) (bh (b_ (gy (dt vz (b9 aC) rfl va BL vp .nil cP (aq (af 0) (aq aW aK)))) (aZ (cF bw)) cZ) (bh (dz (jx plainAttrs_list PySem.F.slot_list_append PySem.F.type_list_append jo (ek a7 (ek a7 (af 0) bw (fun _ _=>rfl)) (bA bZ (af 1) aW (fun _ _=>rfl)) (fun _ _=>rfl)) (aq (gz (aq (bA bZ (af 1) aW (fun _ _=>rfl)) (aq (bA eH (ek a7 (af 0) bw (fun _ _=>rfl)) (bA bZ (af 1) aW (fun _ _=>rfl)) (fun _ _=>rfl)) aK))) aK))) (aZ (dz (dt lH (b9 aC) rfl jN xU lF .nil cP (aq (af 0) (aq (bA bZ (af 1) aW (fun _ _=>rfl)) (aq (bA bZ (af 1) aW (fun _ _=>rfl)) (aq (bA bZ (af 1) aW (fun _ _=>rfl)) aK))))))))) (aZ (b_ (lQ (cn dv (bA bZ (af 1) aW (fun _ _=>rfl)) bw (bY _)) (cn dv (bA bZ (af 1) aW (fun _ _=>rfl)) bw (bY _))) (aZ (dz (dt GE (b9 aC) rfl Gx GA G1 .nil cP (aq (af 0) (aq (af 1) aK))))) (aZ (b_ (cn dv (bA bZ (af 1) aW (fun _ _=>rfl)) bw (bY _)) (aZ (cF (bA eH (ek a7 (af 0) bw (fun _ _=>rfl)) (bA bZ (af 1) aW (fun _ _=>rfl)) (fun _ _=>rfl)))) (aZ (b_ (cn dv (bA bZ (af 1) aW (fun _ _=>rfl)) bw (bY _)) (aZ (dz (dt pK (b9 aC) rfl pg xX pD .nil cP (aq (af 0) (aq (bA bZ (af 1) aW (fun _ _=>rfl)) aK))))) (aZ (dz (dt ow (b9 aC) rfl n9 vc oo .nil cP (aq (af 0) aK))))))))))) (aZ (cF bw)))))),?_⟩
 cases e with
 | begin =>
  obtain⟨c,b6,rfl,aj,a4⟩:=kZ bp
  cases a4.str_inv
  refine⟨_,rfl,c,_,_,_,rfl,rfl,aF.of aj,rfl,rfl,_,rfl,dS rfl ?_⟩
  have aP:x.a_ .begin=if (x.began.full 1).2=true then ((x.began.full 1).1,.word "no room") else ((x.began.full 1).1.opened,.num x.begun):=rfl
  refine⟨_,rfl,h,_,rfl,bJ.Dz,_,_,rfl,rfl,_,rfl,h,_,rfl,bJ.W9 _,?_⟩
  have bq:bB _ h ce ak lo pu st pl x.began:=bJ.setB (n:=x.begun+1) (b:=(x.begun:Int)+1) (by omega)
  have bW:gq (own h ce ak pu st pl) H (upd H h (.bQ (putK (a8 ce ak lo pu st x.room x.begun) (Sum.inr "begun") (.int ((x.begun:Int)+1))))):=ju (bB.r2 ..)
  generalize upd H h (.bQ (putK (a8 ce ak lo pu st x.room x.begun) (Sum.inr "begun") (.int ((x.begun:Int)+1))))=au at bq bW ⊢
  have kg:x.began.fits (x.began.aB.length+1):=g.fits (by omega) (by have:=g.eF;show x.aB.length+1≤_;omega)
  refine⟨_,rfl,h,ce,ak,lo,pu,st,pl,x.began,1,rfl,bq,(by have:=g.pl;show x.aT.length≤200;omega),(by have:=g.eF;show x.aB.length≤1000;omega),kg,fun lo' a9 bX dB=>⟨_,rfl,?_⟩⟩
  cases hf:(x.began.full 1).2 with
  | true =>
   rw[hf,if_pos rfl]at aP
   refine fm ?_
   rw[aP]at q
   exact q lo' pl a9 bX (bW.l.trans dB) fun b aa=>.inl aa
  | false =>
   rw[hf,if_neg Bool.false_ne_true]at aP
   rw[aP]at q
   refine cU ?_
   have dT:(x.began.full 1).1.begun=x.begun+1:=kY
   have b7:(x.began.full 1).1.aT=x.aT:=jq
   have ht:(x.began.full 1).1.opened={ (x.began.full 1).1 with aT:=(x.began.full 1).1.aT++[((((x.began.full 1).1.begun:Nat):Int) - 1,[])] }:=rfl
   rw[ht]at q
   generalize (x.began.full 1).1=y at bX q dT b7
   have mS:y.isOpen ((y.begun:Int) - 1)=false:=by
    cases cg:y.isOpen ((y.begun:Int) - 1) with
    | false=>rfl
    | true =>
     have m:=mA cg
     rw[b7]at m
     have:=(g.ei _ m).2.1
     rw[dT]at this
     have XD:(((x.begun+1:Nat):Int) - 1)<(x.begun:Nat):=this
     omega
   refine⟨cS,fun u nN=>?_⟩
   have qv:=bX.there nN
   have s4:=bP nN (.lst [])
   have cj:(upd a9 u (.lst [])) u=some (.lst []):=aQ
   have nul:u≠lo':=by
    obtain⟨xs,eN,_⟩:=bX.az
    exact (cD eN nN).symm
   have ahK:u∉own h ce ak pu st pl→H u=none:=fun aS=>by
    cases e:H u with
    | none=>rfl
    | some bR =>
     have:=(bW.trans dB.1) u bR aS e
     rw[nN]at this
     cases this
   have c9:=bX.same s4
   generalize upd a9 u (.lst [])=cO at s4 cj c9 ⊢
   have EE:(dX pl).length<sizeLine:=ia (by
    have aJ:(dX pl).length=pl.length:=length_map _
    have aN:=bJ.lW
    have:=g.pl
    omega)
   refine⟨_,rfl,h,_,rfl,c9.kv,_,rfl,h,_,rfl,c9.Dz,_,_,rfl,rfl,pu,_,rfl,.inl ⟨_,Sum.inl ((y.begun:Int) - 1),c9.aI,rfl,EE,rfl⟩,?_⟩
   have fu:=c9.opened (d:=(y.begun:Int) - 1) cj qv nul mS
   refine⟨_,rfl,h,_,rfl,fu.Dz,_,_,rfl,rfl,?_⟩
   have lz:=q lo' _ _ fu (bW.l.trans (dB.trans ((bI.dQ s4).l.trans (ju (bB.mp ..)).l))) fun b aa=>by
    rw[oE]at aa
    rcases aa with e | e | e | e | e | ⟨z,hz,e⟩
    ·rw[e];exact .inl (bB.r2 ..)
    ·rw[e];exact .inl (bB.u_ ..)
    ·rw[e];exact .inl (bB.BF ..)
    ·rw[e];exact .inl (bB.mp ..)
    ·rw[e];exact .inl (bB.ms ..)
    ·rcases mem_append.mp hz with hz | hz
     ·rw[←e];exact .inl (bB.BE hz ..)
     ·have gu:=mem_singleton.mp hz
      rw[gu]at e
      rw[←e]
      exact .inr (ahK qv)
   have ev:V.int ((y.begun:Int) - 1)=(dp.num x.begun).v:=by
    show V.int _=V.int _
    rw[dT]
    congr 1
    omega
   show Q (V.int ((y.begun:Int) - 1)) _
   rw[ev]
   exact lz
 | put d p n =>
  obtain⟨c,b6,ck,j8,qs,rfl,aj,a4,bH,hq,jK⟩:=qS bp
  cases a4.str_inv
  cases bH.int_inv
  cases hq.int_inv
  cases jK.int_inv
  refine⟨_,rfl,c,_,_,_,rfl,rfl,aF.of aj,rfl,rfl,_,rfl,bx (by decide +kernel) ?_⟩
  refine⟨_,rfl,h,_,rfl,bJ.kv,_,rfl,h,_,rfl,bJ.k6,_,rfl,h,ce,ak,lo,pu,st,pl,x,.ref c,(.put d p n),rfl,bJ.p8,bp,g.fs,fun z hz=>(g.ei z hz).1,fun au s2=>?_⟩
  have bq:=bJ.same s2
  have cc:=s2 _ _ aj
  cases c7:x.refusal (.put d p n) with
  | some ww =>
   have aP:x.a_ (.put d p n)=(x,.word ww):=by unfold av.a_;rw[c7]
   rw[aP]at q
   refine⟨_,rfl,rfl,_,rfl,nF (qL c7) ?_⟩
   exact⟨_,rfl,q lo pl au bq ((bI.dQ s2).l) fun b aa=>.inl aa⟩
  | none =>
  have aP:x.a_ (.put d p n)=x.fy (.put d p n):=by unfold av.a_;rw[c7]
  rw[aP]at q
  refine⟨_,rfl,rfl,_,rfl,mJ rfl ?_⟩
  refine⟨_,rfl,c,_,_,_,rfl,rfl,aF.of cc,rfl,rfl,_,rfl,dS rfl ?_⟩
  have aH:x.isOpen d=true:=kp (.inl ⟨p,n,rfl⟩) c7
  obtain⟨qu,hX⟩:=ox (.inl ⟨d,n,rfl⟩) c7
  obtain⟨bz,rfl⟩:∃bz:Nat,p=(bz:Int):=⟨p.toNat,by omega⟩
  have kE:bz<x.aB.length:=by omega
  have dY:x.fy (.put d (bz:Int) n)=if (x.full 2).2=true then ((x.full 2).1,.word "no room") else ((((x.full 2).1.dA d (bz:Int).toNat).putIn d (bz:Int).toNat n),.word "done"):=rfl
  rw[Int.toNat_natCast]at dY
  have kg:x.fits (x.aB.length+1+1):=g.fits (by omega) (by have:=g.eF;omega)
  refine⟨_,rfl,h,ce,ak,lo,pu,st,pl,x,2,rfl,bq,(by have:=g.pl;omega),(by have:=g.eF;omega),kg.mono (by omega),fun lo' a9 bX dB=>⟨_,rfl,?_⟩⟩
  have fW:=(bI.dQ (f5:=own h ce ak pu st pl) s2).l.trans dB
  cases hf:(x.full 2).2 with
  | true =>
   rw[hf,if_pos rfl]at dY
   refine fm ?_
   rw[dY]at q
   exact q lo' pl a9 bX fW fun b aa=>.inl aa
  | false =>
   rw[hf,if_neg Bool.false_ne_true]at dY
   rw[dY]at q
   refine cU ?_
   have b7:(x.full 2).1.aT=x.aT:=jq
   have xw:(x.full 2).1.aB=x.aB:=nu
   have qB:(x.full 2).1.fits 1:=av.fits.full kg
   have kH:=bq.et dB.1 _ _ cc
   generalize (x.full 2).1=y at bX q b7 xw qB
   have rE:y.isOpen d=true:=by unfold av.isOpen;rw[b7];exact aH
   have w9:bz<y.aB.length:=by rw[xw];exact kE
   obtain⟨i,a,ys,aL,hw,aX,o1,cA⟩:=bX.pR rE
   obtain⟨o,fs,eF⟩:=bX.qp w9
   have ht:y.aB.getD bz 0=o:=by rw[getD_eq_getElem?_getD,fs];rfl
   have l3:=o1.length
   rw[length_map]at l3
   have jO:(y.dh d).length≤110:=by
    have m:=mA rE
    rw[b7]at m
    have ct:(y.dh d).length≤_:=(g.ei _ m).2.2.1
    omega
   refine⟨_,rfl,h,_,rfl,bX.kv,_,rfl,c,_,_,_,rfl,rfl,aF.of kH,rfl,pu,_,rfl,cA,.inl ⟨rfl,_,aR.of aX⟩,_,rfl,c,_,_,_,rfl,rfl,aF.of kH,rfl,_,rfl,h,_,rfl,bX.k6,_,rfl,c,_,_,_,rfl,rfl,aF.of kH,rfl,ak,_,_,_,rfl,rfl,aR.of bX.hd,eF,cS,fun t a6=>?_⟩
   have s4:=bP a6 (.tup [.int (bz:Nat),.int o])
   have cj:(upd a9 t (.tup [.int (bz:Nat),.int o])) t=some (.tup [.int (bz:Nat),.int o]):=aQ
   have c9:=bX.same s4
   have xm:=s4 _ _ kH
   generalize upd a9 t (.tup [.int (bz:Nat),.int o])=cO at s4 cj c9 xm ⊢
   refine⟨a,ys,.ref t,rfl,rfl,s4 _ _ aX,ia (by omega),?_⟩
   have fu:=c9.dA (y:=(bz,o)) (v:=.ref t) aL (s4 _ _ aX) (.gS cj (.cons .ofInt (.cons .ofInt .nil)))
   have Gu:a∈own h ce ak pu st pl:=bB.BE (mem_of_getElem? aL) ..
   have fa:gq (own h ce ak pu st pl) cO (upd cO a (.lst (ys++[.ref t]))):=ju Gu
   have l8:=c9.et fa _ _ xm
   have kO:y.dA d bz={ y with aT:=y.aT.map fun z=>if z.1=d then (z.1,z.2++[(bz,y.aB.getD bz 0)]) else z }:=rfl
   rw[ht]at kO
   rw[←kO]at fu
   generalize upd cO a (.lst (ys++[.ref t]))=d4 at fu fa l8 ⊢
   refine⟨_,rfl,_,rfl,c,_,_,_,rfl,rfl,aF.of l8,rfl,_,rfl,c,_,_,_,rfl,rfl,aF.of l8,rfl,_,rfl,c,_,_,_,rfl,rfl,aF.of l8,rfl,h,ce,ak,lo',pu,st,pl,y.dA d bz,d,bz,n,rfl,fu,w9,qB,fun d7 kW qI jM=>?_⟩
   exact q d7 pl kW qI (fW.trans ((bI.dQ s4).l.trans (fa.l.trans jM))) fun b aa=>.inl aa
 | fin d =>
  obtain⟨c,b6,ck,rfl,aj,a4,bH⟩:=er bp
  cases a4.str_inv
  cases bH.int_inv
  refine⟨_,rfl,c,_,_,_,rfl,rfl,aF.of aj,rfl,rfl,_,rfl,bx (by decide +kernel) ?_⟩
  refine⟨_,rfl,h,_,rfl,bJ.kv,_,rfl,h,_,rfl,bJ.k6,_,rfl,h,ce,ak,lo,pu,st,pl,x,.ref c,(.fin d),rfl,bJ.p8,bp,g.fs,fun z hz=>(g.ei z hz).1,fun au s2=>?_⟩
  have bq:=bJ.same s2
  have cc:=s2 _ _ aj
  cases c7:x.refusal (.fin d) with
  | some ww =>
   have aP:x.a_ (.fin d)=(x,.word ww):=by unfold av.a_;rw[c7]
   rw[aP]at q
   refine⟨_,rfl,rfl,_,rfl,nF (qL c7) ?_⟩
   exact⟨_,rfl,q lo pl au bq ((bI.dQ s2).l) fun b aa=>.inl aa⟩
  | none =>
  have aP:x.a_ (.fin d)=x.fy (.fin d):=by unfold av.a_;rw[c7]
  rw[aP]at q
  refine⟨_,rfl,rfl,_,rfl,mJ rfl ?_⟩
  refine⟨_,rfl,c,_,_,_,rfl,rfl,aF.of cc,rfl,rfl,_,rfl,bx (by decide +kernel) ?_⟩
  refine⟨_,rfl,c,_,_,_,rfl,rfl,aF.of cc,rfl,rfl,_,rfl,dS rfl (fm ?_)⟩
  have aH:x.isOpen d=true:=kp (.inr (.inl rfl)) c7
  have m:=g.ei _ (mA aH)
  have jO:(x.dh d).length≤nn:=m.2.2.1
  refine⟨_,rfl,_,rfl,h,ce,ak,lo,pu,st,pl,x,.ref c,false,d,rfl,bq,Rep.keep s2.et _ _ (b1.gA _) bp,aH,m.2.2.2,g.fits (by omega) (by omega),fun lo' a9 bX dB=>?_⟩
  refine q lo' _ a9 bX ((bI.dQ s2).l.trans dB) fun b aa=>.inl ?_
  rw[oE]at aa ⊢
  rcases aa with e | e | e | e | e | ⟨z,hz,e⟩
  ·exact .inl e
  ·exact .inr (.inl e)
  ·exact .inr (.inr (.inl e))
  ·exact .inr (.inr (.inr (.inl e)))
  ·exact .inr (.inr (.inr (.inr (.inl e))))
  ·exact .inr (.inr (.inr (.inr (.inr ⟨z,(mem_filter.mp hz).1,e⟩))))
 | drop d =>
  obtain⟨c,b6,ck,rfl,aj,a4,bH⟩:=er bp
  cases a4.str_inv
  cases bH.int_inv
  refine⟨_,rfl,c,_,_,_,rfl,rfl,aF.of aj,rfl,rfl,_,rfl,bx (by decide +kernel) ?_⟩
  refine⟨_,rfl,h,_,rfl,bJ.kv,_,rfl,h,_,rfl,bJ.k6,_,rfl,h,ce,ak,lo,pu,st,pl,x,.ref c,(.drop d),rfl,bJ.p8,bp,g.fs,fun z hz=>(g.ei z hz).1,fun au s2=>?_⟩
  have bq:=bJ.same s2
  have cc:=s2 _ _ aj
  cases c7:x.refusal (.drop d) with
  | some ww =>
   have aP:x.a_ (.drop d)=(x,.word ww):=by unfold av.a_;rw[c7]
   rw[aP]at q
   refine⟨_,rfl,rfl,_,rfl,nF (qL c7) ?_⟩
   exact⟨_,rfl,q lo pl au bq ((bI.dQ s2).l) fun b aa=>.inl aa⟩
  | none =>
  have aP:x.a_ (.drop d)=x.fy (.drop d):=by unfold av.a_;rw[c7]
  rw[aP]at q
  refine⟨_,rfl,rfl,_,rfl,mJ rfl ?_⟩
  refine⟨_,rfl,c,_,_,_,rfl,rfl,aF.of cc,rfl,rfl,_,rfl,bx (by decide +kernel) ?_⟩
  refine⟨_,rfl,c,_,_,_,rfl,rfl,aF.of cc,rfl,rfl,_,rfl,bx (by decide +kernel) ?_⟩
  refine⟨_,rfl,c,_,_,_,rfl,rfl,aF.of cc,rfl,rfl,_,rfl,dS rfl ?_⟩
  have aH:x.isOpen d=true:=kp (.inr (.inr rfl)) c7
  have m:=g.ei _ (mA aH)
  have jO:(x.dh d).length≤nn:=m.2.2.1
  refine⟨_,rfl,_,rfl,h,ce,ak,lo,pu,st,pl,x,.ref c,true,d,rfl,bq,Rep.keep s2.et _ _ (b1.gA _) bp,aH,m.2.2.2,g.fits (by omega) (by omega),fun lo' a9 bX dB=>?_⟩
  refine q lo' _ a9 bX ((bI.dQ s2).l.trans dB) fun b aa=>.inl ?_
  rw[oE]at aa ⊢
  rcases aa with e | e | e | e | e | ⟨z,hz,e⟩
  ·exact .inl e
  ·exact .inr (.inl e)
  ·exact .inr (.inr (.inl e))
  ·exact .inr (.inr (.inr (.inl e)))
  ·exact .inr (.inr (.inr (.inr (.inl e))))
  ·exact .inr (.inr (.inr (.inr (.inr ⟨z,(mem_filter.mp hz).1,e⟩))))
 | look p =>
  obtain⟨c,b6,ck,rfl,aj,a4,bH⟩:=er bp
  cases a4.str_inv
  cases bH.int_inv
  refine⟨_,rfl,c,_,_,_,rfl,rfl,aF.of aj,rfl,rfl,_,rfl,bx (by decide +kernel) ?_⟩
  refine⟨_,rfl,h,_,rfl,bJ.kv,_,rfl,h,_,rfl,bJ.k6,_,rfl,h,ce,ak,lo,pu,st,pl,x,.ref c,(.look p),rfl,bJ.p8,bp,g.fs,fun z hz=>(g.ei z hz).1,fun au s2=>?_⟩
  have bq:=bJ.same s2
  have cc:=s2 _ _ aj
  cases c7:x.refusal (.look p) with
  | some ww =>
   have aP:x.a_ (.look p)=(x,.word ww):=by unfold av.a_;rw[c7]
   rw[aP]at q
   refine⟨_,rfl,rfl,_,rfl,nF (qL c7) ?_⟩
   exact⟨_,rfl,q lo pl au bq ((bI.dQ s2).l) fun b aa=>.inl aa⟩
  | none =>
  have aP:x.a_ (.look p)=x.fy (.look p):=by unfold av.a_;rw[c7]
  rw[aP]at q
  refine⟨_,rfl,rfl,_,rfl,mJ rfl ?_⟩
  refine⟨_,rfl,c,_,_,_,rfl,rfl,aF.of cc,rfl,rfl,_,rfl,bx (by decide +kernel) ?_⟩
  refine⟨_,rfl,c,_,_,_,rfl,rfl,aF.of cc,rfl,rfl,_,rfl,bx (by decide +kernel) ?_⟩
  refine⟨_,rfl,c,_,_,_,rfl,rfl,aF.of cc,rfl,rfl,_,rfl,bx (by decide +kernel) ?_⟩
  obtain⟨qu,hX⟩:=ox (.inr (.inl rfl)) c7
  obtain⟨bz,rfl⟩:∃bz:Nat,p=(bz:Int):=⟨p.toNat,by omega⟩
  have kE:bz<x.aB.length:=by omega
  refine⟨_,rfl,c,_,_,_,rfl,rfl,aF.of cc,rfl,rfl,_,rfl,dS rfl ?_⟩
  obtain⟨o,fs,eF⟩:=bq.qp kE
  have dY:x.fy (.look (bz:Int))=(x,.num (x.aB.getD (bz:Int).toNat 0)):=rfl
  rw[Int.toNat_natCast,getD_eq_getElem?_getD,fs,Option.getD_some]at dY
  rw[dY]at q
  exact⟨_,rfl,h,_,rfl,bq.k6,_,rfl,c,_,_,_,rfl,rfl,aF.of cc,rfl,ak,_,_,_,rfl,rfl,aR.of bq.hd,eF,q lo pl au bq ((bI.dQ s2).l) fun b aa=>.inl aa⟩
 | carry p =>
  obtain⟨c,b6,ck,rfl,aj,a4,bH⟩:=er bp
  cases a4.str_inv
  cases bH.int_inv
  refine⟨_,rfl,c,_,_,_,rfl,rfl,aF.of aj,rfl,rfl,_,rfl,bx (by decide +kernel) ?_⟩
  refine⟨_,rfl,h,_,rfl,bJ.kv,_,rfl,h,_,rfl,bJ.k6,_,rfl,h,ce,ak,lo,pu,st,pl,x,.ref c,(.carry p),rfl,bJ.p8,bp,g.fs,fun z hz=>(g.ei z hz).1,fun au s2=>?_⟩
  have bq:=bJ.same s2
  have cc:=s2 _ _ aj
  cases c7:x.refusal (.carry p) with
  | some ww =>
   have aP:x.a_ (.carry p)=(x,.word ww):=by unfold av.a_;rw[c7]
   rw[aP]at q
   refine⟨_,rfl,rfl,_,rfl,nF (qL c7) ?_⟩
   exact⟨_,rfl,q lo pl au bq ((bI.dQ s2).l) fun b aa=>.inl aa⟩
  | none =>
  have aP:x.a_ (.carry p)=x.fy (.carry p):=by unfold av.a_;rw[c7]
  rw[aP]at q
  refine⟨_,rfl,rfl,_,rfl,mJ rfl ?_⟩
  refine⟨_,rfl,c,_,_,_,rfl,rfl,aF.of cc,rfl,rfl,_,rfl,bx (by decide +kernel) ?_⟩
  refine⟨_,rfl,c,_,_,_,rfl,rfl,aF.of cc,rfl,rfl,_,rfl,bx (by decide +kernel) ?_⟩
  refine⟨_,rfl,c,_,_,_,rfl,rfl,aF.of cc,rfl,rfl,_,rfl,bx (by decide +kernel) ?_⟩
  obtain⟨qu,hX⟩:=ox (.inr (.inr rfl)) c7
  obtain⟨bz,rfl⟩:∃bz:Nat,p=(bz:Int):=⟨p.toNat,by omega⟩
  have kE:bz<x.aB.length:=by omega
  refine⟨_,rfl,c,_,_,_,rfl,rfl,aF.of cc,rfl,rfl,_,rfl,bx (by decide +kernel) ?_⟩
  refine⟨_,rfl,c,_,_,_,rfl,rfl,aF.of cc,rfl,rfl,_,rfl,dS rfl ?_⟩
  have dY:x.fy (.carry (bz:Int))=(x.ea (bz:Int).toNat,.word "done"):=rfl
  rw[Int.toNat_natCast]at dY
  rw[dY]at q
  refine⟨_,rfl,_,rfl,c,_,_,_,rfl,rfl,aF.of cc,rfl,h,ce,ak,lo,pu,st,pl,x,bz,rfl,bq,kE,g.fits (by omega) (by omega),fun lo' a9 bX dB=>?_⟩
  exact q lo' pl a9 bX ((bI.dQ s2).l.trans dB) fun b aa=>.inl aa
 | cut =>
  obtain⟨c,b6,rfl,aj,a4⟩:=kZ bp
  cases a4.str_inv
  refine⟨_,rfl,c,_,_,_,rfl,rfl,aF.of aj,rfl,rfl,_,rfl,bx (by decide +kernel) ?_⟩
  refine⟨_,rfl,h,_,rfl,bJ.kv,_,rfl,h,_,rfl,bJ.k6,_,rfl,h,ce,ak,lo,pu,st,pl,x,.ref c,(.cut),rfl,bJ.p8,bp,g.fs,fun z hz=>(g.ei z hz).1,fun au s2=>?_⟩
  have bq:=bJ.same s2
  have cc:=s2 _ _ aj
  cases c7:x.refusal (.cut) with
  | some ww =>
   have aP:x.a_ (.cut)=(x,.word ww):=by unfold av.a_;rw[c7]
   rw[aP]at q
   refine⟨_,rfl,rfl,_,rfl,nF (qL c7) ?_⟩
   exact⟨_,rfl,q lo pl au bq ((bI.dQ s2).l) fun b aa=>.inl aa⟩
  | none =>
  have aP:x.a_ (.cut)=x.fy (.cut):=by unfold av.a_;rw[c7]
  rw[aP]at q
  refine⟨_,rfl,rfl,_,rfl,mJ rfl ?_⟩
  refine⟨_,rfl,c,_,_,_,rfl,rfl,aF.of cc,rfl,rfl,_,rfl,bx (by decide +kernel) ?_⟩
  refine⟨_,rfl,c,_,_,_,rfl,rfl,aF.of cc,rfl,rfl,_,rfl,bx (by decide +kernel) ?_⟩
  refine⟨_,rfl,c,_,_,_,rfl,rfl,aF.of cc,rfl,rfl,_,rfl,bx (by decide +kernel) ?_⟩
  refine⟨_,rfl,c,_,_,_,rfl,rfl,aF.of cc,rfl,rfl,_,rfl,bx (by decide +kernel) ?_⟩
  refine⟨_,rfl,c,_,_,_,rfl,rfl,aF.of cc,rfl,rfl,_,rfl,bx (by decide +kernel) ?_⟩
  have dY:x.fy .cut=(x.dW,.word "done"):=rfl
  rw[dY]at q
  refine⟨_,rfl,h,ce,ak,lo,pu,st,pl,x,rfl,bq,g.fits (by omega) (by omega),fun lo' a9 bX dB=>?_⟩
  exact q lo' pl a9 bX ((bI.dQ s2).l.trans dB) fun b aa=>.inl aa
def av.new (ps:List Int) (room:Int):av:=⟨ps,ps,[],[],room,0,[]⟩
def CO:c3:=fun vs H Q _=>∃(p:Addr) (ps:List Int) (room:Int),vs=[.ref p,.int room]∧H p=some (.lst (ps.map V.int)) ∧
 ∀h ce ak lo pu st ah,bI H ah→bB ah h ce ak lo pu st [] (av.new ps room)→(∀b∈own h ce ak pu st [],H b=none)→Q (.ref h) ah
def CM:c3:=fun vs H Q _=>∃(i c:Int),vs=[.int i,.int c]∧1≤c∧c≤100∧∀(p:Addr) (ps:List Int) (ah:ao),bI H ah→H p=none→ah p=some (.lst (ps.map V.int))→ps.length=c.toNat→Q (.ref p) ah
theorem Jm:dk ["_law_pages","_law_room","_law_house"] ug (bF tg):=dM
theorem VL (ce ak lo pu st:Addr) (room:Int):putK (putK (putK (lR [] [(Sum.inr "cellar",V.ref ce),(Sum.inr "desk",V.ref ak),(Sum.inr "log",V.ref lo),(Sum.inr "puts",V.ref pu)]) (Sum.inr "room") (.int room)) (Sum.inr "begun") (.int 0)) (Sum.inr "strokes") (.ref st)=a8 ce ak lo pu st room 0:=by kernel_rfl
theorem Vy (F:da K "_law_house_of" "_law_house_of" tg f fd) (B:ew ai):aU P w K ai base bf 1 f fd ug CO:=by
 refine F.ok Jm (fun vs H Q E h=>?_) (fun b4 A outer s H vs Q E aC h=>?_)
 ·obtain⟨p,ps,room,rfl,_⟩:=h
  rfl
 obtain⟨p,ps,room,rfl,aI,q⟩:=h
 have a7:=gT aC
 refine⟨_,(bh (dm (i:=2) Jm.bl rfl (Or.inl rfl) (Wj (yR bw (h_ nq rfl B.lst ic (aq (af 0) aK)) (yR bw (h_ nq rfl B.lst ic (aq (af 0) aK)) (yR bw (fl aK) (yR bw vU Wi)))) rfl rfl (fun z=>nomatch z) (by decide))) (bh (lO a7 (af 2) bw (af 1) rfl) (bh (lO a7 (af 2) bw aW rfl) (bh (lO a7 (af 2) bw (fl aK) rfl) (aZ (cF (af 2))))))),?_⟩
 intro h dD
 have s0:=bP dD (.bQ [])
 have e0:(upd H h (.bQ [])) h=some (.bQ []):=aQ
 generalize upd H h (.bQ [])=cW at s0 e0 ⊢
 refine⟨_,rfl,p,_,rfl,.inl (aR.of (s0 _ _ aI)),fun ce FE=>?_⟩
 have s1:=bP FE (.lst (ps.map V.int))
 have aJ:(upd cW ce (.lst (ps.map V.int))) ce=some (.lst (ps.map V.int)):=aQ
 have f1:=s0.free FE
 generalize upd cW ce (.lst (ps.map V.int))=H1 at s1 aJ ⊢
 have ng:=s0.trans s1
 refine⟨_,rfl,p,_,rfl,.inl (aR.of (ng _ _ aI)),fun ak rJ=>?_⟩
 have s2:=bP rJ (.lst (ps.map V.int))
 have aN:(upd H1 ak (.lst (ps.map V.int))) ak=some (.lst (ps.map V.int)):=aQ
 have f2:=ng.free rJ
 generalize upd H1 ak (.lst (ps.map V.int))=au at s2 aN ⊢
 have gb:=ng.trans s2
 refine⟨cS,fun lo l7=>?_⟩
 have s3:=bP l7 (.lst [])
 have b2:(upd au lo (.lst [])) lo=some (.lst []):=aQ
 generalize upd au lo (.lst [])=a9 at s3 b2 ⊢
 have gw:=gb.trans s3
 intro pu hn
 have s4:=bP hn (.bQ [])
 have cj:(upd a9 pu (.bQ [])) pu=some (.bQ []):=aQ
 have f4:=gw.free hn
 generalize upd a9 pu (.bQ [])=cO at s4 cj ⊢
 have hH:=gw.trans s4
 have cL:=(s2.trans (s3.trans s4)) _ _ aJ
 have dV:=(s3.trans s4) _ _ aN
 have ep:=s4 _ _ b2
 have x_:=(s1.trans (s2.trans (s3.trans s4))) _ _ e0
 have dH:ce≠h:=(cD e0 FE).symm
 have dC:ak≠h:=(cD (s1 _ _ e0) rJ).symm
 have ej:lo≠h:=(cD ((s1.trans s2) _ _ e0) l7).symm
 have e4:pu≠h:=(cD ((s1.trans (s2.trans s3)) _ _ e0) hn).symm
 have fL:ce≠ak:=cD aJ rJ
 have f6:ce≠lo:=cD (s2 _ _ aJ) l7
 have gN:ce≠pu:=cD ((s2.trans s3) _ _ aJ) hn
 have gM:ak≠lo:=cD aN l7
 have kK:ak≠pu:=cD (s3 _ _ aN) hn
 have na:lo≠pu:=cD b2 hn
 refine⟨x_,[(Sum.inr "cellar",V.ref ce),(Sum.inr "desk",V.ref ak),(Sum.inr "log",V.ref lo),(Sum.inr "puts",V.ref pu)],rfl,le_of_ble_eq_true rfl,?_⟩
 have amC:(lR [] [(Sum.inr "cellar",V.ref ce),(Sum.inr "desk",V.ref ak),(Sum.inr "log",V.ref lo),(Sum.inr "puts",V.ref pu)]).length≤4:=by
  have:=B2 [(Sum.inr "cellar",V.ref ce),(Sum.inr "desk",V.ref ak),(Sum.inr "log",V.ref lo),(Sum.inr "puts",V.ref pu)] []
  exact this
 have L2:(putK (lR [] [(Sum.inr "cellar",V.ref ce),(Sum.inr "desk",V.ref ak),(Sum.inr "log",V.ref lo),(Sum.inr "puts",V.ref pu)]) (Sum.inr "room") (.int room)).length≤5:=by
  have:=pL (lR [] [(Sum.inr "cellar",V.ref ce),(Sum.inr "desk",V.ref ak),(Sum.inr "log",V.ref lo),(Sum.inr "puts",V.ref pu)]) (Sum.inr "room") (.int room)
  omega
 have amB:(putK (putK (lR [] [(Sum.inr "cellar",V.ref ce),(Sum.inr "desk",V.ref ak),(Sum.inr "log",V.ref lo),(Sum.inr "puts",V.ref pu)]) (Sum.inr "room") (.int room)) (Sum.inr "begun") (.int 0)).length≤6:=by
  have:=pL (putK (lR [] [(Sum.inr "cellar",V.ref ce),(Sum.inr "desk",V.ref ak),(Sum.inr "log",V.ref lo),(Sum.inr "puts",V.ref pu)]) (Sum.inr "room") (.int room)) (Sum.inr "begun") (.int 0)
  omega
 refine⟨_,rfl,_,rfl,h,_,rfl,.inl ⟨_,Sum.inr "room",aQ,rfl,ia (by omega),rfl⟩,?_⟩
 rw[qT]
 refine⟨_,rfl,h,_,rfl,.inl ⟨_,Sum.inr "begun",aQ,rfl,ia (by omega),rfl⟩,?_⟩
 rw[qT]
 refine⟨cS,fun st ja=>?_⟩
 have zT:(upd cO h (.bQ (putK (putK (lR [] [(Sum.inr "cellar",V.ref ce),(Sum.inr "desk",V.ref ak),(Sum.inr "log",V.ref lo),(Sum.inr "puts",V.ref pu)]) (Sum.inr "room") (.int room)) (Sum.inr "begun") (.int 0)))) st=none:=ja
 have m0:st≠h:=fun e=>by rw[e,aQ]at zT;cases zT
 have wI:cO st=none:=by rw[aA m0]at zT;exact zT
 have e6:=hH.free wI
 refine⟨_,rfl,h,_,rfl,.inl ⟨_,Sum.inr "strokes",by rw[aA m0.symm];exact aQ,rfl,ia (by omega),rfl⟩,?_⟩
 rw[VL]
 have fM:ce≠st:=cD cL wI
 have fb:ak≠st:=cD dV wI
 have eW:lo≠st:=cD ep wI
 have f7:pu≠st:=cD cj wI
 refine⟨_,rfl,q h ce ak lo pu st _ ?_ ?_ ?_⟩
 ·intro b o aa
  have nb:b≠h:=fun e=>by rw[e,dD]at aa;cases aa
  have ns:b≠st:=fun e=>by rw[e,e6]at aa;cases aa
  rw[aA nb,aA ns,aA nb]
  exact hH _ _ aa
 ·refine⟨aQ,by rw[aA dH,aA fM,aA dH];exact cL,by rw[aA dC,aA fb,aA dC];exact dV,⟨[],by rw[aA ej,aA eW,aA ej];exact ep,.nil⟩,by rw[aA e4,aA f7,aA e4];exact cj,rfl,fun i z w a=>by simp at a,nodup_nil,⟨[],by rw[aA m0,aQ],.nil⟩,?_,?_,rfl⟩
  ·unfold own
   simp[dH.symm,dC.symm,e4.symm,m0.symm,fL,gN,fM,kK,fb,f7]
  ·unfold own
   simp[ej,f6.symm,gM.symm,na,eW]
 ·intro b aa
  rw[oE]at aa
  rcases aa with e | e | e | e | e | ⟨z,hz,_⟩
  ·rw[e];exact dD
  ·rw[e];exact f1
  ·rw[e];exact f2
  ·rw[e];exact f4
  ·rw[e];exact e6
  ·cases hz
theorem V_:dk ri ri (bF tb):=dM
theorem Vx (F:da K "_law_pages_of" "_law_pages_of" tb f fd) (B:ew ai):aU P w K ai base bf 1 f fd ri CM:=by
 refine F.ok V_ (fun vs H Q E h=>?_) (fun b4 A outer s H vs Q E aC h=>?_)
 ·obtain⟨i,c,rfl,_⟩:=h
  rfl
 obtain⟨i,c,rfl,ay,aG,q⟩:=h
 refine⟨_,(aZ (cF (y9 [0] ["_law_k","_law_cell"] (k8.one (fv:="_law_cell") (j:=0) rfl (by decide +kernel) (by decide +kernel) rfl (by decide +kernel) rfl rfl (by decide +kernel) rfl rfl rfl) rfl (qQ rfl B.l0 (aq (af 1) aK)) (fun C s1 H1 b5=>(bA (VQ (K:=K) rfl) (fl (aq (c0 jv (c0 gJ (af 1) (c0 zh aW (af 0))) aW) (aq (c0 qZ (c0 jv (af 1) (c0 Dv aW aW)) (af 0)) aK))) (c0 jv (af 0) aW) (fun _ _=>rfl)))))),?_⟩
 refine⟨_,rfl,c,rfl,by omega,by omega,fun acc e1=>TY (fun v=>∃z:Int,v=.int z) e1 (by omega) (fun k a9 qz a8 xg=>?_) fun ys ah gg uE s1 aJ=>?_⟩
 ·refine⟨_,rfl,_,rfl,_,_,rfl,rfl,.inl ⟨by decide,by decide⟩,_,_,rfl,rfl,_,_,rfl,rfl,(by decide:(0:Int)<7),_,rfl,_,_,rfl,rfl,⟨by decide,by decide,by decide⟩,_,_,rfl,rfl,(show (0:Int)<10 ^ (30:Int).toNat by decide),_,rfl,_,_,rfl,rfl,cS,fun t a6=>?_⟩
  refine⟨_,rfl,_,_,rfl,rfl,(by decide:(0:Int)<2),?_⟩
  obtain⟨z,a1,e7⟩:=ku (ns:=[(i+3 * (0+(k:Int))) % 7,i % 10 ^ (30:Int).toNat - (0+(k:Int))]) (k:=(0+(k:Int)) % 2) (by omega) (by show _<(2:Int);omega)
  exact⟨t,_,_,_,rfl,rfl,aR.of aQ,e7,xg _ _ ⟨z,rfl⟩ (bP a6 _)⟩
 ·obtain⟨ps,rfl⟩:=ints_of uE
  rw[length_map]at gg
  exact q acc ps ah s1 e1 aJ gg
structure hK (K:PySem.W.Frag) (ai:Str→Option Value) (C:Addr):Prop where
 cl:kJ K C
 sW:i3 K C "cellar"
 nC:i3 K C "desk"
 Km:i3 K C "room"
 yV:i3 K C "strokes"
 C5:i3 K C "begins"
 pY:i3 K C "puts"
 C4:i3 K C "takers"
 wi:i3 K C "bound"
 Al:ai "House"=some (.ref C)
abbrev qo:List Value:=[.type "ValueError",.type "Exception",.type "BaseException",.type "object"]
structure rU (K:PySem.W.Frag) (ai:Str→Option Value) (cJ cy cN cI:Addr):Prop where
 ha:ai "NoDealing"=some (.ref cJ)
 jN:ai "NoPage"=some (.ref cy)
 BG:ai "Taken"=some (.ref cN)
 n_:ai "NoRoom"=some (.ref cI)
 akf:excIn K cJ qo "ValueError.__new__"=true
 ake:excIn K cy qo "ValueError.__new__"=true
 akc:excIn K cN qo "ValueError.__new__"=true
 akd:excIn K cI qo "ValueError.__new__"=true
theorem W8 {P:Program}{w:World}{X:bE}:Passes (di P w) X S7:=fun _ _ _ _ _ _ _ h=>by
 obtain⟨_,_,_,_,_,_,_,_,_,q⟩:=h
 exact q.elim
def DQ (C:Addr):c3:=fun vs H Q _=>∃(c cp cX:Addr) (x:V) (ps ls:List V) (fK:h6),vs=[.ref c,x]∧zv C H c cp cX ps ls∧D_ H fK x∧fK.ok ps.length∧ls.length≤199999 ∧
 ∀(l4:Addr) (ah:ao),zv C ah c cp l4 (h6.cp ps fK) (h6.cX ls fK)→(l4=cX∨H l4=none)→(∀b o,H b=some o→b≠c→b≠cp→(b≠cX∨l4≠cX)→ah b=some o)→Q .cE ah
def tX (a3 aD:Addr):c3:=fun vs H Q _=>∃(a:dZ) (lo:Addr) (pl:List (Int × Addr)) (x:av) (aO:List (Key × V)) (v:V) (s:bO),vs=[.ref a.h,v]∧cG a3 aD H a lo pl x aO∧Rep H s.D v∧s.okIn x∧x.fits 1 ∧
 ∀lo' ah,cG a3 aD ah a lo' pl (x.cT s) aO→ef a lo pl lo' pl H ah→Q .cE ah
def zN (a3 aD:Addr):c3:=fun vs H Q _=>∃(a:dZ) (lo:Addr) (pl:List (Int × Addr)) (x:av) (aO:List (Key × V)) (d:Int) (p:Nat) (n:Int),vs=[.ref a.h,.int d,.int (p:Nat),.int n]∧cG a3 aD H a lo pl x aO∧p<x.aB.length∧x.fits 1 ∧
 ∀lo' ah,cG a3 aD ah a lo' pl (x.putIn d p n) aO→ef a lo pl lo' pl H ah→Q .cE ah
def Dk (a3 aD:Addr):c3:=fun vs H Q _=>∃(a:dZ) (lo:Addr) (pl:List (Int × Addr)) (x:av) (aO:List (Key × V)) (m:Int),vs=[.ref a.h,.int m]∧cG a3 aD H a lo pl x aO∧Q (.bV (x.fZ m)) H
def wc (a3 aD cy:Addr):c3:=fun vs H Q E=>∃(a:dZ) (lo:Addr) (pl:List (Int × Addr)) (x:av) (aO:List (Key × V)) (p:Int),vs=[.ref a.h,.int p]∧cG a3 aD H a lo pl x aO∧p.natAbs.log2<1920∧(if p<0∨(x.aB.length:Int)≤p then E (.ref cy) none H else Q .cE H)
def wd (a3 aD cJ:Addr):c3:=fun vs H Q E=>∃(a:dZ) (lo:Addr) (pl:List (Int × Addr)) (x:av) (aO:List (Key × V)) (d:Int),vs=[.ref a.h,.int d]∧cG a3 aD H a lo pl x aO∧d.natAbs.log2<1920∧(if x.isOpen d=false then E (.ref cJ) none H else Q .cE H)
def Dp (a3 aD cN:Addr):c3:=fun vs H Q E=>∃(a:dZ) (lo:Addr) (pl:List (Int × Addr)) (x:av) (aO:List (Key × V)) (d:Int) (p:Nat),vs=[.ref a.h,.int d,.int (p:Nat)]∧cG a3 aD H a lo pl x aO∧x.begun≤1000∧p≤1000∧(if x.d5 p=none∨x.d5 p=some d then Q .cE H else E (.ref cN) none H)
theorem Zz:dk rg rg (bF tr):=dM
theorem VF {C:Addr}(F:da K "__init__" "Cellar.__init__" tr f fd) (B:ew ai) (T:pN K ai C):aU P w K ai base bf 1 f fd rg (CT C):=by
 refine F.ok Zz (fun vs H Q E h=>?_) (fun b4 A outer s H vs Q E aC h=>?_)
 ·obtain⟨c,dx,a,b,ps,ls,rfl,_⟩:=h
  rfl
 obtain⟨c,dx,a,b,ps,ls,rfl,aj,aX,aa,k⟩:=h
 refine⟨_,(bh (mD (af 0) (h_ nq rfl B.lst ic (aq (af 1) aK)) rfl) (aZ (mD (af 0) (h_ nq rfl B.lst ic (aq (af 2) aK)) rfl))),?_⟩
 refine⟨_,rfl,a,ps,rfl,.inl (aR.of aX),fun cp nP=>?_⟩
 have ry:c≠cp:=cD aj nP
 have alU:c≠a:=dK aj aX (by intro z;cases z)
 have agG:c≠b:=dK aj aa (by intro z;cases z)
 have agH:b≠cp:=cD aa nP
 refine⟨_,rfl,c,C,dx,[],rfl,(by rw[aA ry];exact aj),T.cl,T.BD,(by show 0<1000;decide),?_⟩
 refine⟨_,rfl,b,ls,rfl,.inl (aR.of (by rw[aA agG.symm,aA agH];exact aa)),fun cX j4=>?_⟩
 have Ag:cX≠c:=fun z=>by rw[z,aQ]at j4;cases j4
 have Es:cX≠cp:=fun z=>by rw[z,aA ry.symm,aQ]at j4;cases j4
 have Ll:H cX=none:=by rw[aA Ag,aA Es]at j4;exact j4
 refine⟨_,rfl,c,C,dx,_,rfl,(by rw[aA Ag.symm];exact aQ),T.cl,T.u9,(by show 1<1000;decide),?_⟩
 refine k cp cX _ nP Ll ⟨⟨dx,aQ⟩,by rw[aA ry.symm,aA Es.symm,aA ry.symm,aQ],by rw[aA Ag,aQ],Es.symm⟩ fun d o e hd=>?_
 rw[aA hd,aA (cD e Ll),aA hd,aA (cD e nP)]
 exact e
theorem Zx:dk hP hP (bF uw):=dM
theorem X3 {C:Addr}(F:da K "do_stroke" "Cellar.do_stroke" uw f fd) (T:pN K ai C):aU P w K ai base bf 1 f fd hP (DQ C):=by
 refine F.ok Zx (fun vs H Q E h=>?_) (fun b4 A outer s H vs Q E aC h=>?_)
 ·obtain⟨c,cp,cX,x,ps,ls,fK,rfl,_⟩:=h
  rfl
 obtain⟨c,cp,cX,x,ps,ls,fK,rfl,⟨⟨dx,ay⟩,aI,az,Ae⟩,jb,bD,qq,k⟩:=h
 have ry:c≠cp:=dK ay aI (by intro z;cases z)
 have Ez:c≠cX:=dK ay az (by intro z;cases z)
 refine⟨_,(aZ (b_ (cn dv (bA bZ (af 1) aW (fun _ _=>rfl)) bw (bY _)) (aZ (dz (jx plainAttrs_list PySem.F.slot_list_append PySem.F.type_list_append jo (eZ (af 0) rfl) (aq (bA bZ (af 1) aW (fun _ _=>rfl)) aK)))) (aZ (b_ (cn dv (bA bZ (af 1) aW (fun _ _=>rfl)) bw (bY _)) (aZ (oH (bA bZ (af 1) aW (fun _ _=>rfl)) (tx (eZ (af 0) rfl) (bA bZ (af 1) aW (fun _ _=>rfl)) set_list))) (aZ (b_ (cn dv (bA bZ (af 1) aW (fun _ _=>rfl)) bw (bY _)) (aZ (mD (af 0) (nv pP (eZ (af 0) rfl) (ny (bA bZ (af 1) aW (fun _ _=>rfl))) nA) rfl)) cZ)))))),?_⟩
 cases fK with
 | line v =>
  obtain⟨t,rfl,a6⟩:=jb
  refine⟨_,rfl,t,_,_,_,rfl,rfl,aF.of a6,rfl,rfl,_,rfl,dS rfl ?_⟩
  refine⟨_,rfl,c,C,dx,_,_,rfl,ay,T.cl,T.u9,yJ _ _,.inl ⟨rfl,_,aR.of az⟩,_,rfl,t,_,_,_,rfl,rfl,aF.of a6,rfl,cX,_,v,rfl,rfl,az,ia (by omega),?_⟩
  refine k cX _ ⟨⟨dx,by rw[aA Ez];exact ay⟩,by rw[aA Ae];exact aI,aQ,Ae⟩ (.inl rfl) fun b o e _ _ ej=>?_
  rw[aA (ej.elim id fun z=>absurd rfl z)]
  exact e
 | eO j n =>
  obtain⟨t,rfl,a6⟩:=jb
  refine⟨_,rfl,t,_,_,_,rfl,rfl,aF.of a6,rfl,rfl,_,rfl,bx zB ?_⟩
  refine⟨_,rfl,t,_,_,_,rfl,rfl,aF.of a6,rfl,rfl,_,rfl,dS rfl ?_⟩
  refine⟨_,rfl,t,_,_,_,rfl,rfl,aF.of a6,rfl,_,rfl,c,C,dx,_,_,rfl,ay,T.cl,T.BD,Cd _ _,_,rfl,t,_,_,_,rfl,rfl,aF.of a6,rfl,cp,_,_,j,rfl,rfl,aI,sX bD,?_⟩
  refine k cX _ ⟨⟨dx,by rw[aA ry];exact ay⟩,aQ,by rw[aA Ae.symm];exact az,Ae⟩ (.inl rfl) fun b o e _ dC _=>?_
  rw[aA dC]
  exact e
 | cut m =>
  obtain⟨t,rfl,a6⟩:=jb
  refine⟨_,rfl,t,_,_,_,rfl,rfl,aF.of a6,rfl,rfl,_,rfl,bx zJ ?_⟩
  refine⟨_,rfl,t,_,_,_,rfl,rfl,aF.of a6,rfl,rfl,_,rfl,bx Yr ?_⟩
  refine⟨_,rfl,t,_,_,_,rfl,rfl,aF.of a6,rfl,rfl,_,rfl,dS rfl ?_⟩
  refine⟨_,rfl,c,C,dx,_,_,rfl,ay,T.cl,T.u9,yJ _ _,_,rfl,t,_,_,_,rfl,rfl,aF.of a6,rfl,m,rfl,cX,_,rfl,aR.of az,fun l4 zV=>?_⟩
  have Le:c≠l4:=cD ay zV
  have Lb:cp≠l4:=cD aI zV
  refine⟨_,rfl,c,C,dx,_,rfl,(by rw[aA Le];exact ay),T.cl,T.u9,(by rw[CK];show 2<1000;decide),?_⟩
  refine k l4 _ ⟨⟨dx,Eq.trans aQ (congrArg (fun l=>some (fh.ins C dx l)) (U8 _ _ _))⟩,by rw[aA ry.symm,aA Lb];exact aI,by rw[aA Le.symm,aQ];rfl,Lb⟩ (.inr zV) fun b o e dH _ _=>?_
  rw[aA dH,aA (cD e zV)]
  exact e
theorem Zu:dk hP hP (bF td):=dM
theorem X0 {a3 aD:Addr}{gE:Addr}{hg:FuncData}(F:da K "make_stroke" "House.make_stroke" td f fd) (T:hK K ai aD) (kV:pN K ai a3) (h9:aU P w K ai base bf 1 gE hg hP (DQ a3)) (h3:Binds K hg hP []) (ha:Meth K a3 "do_stroke" gE):aU P w K ai base bf 2 f fd hP (tX a3 aD):=by
 refine F.ok Zu (fun vs H Q E h=>?_) (fun b4 A outer s H vs Q E aC h=>?_)
 ·obtain⟨a,lo,pl,x,aO,v,s,rfl,_⟩:=h
  rfl
 obtain⟨a,lo,pl,x,aO,v,c2,rfl,A,br,bD,hN,q⟩:=h
 obtain⟨dx,bU⟩:=A.bR
 obtain⟨dy,bW⟩:=A.co
 obtain⟨xs,aJ,aN⟩:=A.az
 obtain⟨zs,b2,cj⟩:=A.fK
 obtain⟨y,jb,iR⟩:=Uv br
 have Ew:a.ce≠lo:=A.dr.ne.2.2.2.2.2.2.2.2.2.2.2.1.symm
 have ahh:=aN.1
 have al5:zs.length=x.d8.length:=by rw[bk.length cj,length_map]
 obtain⟨amd,N_,amc⟩:=hN
 have ahO:(oO y c2).ok (x.b0.map V.int).length:=by
  rw[length_map,A.dr.cd]
  cases c2 with
  | line ln=>trivial
  | eO p n=>exact bD
  | cut k=>trivial
 refine⟨_,(bh (dz (gI (eZ (af 0) rfl) kV.cl ha h9 (b9 aC) h3 .nil cP (aq (af 1) aK))) (aZ (dz (jx plainAttrs_list PySem.F.slot_list_append PySem.F.type_list_append jo (eZ (af 0) rfl) (aq (af 1) aK))))),?_⟩
 refine⟨_,rfl,a.h,aD,dx,_,_,rfl,bU,T.cl,T.sW,vN .., a.c,dy,_,rfl,bW,V0 _ _ (by decide +kernel) (by decide +kernel),_,rfl,a.c,a.ce,lo,v,_,xs,oO y c2,rfl,⟨⟨dy,bW⟩,A.aj,aJ,Ew⟩,jb,ahO,by omega,fun lo' H1 yk l7 eo=>?_⟩
 have cL:a.h≠a.c:=A.eX.1.symm
 have Er:H1 a.h=_:=eo _ _ bU cL A.aS.1.symm (.inl A.aS.2.2.2.2.1.symm)
 have rO:H1 a.st=_:=eo _ _ b2 A.eX.2.2.2.2.1.symm A.dr.ne.2.2.2.2.2.2.1.symm (.inl A.dr.ne.2.2.2.2.2.2.2.2.2.2.2.2.2.2.1.symm)
 refine⟨_,rfl,a.h,aD,dx,_,_,rfl,Er,T.cl,T.yV,Ck .., .inl ⟨rfl,_,aR.of rO⟩,_,rfl,a.st,zs,v,rfl,rfl,rO,ia (by omega),?_⟩
 refine q lo' _ (A.V7 bD br iR aJ aN b2 cj yk l7 eo) (ef.upd ⟨fun b o aa e=>?_,fun b aa=>?_⟩ (zm ..))
 ·exact eo b o e (fun z=>aa (by rw[z];exact zH ..)) (fun z=>aa (by rw[z];exact zq ..)) (.inl fun z=>aa (by rw[z];exact wm ..))
 ·rcases mem_cons.mp aa with z | z
  ·rcases l7 with y | y
   ·rw[z,y];exact .inl (wm ..)
   ·rw[z];exact .inr y
  ·exact .inl (mem_cons_of_mem _ z)
theorem Zt:dk jD jD (bF sP):=dM
theorem XZ {a3 aD:Addr}{fc:Addr}{f9:FuncData}(F:da K "write_put" "House.write_put" sP f fd) (T:hK K ai aD) (iK:aU P w K ai base bf 2 fc f9 hP (tX a3 aD)) (iF:Binds K f9 hP []) (iz:Meth K aD "make_stroke" fc):aU P w K ai base bf 3 f fd jD (zN a3 aD):=by
 refine F.ok Zt (fun vs H Q E h=>?_) (fun b4 A outer s H vs Q E aC h=>?_)
 ·obtain⟨a,lo,pl,x,aO,d,p,n,rfl,_⟩:=h
  rfl
 obtain⟨a,lo,pl,x,aO,d,p,n,rfl,A,aI,hN,q⟩:=h
 obtain⟨dx,bU⟩:=A.bR
 obtain⟨z,dE,dU⟩:=A.dr.qp aI
 have gu:x.aB.getD p 0=z:=by rw[getD_eq_getElem?_getD,dE];rfl
 refine⟨_,(bh (dz (gI (af 0) T.cl iz iK (b9 aC) iF .nil cP (aq (gz (aq bw (aq (gz (aq bw (aq (af 1) (aq (af 2) (aq (bA eH (eZ (af 0) rfl) (af 2) (fun _ _=>rfl)) (aq (af 3) aK)))))) aK))) aK))) (aZ (oH (af 3) (tx (eZ (af 0) rfl) (af 2) set_list)))),?_⟩
 refine⟨_,rfl,a.h,dx,_,rfl,bU,(by kernel_rfl),_,rfl,_,rfl,_,rfl,a.h,aD,dx,_,_,rfl,bU,T.cl,T.nC,oF .., _,rfl,a.ak,_,_,_,rfl,rfl,aR.of A.hd,dU,_,rfl,cS,fun t1 ay=>⟨cS,fun en aG=>?_⟩⟩
 have s1:=bP ay (.tup [.str "put",.int d,.int ((p:Nat):Int),.int z,.int n])
 have s2:=bP aG (.tup [.str "line",.ref t1])
 have bq:=A.same (s1.trans s2)
 have br:Rep (upd (upd H t1 (.tup [.str "put",.int d,.int ((p:Nat):Int),.int z,.int n])) en (.tup [.str "line",.ref t1])) (bO.line (.put d p z n)).D (.ref en) :=
  Rep.gS aQ (.cons .ofStr (.cons (Rep.gS (s2 _ _ aQ) (.cons .ofStr (.cons .ofInt (.cons .ofInt (.cons .ofInt (.cons .ofInt .nil)))))) .nil))
 refine⟨a,lo,pl,x,aO,_,.line (.put d p z n),rfl,bq,br,aI,hN,fun lo' a9 bX eW=>?_⟩
 obtain⟨kI,dB⟩:=bX.bR
 have ahW:p<(x.aB.map V.int).length:=by rw[length_map];exact aI
 have Od:=bX.hd
 rw[qM]at Od
 refine⟨_,rfl,_,rfl,a.h,aD,kI,_,_,rfl,dB,T.cl,T.nC,oF .., _,rfl,a.ak,_,_,p,rfl,rfl,Od,sX ahW,?_⟩
 have dY:x.putIn d p n={ x.cT (.line (.put d p z n)) with aB:=x.aB.set p n }:=by
  unfold av.putIn
  rw[gu]
 have c9:=bX.q7 (c:=x.aB.set p n) (by rw[qM,length_set])
 rw[qN]
 rw[←dY]at c9
 exact q lo' _ c9 (((s1.trans s2).moves.trans eW).upd (zp ..))
theorem Zv:dk jC jC (bF tG):=dM
theorem X2 {a3 aD:Addr}(F:da K "has_room" "House.has_room" tG f fd) (B:ew ai) (T:hK K ai aD) (kV:pN K ai a3):aU P w K ai base bf 1 f fd jC (Dk a3 aD):=by
 refine F.ok Zv (fun vs H Q E h=>?_) (fun b4 A outer s H vs Q E aC h=>?_)
 ·obtain⟨a,lo,pl,x,aO,m,rfl,_⟩:=h
  rfl
 obtain⟨a,lo,pl,x,aO,m,rfl,A,q⟩:=h
 obtain⟨dx,bU⟩:=A.bR
 obtain⟨dy,bW⟩:=A.co
 obtain⟨xs,aJ,aN⟩:=A.az
 refine⟨_,(aZ (cF (hx DH (c0 gJ (c0 gJ (dP e8 rfl B.len PySem.boot_len (aq (eZ (eZ (af 0) rfl) rfl) aK)) (eZ (af 0) rfl)) (af 1)) (eZ (af 0) rfl) (bY _)))),?_⟩
 refine⟨_,rfl,a.h,aD,dx,_,_,rfl,bU,T.cl,T.sW,vN .., a.c,a3,dy,_,_,rfl,bW,kV.cl,kV.u9,yJ _ _,lo,_,rfl,.inl (aR.of aJ),_,rfl,a.h,aD,dx,_,_,rfl,bU,T.cl,T.wi,yX .., _,_,rfl,rfl,_,rfl,_,_,rfl,rfl,_,rfl,a.h,aD,dx,_,_,rfl,bU,T.cl,T.Km,WC .., _,_,rfl,rfl,?_⟩
 have e:x.fZ m=decide (((xs.length:Nat):Int)+x.bound+m≤x.room):=by
  unfold av.fZ
  rw[aN.1]
 rw[e]at q
 exact q
theorem ZD:dk gf gf (bF tN):=dM
theorem X7 {a3 aD cJ cy cN cI:Addr}(F:da K "ask_page" "House.ask_page" tN f fd) (B:ew ai) (T:hK K ai aD) (E:rU K ai cJ cy cN cI):aU P w K ai base (di P w) 1 f fd gf (wc a3 aD cy):=by
 refine F.mO ZD (fun vs H Q hj h=>?_) (fun b4 A outer s H vs Q hj aC h=>?_)
 ·obtain⟨a,lo,pl,x,aO,p,rfl,_⟩:=h
  rfl
 obtain⟨a,lo,pl,x,aO,p,rfl,A,gp,q⟩:=h
 obtain⟨dx,bU⟩:=A.bR
 refine⟨_,(aZ (b_ (lQ (cn pW (af 1) aW (bY _)) (cn zD (af 1) (dP e8 rfl B.len PySem.boot_len (aq (eZ (af 0) rfl) aK)) (bY _))) (aZ (yQ E.ake E.jN excBase_ValueError rfl (yG (lP 2000 bw (lP 2000 (wh (af 1)) zg))))) cZ)),?_⟩
 refine⟨_,rfl,_,_,rfl,rfl,_,rfl,gk (fun cL=>?_) (fun cL=>?_)⟩
 ·have dV:p<0:=of_decide_eq_true cL
  refine fm ?_
  rw[if_pos (.inl dV)]at q
  exact⟨_,rfl,(le_of_ble_eq_true rfl),_,rfl,_,rfl,gp,_,rfl,(le_trans (sz gp) (by decide)),fun _=>q⟩
 ·refine⟨_,rfl,_,rfl,a.h,aD,dx,_,_,rfl,bU,T.cl,T.nC,oF .., a.ak,_,rfl,.inl (aR.of A.hd),_,_,rfl,rfl,_,rfl,gk (fun ep=>?_) (fun ep=>?_)⟩
  ·have f_:((x.aB.map V.int).length:Int)≤p:=of_decide_eq_true ep
   rw[length_map]at f_
   rw[if_pos (.inr f_)]at q
   exact⟨_,rfl,(le_of_ble_eq_true rfl),_,rfl,_,rfl,gp,_,rfl,(le_trans (sz gp) (by decide)),fun _=>q⟩
  ·have dV:¬p<0:=fun z=>cL (decide_eq_true z)
   have f_:¬(x.aB.length:Int)≤p:=fun z=>ep (decide_eq_true (by rw[length_map];exact z))
   rw[if_neg (fun z=>z.elim dV f_)]at q
   exact q
theorem ZE:dk gm gm (bF tP):=dM
theorem X9 {a3 aD cJ cy cN cI:Addr}(F:da K "ask_dealing" "House.ask_dealing" tP f fd) (T:hK K ai aD) (E:rU K ai cJ cy cN cI):aU P w K ai base (di P w) 1 f fd gm (wd a3 aD cJ):=by
 refine F.mO ZE (fun vs H Q hj h=>?_) (fun b4 A outer s H vs Q hj aC h=>?_)
 ·obtain⟨a,lo,pl,x,aO,p,rfl,_⟩:=h
  rfl
 obtain⟨a,lo,pl,x,aO,d,rfl,A,gp,q⟩:=h
 obtain⟨dx,bU⟩:=A.bR
 have a7:=gT aC
 have DJ:(dn (dX pl) (Sum.inl d)).isSome=x.isOpen d:=A.dr.isOpen d
 refine⟨_,(aZ (b_ (we (It a7 (af 1) (eZ (af 0) rfl))) (aZ (yQ E.akf E.ha excBase_ValueError rfl (yG (lP 2000 bw (lP 2000 (wh (af 1)) (lP 2000 bw zg)))))) cZ)),?_⟩
 refine⟨_,rfl,_,rfl,a.h,aD,dx,_,_,rfl,bU,T.cl,T.pY,qX .., a.pu,_,rfl,e2.k (k:=Sum.inl d) A.aI,_,rfl,?_⟩
 rw[DJ]
 cases aH:x.isOpen d with
 | false =>
  rw[aH,if_pos rfl]at q
  refine fm ?_
  exact⟨_,rfl,(le_of_ble_eq_true rfl),_,rfl,_,rfl,gp,_,rfl,(le_trans (sz gp) (by decide)),_,rfl,(le_of_ble_eq_true rfl),fun _=>q⟩
 | true =>
  rw[aH,if_neg (fun z=>nomatch z)]at q
  exact cU q
theorem IX {x:av}{aO:List (Key × V)}{p:Nat}(t:wF x aO):(∀v,dn aO (Sum.inl ((p:Nat):Int))=some v→∃d:Int,v=.int d∧0≤d∧d<x.begun∧(x.isOpen d=true→x.d5 p=some d)∧(x.isOpen d=false→x.d5 p=none))∧(dn aO (Sum.inl ((p:Nat):Int))=none→x.d5 p=none):=by
 have key:∀d,x.d5 p=some d→dn aO (Sum.inl ((p:Nat):Int))=some (.int d)∧x.isOpen d=true:=fun d e=>by
  unfold av.d5 at e
  cases q:x.aT.find? (fun z=>z.2.any fun y=>y.1 == p) with
  | none=>rw[q]at e;cases e
  | some z =>
   rw[q]at e
   have cV:z.1=d:=Option.some.inj e
   have hz:=List.mem_of_find?_eq_some q
   have aI:=List.find?_some q
   obtain⟨y,cg,bN⟩:=any_eq_true.mp aI
   have aN:=t.a z hz y cg
   rw[beq_iff_eq.mp bN,cV]at aN
   exact⟨aN,any_eq_true.mpr ⟨z,hz,by rw[cV];exact beq_self_eq_true d⟩⟩
 refine⟨fun v e=>?_,fun e=>?_⟩
 ·obtain⟨ec,d,aJ,aN,b2,cj,fe⟩:=t.b _ v e
  have b7:ec=p:=by have:=Sum.inl.inj aJ;omega
  subst b7
  refine⟨d,aN,b2,cj,fun aH=>?_,fun aH=>?_⟩
  ·obtain⟨z,hz,dE,y,cg,b6⟩:=fe aH
   cases q:x.d5 ec with
   | none =>
    unfold av.d5 at q
    have n8:x.aT.find? (fun z=>z.2.any fun y=>y.1 == ec)=none:=by
     cases w:x.aT.find? (fun z=>z.2.any fun y=>y.1 == ec) with
     | none=>rfl
     | some u=>rw[w]at q;cases q
    have:=List.find?_eq_none.mp n8 z hz
    exact absurd (any_eq_true.mpr ⟨y,cg,by rw[b6];exact beq_self_eq_true ec⟩) this
   | some d' =>
    obtain⟨k1,_⟩:=key d' q
    rw[e,aN]at k1
    have:V.int d=V.int d':=Option.some.inj k1
    injection this with this
    rw[this]
  ·cases q:x.d5 ec with
   | none=>rfl
   | some d' =>
    obtain⟨k1,k2⟩:=key d' q
    rw[e,aN]at k1
    have:V.int d=V.int d':=Option.some.inj k1
    injection this with this
    rw[this,k2]at aH
    cases aH
 ·cases q:x.d5 p with
  | none=>rfl
  | some d =>
   rw[(key d q).1]at e
   cases e
theorem vM {n:Nat}(h:n≤1000):(n:Int).natAbs.log2<1920:=by
 refine Ii ?_
 rw[Int.natAbs_natCast]
 exact lt_of_le_of_lt h (lt_of_lt_of_le (by decide:1000<2 ^ 10) (Nat.pow_le_pow_right (by decide) (by decide)))
theorem KW:dk ["self","dealing","page","taker"] uf (bF tO):=dM
theorem X8 {a3 aD cJ cy cN cI:Addr}(F:da K "ask_free" "House.ask_free" tO f fd) (T:hK K ai aD) (E:rU K ai cJ cy cN cI):aU P w K ai base (di P w) 1 f fd uf (Dp a3 aD cN):=by
 refine F.mO KW (fun vs H Q hj h=>?_) (fun b4 A outer s H vs Q hj aC h=>?_)
 ·obtain⟨a,lo,pl,x,aO,d,p,rfl,_⟩:=h
  rfl
 obtain⟨a,lo,pl,x,aO,d,p,rfl,A,aa,aI,q⟩:=h
 obtain⟨dx,bU⟩:=A.bR
 have a7:=gT aC
 obtain⟨t1,en⟩:=IX (p:=p) A.iV
 refine⟨_,(bh (dm (i:=3) KW.bl rfl (Or.inl rfl) (Vq a7 (eZ (af 0) rfl) (af 2) (af 1) ⟨rfl,rfl,rfl,rfl⟩)) (aZ (b_ (oD (cn i5 (af 3) (af 1) (bY _)) (we (Du a7 (af 3) (eZ (af 0) rfl)))) (aZ (yQ E.akc E.BG excBase_ValueError rfl (yG (lP 2000 bw (lP 2000 (wh (af 2)) (lP 2000 bw (lP 2000 (wh (af 3)) zg))))))) cZ))),?_⟩
 refine⟨_,rfl,a.h,aD,dx,_,_,rfl,bU,T.cl,T.C4,ID .., a.bG,rfl,.inl ⟨_,.inl A.kt⟩,_,rfl,_,rfl,_,e2.k (k:=Sum.inl ((p:Nat):Int)) A.kt,?_⟩
 cases e:dn aO (Sum.inl ((p:Nat):Int)) with
 | none =>
  rw[en e,if_pos (.inl rfl)]at q
  refine⟨_,rfl,_,rfl,rfl,_,rfl,mF rfl (cU ?_)⟩
  exact q
 | some v =>
  obtain⟨d',rfl,h0,ay,aG,ct⟩:=t1 v e
  refine⟨_,rfl,_,rfl,rfl,_,rfl,?_⟩
  by_cases dY:d'=d
  ·subst dY
   refine mF rfl (cU ?_)
   cases aH:x.isOpen d' with
   | true=>rw[aG aH,if_pos (.inr rfl)]at q;exact q
   | false=>rw[ct aH,if_pos (.inl rfl)]at q;exact q
  ·refine nF (fun z=>dY (by injection z)) ?_
   have DJ:(dn (dX pl) (Sum.inl d')).isSome=x.isOpen d':=A.dr.isOpen d'
   refine⟨_,rfl,_,rfl,a.h,aD,dx,_,_,rfl,bU,T.cl,T.pY,qX .., a.pu,_,rfl,e2.k (k:=Sum.inl d') A.aI,_,rfl,?_⟩
   rw[DJ]
   cases aH:x.isOpen d' with
   | false =>
    rw[ct aH,if_pos (.inl rfl)]at q
    exact cU q
   | true =>
    rw[aG aH,if_neg (fun z=>z.elim (fun z=>nomatch z) fun z=>dY (Option.some.inj z))]at q
    refine fm ?_
    have c2:d'.natAbs.log2<1920:=by
     have aJ:d'=((d'.toNat:Nat):Int):=by omega
     rw[aJ]
     exact vM (by omega)
    exact⟨_,rfl,(le_of_ble_eq_true rfl),_,rfl,_,rfl,vM aI,_,rfl,(le_trans (sz (vM aI)) (by decide)),_,rfl,(le_of_ble_eq_true rfl),_,rfl,_,rfl,c2,_,rfl,(le_trans (sz c2) (by decide)),fun _=>q⟩
def kA (log:List dg) (j p:Nat):Prop:=∃d o n,log[j]?=some (.put d p o n)
def oU (ps ds:List Int) (log:List dg) (st:List Int) (k:Nat):Prop :=
 ∃d p o n,log[k]?=some (.put d p o n)∧(d∈st∨((∀j,k<j→¬kA log j p)∧ps[p]?≠ds[p]?))
def u1 (ps ds:List Int) (log:List dg) (st:List Int) (k:Nat):Prop:=k≤log.length∧(∀j,j<k→¬oU ps ds log st j)∧(k<log.length→oU ps ds log st k)
theorem u1.uniq {ps ds:List Int}{log:List dg}{st:List Int}{k i0:Nat}(h:u1 ps ds log st k) (h':u1 ps ds log st i0):k=i0:=by
 obtain⟨a1,a2,kU⟩:=h
 obtain⟨e7,fO,i1⟩:=h'
 rcases Nat.lt_trichotomy k i0 with z | z | z
 ·exact absurd (kU (by omega)) (fO k z)
 ·exact z
 ·exact absurd (i1 (by omega)) (a2 i0 z)
theorem JZ {log:List dg}{i p:Nat}{d:Int}(h:log[i]?=some (.fin d)):¬kA log i p:=fun ⟨_,_,_,e⟩=>by rw[h]at e;cases e
theorem Jy {ps ds:List Int}{log:List dg}{st:List Int}{i:Nat}{d:Int}(h:log[i]?=some (.fin d)):¬oU ps ds log st i:=fun ⟨_,_,_,_,e,_⟩=>by rw[h]at e;cases e
theorem Ju {log:List dg}{j p:Nat}(h:kA log j p):j<log.length:=by
 obtain⟨_,_,_,e⟩:=h
 exact (List.getElem?_eq_some_iff.mp e).1
def Dg:c3:=fun vs H Q _=>∃(p d l s:Addr) (ps ds st:List Int) (xs:List V) (log:List dg),vs=[.ref p,.ref d,.ref l,.ref s]∧H p=some (.lst (ps.map V.int))∧H d=some (.lst (ds.map V.int))∧H l=some (.lst xs)∧H s=some (.lst (st.map V.int)) ∧
 gj H log xs∧(∀ln∈log,ln.ok ps.length)∧ps.length=ds.length∧log.length≤100000∧st.length≤1000∧∀(k:Nat) (ah:ao),bI H ah→u1 ps ds log st k→Q (.int k) ah
def LastOk (log:List dg) (kvs:List (Key × V)):Prop:=∀p k,kA log k p→∃j:Nat,dn kvs (Sum.inl (p:Int))=some (.int j)∧kA log j p∧∀hE,j<hE→¬kA log hE p
def Dj:c3:=fun vs H Q _=>∃(l:Addr) (xs:List V) (log:List dg),vs=[.ref l]∧H l=some (.lst xs)∧gj H log xs∧log.length≤100000∧∀(r:Addr) (kvs:List (Key × V)) (ah:ao),bI H ah→ah r=some (.bQ kvs)→LastOk log kvs→Q (.ref r) ah
theorem ze:dk ["log","places","place","line"] ["log"] (bF tf):=dM
def oJ (log:List dg) (i:Nat) (kvs:List (Key × V)):Prop:=∀p k,k<i→kA log k p→∃j:Nat,j<i∧dn kvs (Sum.inl (p:Int))=some (.int j)∧kA log j p∧∀hE,j<hE→hE<i→¬kA log hE p
theorem oJ.fin {log:List dg}{i:Nat}{kvs:List (Key × V)}{d:Int}(h:oJ log i kvs) (e:log[i]?=some (.fin d)):oJ log (i+1) kvs:=fun p k a8 aI=>by
 have aib:k≠i:=fun z=>by subst z;exact JZ e aI
 obtain⟨j,ay,aG,ct,dN⟩:=h p k (by omega) aI
 refine⟨j,by omega,aG,ct,fun hE a b=>?_⟩
 by_cases z:hE=i
 ·rw[z];exact JZ e
 ·exact dN hE a (by omega)
theorem oJ.put {log:List dg}{i p:Nat}{kvs:List (Key × V)}{d o n:Int}(h:oJ log i kvs) (e:log[i]?=some (.put d p o n)):oJ log (i+1) (putK kvs (Sum.inl (p:Int)) (.int (i:Nat))):=fun ec k a8 aI=>by
 by_cases b7:ec=p
 ·subst b7
  refine⟨i,by omega,by rw[vQ,if_pos rfl],⟨d,o,n,e⟩,fun hE a b=>by omega⟩
 ·have aib:k≠i:=fun z=>by
   subst z
   obtain⟨_,_,_,aN⟩:=aI
   rw[e]at aN
   cases aN
   exact b7 rfl
  obtain⟨j,ay,aG,ct,dN⟩:=h ec k (by omega) aI
  have qw:¬((Sum.inl (ec:Int):Key)=Sum.inl (p:Int)):=fun z=>b7 (by have:=Sum.inl.inj z;omega)
  refine⟨j,by omega,by rw[vQ,if_neg qw];exact aG,ct,fun hE a b=>?_⟩
  by_cases z:hE=i
  ·rw[z]
   rintro⟨_,_,_,aN⟩
   rw[e]at aN
   cases aN
   exact b7 rfl
  ·exact dN hE a (by omega)
theorem oJ.done {log:List dg}{kvs:List (Key × V)}(h:oJ log log.length kvs):LastOk log kvs:=fun p k aI=>by
 obtain⟨j,_,aG,ct,dN⟩:=h p k (Ju aI) aI
 exact⟨j,aG,ct,fun hE a b=>dN hE a (Ju b) b⟩
theorem Wn (F:da K "last_put_places" "last_put_places" tf f fd) (B:ew ai):aU P w K ai base bf 1 f fd ["log"] Dj:=by
 refine F.ok ze (fun vs H Q E h=>?_) (fun b4 A outer s H vs Q E aC h=>?_)
 ·obtain⟨l,xs,log,rfl,_⟩:=h
  rfl
 obtain⟨l,xs,log,rfl,az,fY,qq,q⟩:=h
 have a7:=gT aC
 have kM:=fY.1
 refine⟨_,(bh (dm (i:=1) ze.bl rfl (Or.inl rfl) vU) (bh (hA PassesOwn.never rfl (Jx rfl B.Ou (aq (af 0) aK)) (pU rfl (jr (fj (i:=2) ze.bl rfl (Or.inl rfl)) (jr (fj (i:=3) ze.bl rfl (Or.inl rfl)) pQ))) (aZ (b_ (cn dv (bA bZ (af 3) aW (fun _ _=>rfl)) bw (bY _)) (aZ (lO a7 (af 1) (bA bZ (af 3) aW (fun _ _=>rfl)) (af 2) rfl)) cZ))) (aZ (cF (af 1))))),?_⟩
 intro r ir
 refine⟨_,rfl,l,rfl,⟨xs,aR.of (bP ir _ _ _ az)⟩,Jc (K:=K) (a:=l) (xs:=xs) (fun i σ au=>∃(bW dB:Option V) (kvs:List (Key × V)),σ=[some (.ref l),some (.ref r),bW,dB]∧bI H au∧au r=some (.bQ kvs)∧kvs.length≤i∧oJ log i kvs)
  ⟨none,none,[],rfl,bP ir _,aQ,le_refl _,fun p k a8 _=>absurd a8 (not_lt_zero _)⟩ (fun i σ au _ ⟨_,_,_,_,s2,_⟩=>aR.of (s2 _ _ az)) ?_ ?_⟩
 ·rintro i x σ au pr aL ⟨bW,dB,kvs,rfl,s2,eE,aka,pn⟩ AD
  have jF:i<xs.length:=(List.getElem?_eq_some_iff.mp aL).1
  obtain⟨ln,iR,jb⟩:=fY.get aL
  have s3:=s2.trans (bP AD (.tup [.int (i:Nat),x]))
  have nG:=jb.mono s3.et
  have FP:(upd au pr (.tup [.int (i:Nat),x])) r=some (.bQ kvs):=by rw[aA (cD eE AD)];exact eE
  have Ot:(upd au pr (.tup [.int (i:Nat),x])) pr=some (.tup [.int (i:Nat),x]):=aQ
  generalize upd au pr (.tup [.int (i:Nat),x])=a9 at s3 nG FP Ot ⊢
  refine⟨pr,_,rfl,aF.of Ot,rfl,_,_,rfl,_,_,rfl,rfl,?_⟩
  cases ln with
  | fin d =>
   obtain⟨c,rfl,aj⟩:=nG
   refine⟨_,rfl,c,_,_,_,rfl,rfl,aF.of aj,rfl,rfl,_,rfl,bx zC ?_⟩
   exact⟨_,_,kvs,rfl,s3,FP,by omega,pn.fin iR⟩
  | put d p o n =>
   obtain⟨c,rfl,aj⟩:=nG
   refine⟨_,rfl,c,_,_,_,rfl,rfl,aF.of aj,rfl,rfl,_,rfl,dS rfl ?_⟩
   refine⟨_,rfl,_,rfl,_,rfl,c,_,_,_,rfl,rfl,aF.of aj,rfl,r,_,rfl,nI.k (k:=Sum.inl (p:Int)) FP (ia (by omega)),?_⟩
   have:=pL kvs (Sum.inl (p:Int):Key) (V.int (i:Nat))
   exact⟨_,_,_,rfl,s3.kr ir,aQ,by omega,pn.put iR⟩
 ·rintro σ au ⟨bW,dB,kvs,rfl,s2,eE,aka,pn⟩
  rw[←kM]at pn
  exact⟨_,rfl,q r kvs au s2 eE pn.done⟩
theorem qY:dk ["pages","desk","log","dealings","unended","last_places","place","line","page","uncarried"] ue (bF tc):=dM
theorem Wq {g:Addr}{hs:FuncData}(F:da K "needed_from" "needed_from" tc f fd) (B:ew ai) (sr:aU P w K ai base bf 1 g hs ["log"] Dj) (sd:Binds K hs ["log"] []) (xW:keepIn K (.ref g)=true) (r3:ai "last_put_places"=some (.ref g)) :
  aU P w K ai base bf 2 f fd ue Dg:=by
 refine F.ok qY (fun vs H Q E h=>?_) (fun b4 A outer s H vs Q E aC h=>?_)
 ·obtain⟨p,d,l,s,ps,ds,st,xs,log,rfl,_⟩:=h
  rfl
 obtain⟨p,d,l,s0,ps,ds,st,xs,log,rfl,aI,hd,az,a5,fY,bD,ama,qq,zs,q⟩:=h
 have kM:=fY.1
 have a7:=gT aC
 refine⟨_,(bh (dm (i:=4) qY.bl rfl (Or.inl rfl) (h_ (Uo aC.hd) rfl B.aiF Ys (aq (y9 [] ["dealing"] (k8.plain (by decide +kernel) rfl rfl) rfl (ks (af 3)) (fun C s1 H1 b5=>(gz (aq (af 0) (aq fF aK))))) aK))) (bh (dm (i:=5) qY.bl rfl (Or.inl rfl) (dt sr (b9 aC) rfl r3 xW sd .nil cP (aq (af 2) aK))) (bh (hA PassesOwn.never rfl (Jx rfl B.Ou (aq (af 2) aK)) (pU rfl (jr (fj (i:=6) qY.bl rfl (Or.inl rfl)) (jr (fj (i:=7) qY.bl rfl (Or.inl rfl)) pQ))) (aZ (b_ (cn dv (bA bZ (af 7) aW (fun _ _=>rfl)) bw (bY _)) (bh (dm (i:=8) qY.bl rfl (Or.inl rfl) (bA bZ (af 7) aW (fun _ _=>rfl))) (bh (dm (i:=9) qY.bl rfl (Or.inl rfl) (nB (hx dv (ek a7 (af 5) (af 8) (fun _ _=>rfl)) (af 6) (bY _)) (tA (hx i5 (bA eH (af 0) (af 8) (fun _ _=>rfl)) (bA eH (af 1) (af 8) (fun _ _=>rfl)) (bY _))))) (aZ (b_ (lQ (we (Du a7 (bA bZ (af 7) aW (fun _ _=>rfl)) (af 4))) (gy (af 9))) (aZ (cF (af 6))) cZ)))) cZ))) (aZ (cF (dP e8 rfl B.len PySem.boot_len (aq (af 2) aK))))))),?_⟩
 refine⟨_,rfl,s0,rfl,⟨_,aR.of a5⟩,fun acc e1=>Uk (K:=K) (w:=.bV true) a5 e1 (by omega) (fun z a9 k a8=>⟨_,rfl,cS,a8⟩) fun ys H1 s1 Ls uE=>?_⟩
 refine⟨acc,ys,st.map fun n=>((Sum.inl n:Key),V.bV true),rfl,Ls,fun j x bg=>?_,by rw[length_map];exact uE.1,by rw[←uE.1];omega,fun u kD=>?_⟩
 ·obtain⟨z,ay,aG⟩:=uE.get bg
  exact⟨_,by rw[getElem?_map,ay];rfl,aG⟩
 have rG:∀z:Int,(dn (putAll [] (st.map fun n=>((Sum.inl n:Key),V.bV true))) (Sum.inl z:Key)).isSome=decide (z∈st):=fun z=>by
  rw[putAll_has,IU]
  simp
 have s2:=s1.trans (bP kD (.bQ (putAll [] (st.map fun n=>((Sum.inl n:Key),V.bV true)))))
 have lE:(upd H1 u (.bQ (putAll [] (st.map fun n=>((Sum.inl n:Key),V.bV true))))) u=some (.bQ (putAll [] (st.map fun n=>((Sum.inl n:Key),V.bV true)))):=aQ
 generalize (putAll [] (st.map fun n=>((Sum.inl n:Key),V.bV true)))=us at rG s2 lE ⊢
 generalize upd H1 u (.bQ us)=au at s2 lE ⊢
 clear s1 Ls uE e1 kD
 refine⟨_,rfl,l,xs,log,rfl,s2 _ _ az,fY.mono fun a x h=>h.mono s2.et,qq,fun r kvs a9 s3 eE Yg=>?_⟩
 have gw:=s2.trans s3
 have Oo:=s3 _ _ lE
 refine⟨_,rfl,l,rfl,⟨xs,aR.of (gw _ _ az)⟩,Jc (K:=K) (a:=l) (xs:=xs) (fun i σ cO=>∃jM gY g_ jL:Option V,σ=[some (.ref p),some (.ref d),some (.ref l),some (.ref s0),some (.ref u),some (.ref r),jM,gY,g_,jL]∧bI a9 cO∧∀j,j<i→¬oU ps ds log st j)
  ⟨none,none,none,none,rfl,bI.refl _,fun j de=>absurd de (not_lt_zero _)⟩ (fun i σ cO _ ⟨_,_,_,_,_,s4,_⟩=>aR.of (s4 _ _ (gw _ _ az))) ?_ ?_⟩
 ·rintro i x σ cO pr aL ⟨jM,gY,g_,jL,rfl,s4,aS⟩ AD
  have jF:i<xs.length:=(List.getElem?_eq_some_iff.mp aL).1
  obtain⟨ln,iR,jb⟩:=fY.get aL
  have a8:=bD ln (mem_of_getElem? iR)
  have s5:=s4.trans (bP AD (.tup [.int (i:Nat),x]))
  have Oq:(upd cO pr (.tup [.int (i:Nat),x])) pr=some (.tup [.int (i:Nat),x]):=aQ
  generalize upd cO pr (.tup [.int (i:Nat),x])=d4 at s5 Oq ⊢
  have iJ:=gw.trans s5
  have nG:=jb.mono iJ.et
  have next:¬oU ps ds log st i→∀j,j<i+1→¬oU ps ds log st j:=fun h j de=>by
   by_cases e:j=i
   ·rw[e];exact h
   ·exact aS j (by omega)
  refine⟨pr,_,rfl,aF.of Oq,rfl,_,_,rfl,_,_,rfl,rfl,?_⟩
  cases ln with
  | fin dd =>
   obtain⟨c,rfl,aj⟩:=nG
   refine⟨_,rfl,c,_,_,_,rfl,rfl,aF.of aj,rfl,rfl,_,rfl,bx zC ?_⟩
   exact⟨_,_,_,_,rfl,s5,next (Jy iR)⟩
  | put dd pp BC nn =>
   obtain⟨c,rfl,aj⟩:=nG
   have ahU:pp<ps.length:=a8
   obtain⟨dE,a1,e7⟩:=ku (ns:=ps) (k:=((pp:Nat):Int)) (by omega) (by omega)
   obtain⟨dU,a2,fO⟩:=ku (ns:=ds) (k:=((pp:Nat):Int)) (by omega) (by omega)
   rw[Int.toNat_natCast]at a1 a2
   obtain⟨j,akL,akK,Sh⟩:=Yg pp i ⟨dd,BC,nn,iR⟩
   have wJ:e2 d4 r (.int (pp:Nat)) (some (.int (j:Nat))):=by
    have h0:=e2.k (k:=Sum.inl ((pp:Nat):Int)) (s5 _ _ eE)
    rw[akL]at h0
    exact h0
   have JA:j=i↔∀hE,i<hE→¬kA log hE pp:=by
    constructor
    ·intro e;rw[←e];exact Sh
    ·intro h
     rcases Nat.lt_trichotomy j i with z | z | z
     ·exact absurd ⟨dd,BC,nn,iR⟩ (Sh i z)
     ·exact z
     ·exact absurd akK (h j z)
   refine⟨_,rfl,c,_,_,_,rfl,rfl,aF.of aj,rfl,rfl,_,rfl,dS rfl ?_⟩
   refine⟨_,rfl,c,_,_,_,rfl,rfl,aF.of aj,rfl,?_⟩
   have join:∀b:Bool,(b=true↔((∀hE,i<hE→¬kA log hE pp)∧ps[pp]?≠ds[pp]?)) →
     (b=true∨dd∈st↔oU ps ds log st i):=fun b aa=>by
    constructor
    ·rintro (z | z)
     ·exact⟨dd,pp,BC,nn,iR,.inr (aa.mp z)⟩
     ·exact⟨dd,pp,BC,nn,iR,.inl z⟩
    ·rintro⟨eF,fQ,bW,dC,aN,ahZ⟩
     rw[iR]at aN
     cases aN
     rcases ahZ with z | z
     ·exact .inr z
     ·exact .inl (aa.mpr z)
   have af5:ps[pp]?≠ds[pp]?↔dE≠dU:=by
    rw[a1,a2]
    exact⟨fun h e=>h (by rw[e]),fun h e=>h (Option.some.inj e)⟩
   refine⟨_,rfl,_,rfl,r,_,rfl,wJ,_,rfl,rfl,_,rfl,?_⟩
   refine gk (fun cL=>?_) (fun cL=>?_)
   ·have aiA:j=i:=by
     have e:V.int (j:Nat)=V.int (i:Nat):=of_decide_eq_true cL
     injection e with e
     omega
    refine⟨_,rfl,_,rfl,p,_,_,_,rfl,rfl,aR.of (iJ _ _ aI),e7,_,rfl,_,rfl,d,_,_,_,rfl,rfl,aR.of (iJ _ _ hd),fO,rfl,?_⟩
    have aa:=join (!decide (V.int dE=V.int dU)) (by
     rw[af5]
     constructor
     ·intro h
      refine⟨JA.mp aiA,fun e=>?_⟩
      rw[e]at h
      simp at h
     ·rintro⟨_,h⟩
      have:¬V.int dE=V.int dU:=fun e=>h (by injection e)
      simp[this])
    generalize (!decide (V.int dE=V.int dU))=b at aa ⊢
    refine⟨_,rfl,c,_,_,_,rfl,rfl,aF.of aj,rfl,_,rfl,u,_,rfl,e2.k (k:=Sum.inl dd) (s5 _ _ Oo),_,rfl,?_⟩
    rw[rG dd]
    refine gk (fun dV=>?_) (fun dV=>?_)
    ·refine fm ?_
     exact⟨_,rfl,q i d4 iJ ⟨by omega,aS,fun _=>aa.mp (.inr (of_decide_eq_true dV))⟩⟩
    ·have w0:¬dd∈st:=fun h=>dV (decide_eq_true h)
     refine⟨_,rfl,_,rfl,gk (fun ep=>?_) (fun ep=>?_)⟩
     ·exact⟨_,rfl,q i d4 iJ ⟨by omega,aS,fun _=>aa.mp (.inl ep)⟩⟩
     ·refine⟨_,_,_,_,rfl,s5,next fun h=>?_⟩
      rcases aa.mpr h with z | z
      ·exact ep z
      ·exact w0 z
   ·have agC:¬j=i:=fun e=>cL (by rw[e];exact decide_eq_true rfl)
    have aa:=join false ⟨(fun z=>nomatch z),fun z=>absurd (JA.mpr z.1) agC⟩
    generalize false=b at aa ⊢
    refine⟨_,rfl,c,_,_,_,rfl,rfl,aF.of aj,rfl,_,rfl,u,_,rfl,e2.k (k:=Sum.inl dd) (s5 _ _ Oo),_,rfl,?_⟩
    rw[rG dd]
    refine gk (fun dV=>?_) (fun dV=>?_)
    ·refine fm ?_
     exact⟨_,rfl,q i d4 iJ ⟨by omega,aS,fun _=>aa.mp (.inr (of_decide_eq_true dV))⟩⟩
    ·have w0:¬dd∈st:=fun h=>dV (decide_eq_true h)
     refine⟨_,rfl,_,rfl,gk (fun ep=>?_) (fun ep=>?_)⟩
     ·exact⟨_,rfl,q i d4 iJ ⟨by omega,aS,fun _=>aa.mp (.inl ep)⟩⟩
     ·refine⟨_,_,_,_,rfl,s5,next fun h=>?_⟩
      rcases aa.mpr h with z | z
      ·exact ep z
      ·exact w0 z
 ·rintro σ cO ⟨jM,gY,g_,jL,rfl,s4,aS⟩
  refine⟨_,rfl,l,xs,rfl,.inl (aR.of (s4 _ _ (gw _ _ az))),?_⟩
  rw[←kM]at aS ⊢
  exact q log.length cO (gw.trans s4) ⟨le_refl _,aS,fun h=>absurd h (lt_irrefl _)⟩
theorem yH {ps ds:List Int}{log:List dg}{st:List Int}{ln:dg}{k:Nat}:oU ps ds (ln::log) st (k+1)↔oU ps ds log st k:=by
 have pc:∀j p,kA (ln::log) (j+1) p↔kA log j p:=fun j p=>Iff.rfl
 constructor
 ·rintro⟨d,p,o,n,e,h⟩
  refine⟨d,p,o,n,e,h.imp id fun h=>⟨fun j de=>?_,h.2⟩⟩
  exact fun z=>h.1 (j+1) (by omega) ((pc j p).mpr z)
 ·rintro⟨d,p,o,n,e,h⟩
  refine⟨d,p,o,n,e,h.imp id fun h=>⟨fun j de=>?_,h.2⟩⟩
  cases j with
  | zero=>omega
  | succ j=>exact fun z=>h.1 j (by omega) ((pc j p).mp z)
theorem C3 (ps ds st:List Int) (op:Int→Bool) (aH:∀d,op d=true↔d∈st):∀log:List dg,u1 ps ds log st (ee ps ds op log)
 | []=>⟨le_refl _,fun j de=>absurd de (not_lt_zero _),fun h=>absurd h (lt_irrefl _)⟩
 | .fin d::r=>by
  obtain⟨ay,aG,ct⟩:=C3 ps ds st op aH r
  refine⟨Nat.succ_le_succ ay,fun j de=>?_,fun h=>?_⟩
  ·cases j with
   | zero=>exact Jy (d:=d) rfl
   | succ j=>exact fun z=>aG j (Nat.lt_of_succ_lt_succ de) (yH.mp z)
  ·exact yH.mpr (ct (Nat.lt_of_succ_lt_succ h))
 | .put d p o n::r=>by
  have later:r.any (jw p)=false↔∀j,0<j→¬kA (.put d p o n::r) j p:=by
   constructor
   ·intro h j de z
    cases j with
    | zero=>omega
    | succ j =>
     obtain⟨eF,bW,dC,e⟩:=z
     have cV:r[j]?=some (.put eF p bW dC):=e
     have:r.any (jw p)=true:=any_eq_true.mpr ⟨_,mem_of_getElem? cV,decide_eq_true rfl⟩
     rw[h]at this
     cases this
   ·intro h
    cases q:r.any (jw p) with
    | false=>rfl
    | true =>
     obtain⟨ln,hm,aI⟩:=any_eq_true.mp q
     obtain⟨j,de⟩:=List.mem_iff_getElem?.mp hm
     cases ln with
     | fin eF=>cases aI
     | put eF fQ bW dC =>
      have e:fQ=p:=of_decide_eq_true aI
      subst e
      exact absurd ⟨eF,bW,dC,de⟩ (h (j+1) (Nat.succ_pos j))
  show u1 ps ds _ st (if op d=true∨(r.any (jw p)=false∧ps[p]?≠ds[p]?) then 0 else ee ps ds op r+1)
  by_cases c:op d=true∨(r.any (jw p)=false∧ps[p]?≠ds[p]?)
  ·rw[if_pos c]
   refine⟨zero_le _,fun j de=>absurd de (not_lt_zero _),fun _=>⟨d,p,o,n,rfl,c.imp (aH d).mp fun z=>⟨later.mp z.1,z.2⟩⟩⟩
  ·rw[if_neg c]
   obtain⟨ay,aG,ct⟩:=C3 ps ds st op aH r
   refine⟨Nat.succ_le_succ ay,fun j de=>?_,fun h=>yH.mpr (ct (Nat.lt_of_succ_lt_succ h))⟩
   cases j with
   | zero =>
    rintro⟨eF,fQ,bW,dC,e,h⟩
    cases e
    exact c (h.imp (aH d).mpr fun z=>⟨later.mpr z.1,z.2⟩)
   | succ j=>exact fun z=>aG j (Nat.lt_of_succ_lt_succ de) (yH.mp z)
def zy (a3 aD:Addr):c3:=fun vs H Q _=>∃(a:dZ) (lo:Addr) (pl:List (Int × Addr)) (x:av) (aO:List (Key × V)),vs=[.ref a.h]∧cG a3 aD H a lo pl x aO∧x.fits 1∧pl.length≤1000 ∧
 ∀lo' ah,cG a3 aD ah a lo' pl x.dW aO→ef a lo pl lo' pl H ah→Q .cE ah
def y3 (a3 aD cy:Addr):c3:=fun vs H Q E=>∃(a:dZ) (lo:Addr) (pl:List (Int × Addr)) (x:av) (aO:List (Key × V)) (p:Int),vs=[.ref a.h,.int p]∧cG a3 aD H a lo pl x aO∧p.natAbs.log2<1920∧x.fits 1 ∧
 (if p<0∨(x.aB.length:Int)≤p then E (.ref cy) none H else ∀lo' ah,cG a3 aD ah a lo' pl (x.ea p.toNat) aO→ef a lo pl lo' pl H ah→Q .cE ah)
def CN (a3 aD:Addr):c3:=fun vs H Q _=>∃(a:dZ) (lo:Addr) (pl:List (Int × Addr)) (x:av) (aO:List (Key × V)),vs=[.ref a.h]∧cG a3 aD H a lo pl x aO∧x.aB.length≤1000∧x.fits (x.aB.length+1)∧pl.length≤1000 ∧
 ∀lo' ah,cG a3 aD ah a lo' pl x.ed aO→ef a lo pl lo' pl H ah→Q .cE ah
def zd (a3 aD cI:Addr):c3:=fun vs H Q E=>∃(a:dZ) (lo:Addr) (pl:List (Int × Addr)) (x:av) (aO:List (Key × V)) (m:Nat),vs=[.ref a.h,.int (m:Nat)]∧cG a3 aD H a lo pl x aO∧m≤10∧x.aB.length≤1000∧x.fits (x.aB.length+1)∧pl.length≤1000 ∧
 ∀lo' ah,cG a3 aD ah a lo' pl (x.full (m:Nat)).1 aO→ef a lo pl lo' pl H ah→if (x.full (m:Nat)).2=true then E (.ref cI) none ah else Q .cE ah
theorem Ke:dk ["self","many"] hO (bF t6):=dM
theorem Xg {a3 aD:Addr}{fc:Addr}{f9:FuncData}{jl:Addr}{kR:FuncData}(F:da K "cut" "House.cut" t6 f fd) (B:ew ai) (T:hK K ai aD) (kV:pN K ai a3) (iK:aU P w K ai base bf 2 fc f9 hP (tX a3 aD)) (iF:Binds K f9 hP []) (iz:Meth K aD "make_stroke" fc)
  (pI:aU P w K ai base bf 2 jl kR ue Dg) (pC:Binds K kR ue []) (xV:keepIn K (.ref jl)=true) (mN:ai "needed_from"=some (.ref jl)):aU P w K ai base bf 3 f fd hO (zy a3 aD):=by
 refine F.ok Ke (fun vs H Q E h=>?_) (fun b4 A outer s H vs Q E aC h=>?_)
 ·obtain⟨a,lo,pl,x,aO,rfl,_⟩:=h
  rfl
 obtain⟨a,lo,pl,x,aO,rfl,A,hN,ho,q⟩:=h
 obtain⟨dx,bU⟩:=A.bR
 obtain⟨dy,bW⟩:=A.co
 obtain⟨xs,aJ,aN⟩:=A.az
 refine⟨_,(bh (dm (i:=1) Ke.bl rfl (Or.inl rfl) (dt pI (b9 aC) rfl mN xV pC .nil cP (aq (eZ (eZ (af 0) rfl) rfl) (aq (eZ (af 0) rfl) (aq (eZ (eZ (af 0) rfl) rfl) (aq (h_ (Cp aC.hd) rfl B.lst ic (aq (eZ (af 0) rfl) aK)) aK)))))) (aZ (b_ (cn pX (af 1) aW (bY _)) (aZ (dz (gI (af 0) T.cl iz iK (b9 aC) iF .nil cP (aq (gz (aq bw (aq (af 1) aK))) aK)))) cZ))),?_⟩
 refine⟨_,rfl,a.h,aD,dx,_,_,rfl,bU,T.cl,T.sW,vN .., a.c,a3,dy,_,_,rfl,bW,kV.cl,kV.BD,Cd _ _,_,rfl,a.h,aD,dx,_,_,rfl,bU,T.cl,T.nC,oF .., _,rfl,a.h,aD,dx,_,_,rfl,bU,T.cl,T.sW,vN .., a.c,a3,dy,_,_,rfl,bW,kV.cl,kV.u9,yJ _ _,_,rfl,a.h,aD,dx,_,_,rfl,bU,T.cl,T.pY,qX .., a.pu,_,rfl,A.aI,fun l az=>?_⟩
 have kO:(dX pl).map (fun z=>d9 z.1)=(pl.map (·.1)).map V.int:=C1 pl
 have s1:=bP az (.lst ((dX pl).map fun z=>d9 z.1))
 have eN:(upd H l (.lst ((dX pl).map fun z=>d9 z.1))) l=some (.lst ((pl.map (·.1)).map V.int)):=by rw[aQ,kO]
 generalize upd H l (.lst ((dX pl).map fun z=>d9 z.1))=H1 at s1 eN ⊢
 have bJ:=A.same s1
 have mS:∀d,x.isOpen d=true↔d∈pl.map (·.1):=fun d=>by
  rw[A.dr.eK]
  unfold av.isOpen
  rw[any_eq_true,mem_map]
  constructor
  ·rintro⟨z,hz,e⟩;exact⟨z,hz,beq_iff_eq.mp e⟩
  ·rintro⟨z,hz,e⟩;exact⟨z,hz,by rw[e];exact beq_self_eq_true d⟩
 refine⟨a.ce,a.ak,lo,l,x.b0,x.aB,pl.map (·.1),xs,x.log,rfl,bJ.aj,bJ.hd,s1 _ _ aJ,eN,aN.mono fun b y h=>h.mono s1.et,fun ln h=>by rw[A.dr.cd];exact hN.2.2 ln h,A.dr.cd,by have:=hN.2.1;omega,by rw[length_map];exact ho,fun k au s2 a8=>?_⟩
 have aiz:k=ee x.b0 x.aB x.isOpen x.log:=a8.uniq (C3 _ _ _ _ mS _)
 subst aiz
 have bq:=bJ.same s2
 obtain⟨iS,fX⟩:=bq.bR
 refine⟨_,rfl,_,_,rfl,rfl,_,rfl,gk (fun cL=>?_) (fun cL=>?_)⟩
 ·have dV:(0:Int)<((ee x.b0 x.aB x.isOpen x.log:Nat):Int):=of_decide_eq_true cL
  refine⟨_,rfl,a.h,iS,_,rfl,fX,(by kernel_rfl),_,rfl,cS,fun t a6=>?_⟩
  have s3:=bP a6 (.tup [.str "cut",.int ((ee x.b0 x.aB x.isOpen x.log:Nat):Int)])
  refine⟨a,lo,pl,x,aO,_,.cut (ee x.b0 x.aB x.isOpen x.log),rfl,bq.same s3,We aQ,trivial,hN,fun lo' cO c9 f7=>?_⟩
  have fC:x.dW=x.cT (.cut (ee x.b0 x.aB x.isOpen x.log)):=by
   unfold av.dW
   rw[if_pos (by omega)]
  rw[←fC]at c9
  exact q lo' cO c9 ((s1.trans (s2.trans s3)).moves.trans f7)
 ·have dV:¬(0:Int)<((ee x.b0 x.aB x.isOpen x.log:Nat):Int):=fun z=>cL (decide_eq_true z)
  have fC:x.dW=x:=by
   unfold av.dW
   rw[if_neg (by omega)]
  rw[fC]at q
  exact q lo au bq (s1.trans s2).moves
theorem Wb:dk gf gf (bF tp):=dM
theorem VG {a3 aD cy:Addr}{fc:Addr}{f9:FuncData}{hc:Addr}{h2:FuncData}(F:da K "carry" "House.carry" tp f fd) (T:hK K ai aD) (kV:pN K ai a3) (iK:aU P w K ai base bf 2 fc f9 hP (tX a3 aD)) (iF:Binds K f9 hP []) (iz:Meth K aD "make_stroke" fc)
  (lH:aU P w K ai base (di P w) 1 hc h2 gf (wc a3 aD cy)) (lF:Binds K h2 gf []) (jN:Meth K aD "ask_page" hc):aU P w K ai base (di P w) 3 f fd gf (y3 a3 aD cy):=by
 refine F.mO Wb (fun vs H Q E h=>?_) (fun b4 A outer s H vs Q E aC h=>?_)
 ·obtain⟨a,lo,pl,x,aO,p,rfl,_⟩:=h
  rfl
 obtain⟨a,lo,pl,x,aO,p,rfl,A,gp,hN,q⟩:=h
 obtain⟨dx,bU⟩:=A.bR
 obtain⟨dy,bW⟩:=A.co
 refine⟨_,(bh (dz (gI (af 0) T.cl jN lH (b9 aC) lF .nil (jy fun _ _ z=>z) (aq (af 1) aK))) (aZ (b_ (cn i5 (bA eH (eZ (eZ (af 0) rfl) rfl) (af 1) (fun _ _=>rfl)) (bA eH (eZ (af 0) rfl) (af 1) (fun _ _=>rfl)) (bY _)) (aZ (dz (gI (af 0) T.cl iz iK (b9 aC) iF .nil cP (aq (gz (aq bw (aq (af 1) (aq (bA eH (eZ (af 0) rfl) (af 1) (fun _ _=>rfl)) aK)))) aK)))) cZ))),?_⟩
 refine⟨_,rfl,a.h,dx,_,rfl,bU,(by kernel_rfl),_,rfl,a,lo,pl,x,aO,p,rfl,A,gp,?_⟩
 by_cases c:p<0∨(x.aB.length:Int)≤p
 ·rw[if_pos c]at q ⊢
  exact q
 rw[if_neg c]at q ⊢
 have aI:p.toNat<x.aB.length:=by omega
 have b7:p=((p.toNat:Nat):Int):=by omega
 obtain⟨dE,b6,fH⟩:=A.dr.atC aI
 obtain⟨dU,ck,eU⟩:=A.dr.qp aI
 rw[←b7]at fH eU
 have gu:x.aB.getD p.toNat 0=dU:=by rw[getD_eq_getElem?_getD,ck];rfl
 refine⟨_,rfl,a.h,aD,dx,_,_,rfl,bU,T.cl,T.sW,vN .., a.c,a3,dy,_,_,rfl,bW,kV.cl,kV.BD,Cd _ _,_,rfl,a.ce,_,_,_,rfl,rfl,aR.of A.aj,fH,_,rfl,a.h,aD,dx,_,_,rfl,bU,T.cl,T.nC,oF .., _,rfl,a.ak,_,_,_,rfl,rfl,aR.of A.hd,eU,rfl,_,rfl,?_⟩
 by_cases e:dE=dU
 ·subst e
  refine mF rfl ?_
  have fC:x.ea p.toNat=x:=by
   unfold av.ea
   rw[if_pos (b6.trans ck.symm)]
  rw[fC]at q
  exact q lo H A (ef.refl ..)
 ·refine nF (fun z=>e (by injection z)) ?_
  refine⟨_,rfl,a.h,dx,_,rfl,bU,(by kernel_rfl),_,rfl,_,rfl,a.h,aD,dx,_,_,rfl,bU,T.cl,T.nC,oF .., _,rfl,a.ak,_,_,_,rfl,rfl,aR.of A.hd,eU,cS,fun t a6=>?_⟩
  have s1:=bP a6 (.tup [.str "page",.int p,.int dU])
  have br:Rep (upd H t (.tup [.str "page",.int p,.int dU])) (bO.eO p.toNat dU).D (.ref t):=Vi (by rw[aQ,←b7])
  refine⟨a,lo,pl,x,aO,_,.eO p.toNat dU,rfl,A.same s1,br,aI,hN,fun lo' au bq fb=>?_⟩
  have fC:x.ea p.toNat=x.cT (.eO p.toNat dU):=by
   unfold av.ea
   rw[if_neg (by rw[b6,ck];exact fun z=>e (Option.some.inj z)),gu]
  rw[←fC]at bq
  exact q lo' au bq (s1.moves.trans fb)
theorem KV:dk gf hO (bF te):=dM
theorem X1 {a3 aD cy:Addr}{jm:Addr}{kS:FuncData}{jk:Addr}{kQ:FuncData}(F:da K "make_room" "House.make_room" te f fd) (B:ew ai) (T:hK K ai aD) (pK:aU P w K ai base (di P w) 3 jm kS gf (y3 a3 aD cy)) (pD:Binds K kS gf []) (pg:Meth K aD "carry" jm)
  (ow:aU P w K ai base bf 3 jk kQ hO (zy a3 aD)) (oo:Binds K kQ hO []) (n9:Meth K aD "cut" jk):aU P w K ai base bf 4 f fd hO (CN a3 aD):=by
 refine F.ok KV (fun vs H Q E h=>?_) (fun b4 A outer s H vs Q E aC h=>?_)
 ·obtain⟨a,lo,pl,x,aO,rfl,_⟩:=h
  rfl
 obtain⟨a,lo,pl,x,aO,rfl,A,hd,hN,ho,q⟩:=h
 obtain⟨dx,bU⟩:=A.bR
 have ld:(x.aB.map V.int).length=x.aB.length:=length_map _
 refine⟨_,(bh (hA PassesOwn.never rfl (qQ rfl B.l0 (aq (dP e8 rfl B.len PySem.boot_len (aq (eZ (af 0) rfl) aK)) aK)) (fj (i:=1) KV.bl rfl (Or.inl rfl)) (aZ (dz (gI (af 0) T.cl pg pK (b9 aC) pD .nil W8 (aq (af 1) aK))))) (aZ (dz (yS (af 0) T.cl n9 ow (b9 aC) oo .nil cP)))),?_⟩
 refine⟨_,rfl,a.h,aD,dx,_,_,rfl,bU,T.cl,T.nC,oF .., a.ak,_,rfl,.inl (aR.of A.hd),_,rfl,by omega,by omega,sH (fun i σ au=>∃(lo1:Addr) (o:Option V),σ=[some (.ref a.h),o]∧cG a3 aD au a lo1 pl (x.fk i) aO∧ef a lo pl lo1 pl H au)
  ⟨lo,none,rfl,A,ef.refl ..⟩ ?_ ?_⟩
 ·rintro i σ au aL ⟨lo1,o,rfl,bq,fb⟩
  have jF:i<x.aB.length:=by omega
  have e0:(0:Int)+(i:Int)=((i:Nat):Int):=by omega
  rw[e0]
  obtain⟨iS,fX⟩:=bq.bR
  have N_:(x.fk i).fits 1:=(hN.mono (by omega:i+1≤x.aB.length+1)).fk (by omega)
  have dY:(x.fk i).aB.length=x.aB.length:=by rw[oz]
  refine⟨_,rfl,a.h,iS,_,rfl,fX,(by kernel_rfl),_,rfl,a,lo1,pl,x.fk i,aO,_,rfl,bq,vM (by omega),N_,?_⟩
  rw[if_neg (by rw[dY];omega)]
  intro d7 a9 bX eW
  rw[Int.toNat_natCast,←kq]at bX
  exact⟨d7,_,rfl,bX,fb.trans eW⟩
 ·rintro σ au ⟨lo1,o,rfl,bq,fb⟩
  have Ss:((x.aB.map V.int).length:Int).toNat=x.aB.length:=by omega
  have RX:cG a3 aD au a lo1 pl (x.fk x.aB.length) aO:=by
   simpa[ld] using bq
  obtain⟨iS,fX⟩:=RX.bR
  refine⟨_,rfl,a.h,iS,_,rfl,fX,(by kernel_rfl),a,lo1,pl,x.fk x.aB.length,aO,rfl,RX,hN.fk (le_refl _),ho,fun d7 a9 bX eW=>?_⟩
  rw[←jn]at bX
  exact q d7 a9 bX (fb.trans eW)
theorem ZC:dk jC jC (bF tM):=dM
theorem X6 {a3 aD cJ cy cN cI:Addr}{vf:Addr}{x7:FuncData}{ve:Addr}{x6:FuncData}(F:da K "ask_room" "House.ask_room" tM f fd) (T:hK K ai aD) (E:rU K ai cJ cy cN cI) (BX:aU P w K ai base bf 1 vf x7 jC (Dk a3 aD)) (BR:Binds K x7 jC []) (BH:Meth K aD "has_room" vf)
  (GM:aU P w K ai base bf 4 ve x6 hO (CN a3 aD)) (G0:Binds K x6 hO []) (Gw:Meth K aD "make_room" ve):aU P w K ai base (di P w) 5 f fd jC (zd a3 aD cI):=by
 refine F.mO ZC (fun vs H Q hj h=>?_) (fun b4 A outer s H vs Q hj aC h=>?_)
 ·obtain⟨a,lo,pl,x,aO,m,rfl,_⟩:=h
  rfl
 obtain⟨a,lo,pl,x,aO,m,rfl,A,hm,hd,hN,ho,q⟩:=h
 obtain⟨dx,bU⟩:=A.bR
 refine⟨_,(aZ (b_ (hM (gy (gI (af 0) T.cl BH BX (b9 aC) BR .nil cP (aq (af 1) aK)))) (bh (dz (yS (af 0) T.cl Gw GM (b9 aC) G0 .nil cP)) (aZ (b_ (hM (gy (gI (af 0) T.cl BH BX (b9 aC) BR .nil cP (aq (af 1) aK)))) (aZ (yQ E.akd E.n_ excBase_ValueError rfl (yG (lP 2000 bw (lP 2000 (wh (af 1)) (lP 2000 bw zg)))))) cZ))) cZ)),?_⟩
 refine⟨_,rfl,a.h,dx,_,rfl,bU,(by kernel_rfl),_,rfl,a,lo,pl,x,aO,_,rfl,A,_,rfl,?_⟩
 cases aJ:x.fZ ((m:Nat):Int) with
 | true =>
  refine cU ?_
  have oi:x.full ((m:Nat):Int)=(x,false):=by
   unfold av.full
   rw[if_pos aJ]
  have aV:=q lo H (by rw[oi];exact A) (ef.refl ..)
  rw[oi,if_neg (fun z=>nomatch z)]at aV
  exact aV
 | false =>
  refine fm ?_
  refine⟨_,rfl,a.h,dx,_,rfl,bU,(by kernel_rfl),a,lo,pl,x,aO,rfl,A,hd,hN,ho,fun lo1 H1 bJ fM=>?_⟩
  have oi:x.full ((m:Nat):Int)=(x.ed, !x.ed.fZ ((m:Nat):Int)):=by
   unfold av.full
   rw[if_neg (by rw[aJ];exact fun z=>nomatch z)]
  have aV:=q lo1 H1 (by rw[oi];exact bJ) fM
  rw[oi]at aV
  obtain⟨FW,k9⟩:=bJ.bR
  refine⟨_,rfl,a.h,FW,_,rfl,k9,(by kernel_rfl),_,rfl,a,lo1,pl,_,aO,_,rfl,bJ,_,rfl,?_⟩
  cases aN:x.ed.fZ ((m:Nat):Int) with
  | true =>
   rw[aN]at aV
   exact cU aV
  | false =>
   rw[aN]at aV
   refine fm ?_
   have c2:=vM (n:=m) (by omega)
   exact⟨_,rfl,(le_of_ble_eq_true rfl),_,rfl,_,rfl,c2,_,rfl,(le_trans (sz c2) (by decide)),_,rfl,(le_of_ble_eq_true rfl),fun _=>aV⟩
theorem sv {x:av}{e:b1}{w:Str}(h:x.refusal e=some w):x.a_ e=(x,.word w):=by
 unfold av.a_
 rw[h]
theorem qP {x:av}{e:b1}(h:x.refusal e=none):x.a_ e=x.fy e:=by
 unfold av.a_
 rw[h]
def lU (cJ cy cN cI:Addr) (jS:V) (Q:cC) (E:gR) (H:ao):dp→Prop
 | .num i=>Q (.int i) H
 | .word w=>if w="done" then Q jS H else if w="no dealing" then E (.ref cJ) none H else if w="no page" then E (.ref cy) none H else if w="taken" then E (.ref cN) none H else E (.ref cI) none H
section
variable {cJ cy cN cI:Addr}{jS:V}{Q:cC}{E:gR}{H:ao}
theorem sO:lU cJ cy cN cI jS Q E H (.word "done")↔Q jS H:=by unfold lU;dsimp only;rw[if_pos rfl]
theorem yt:lU cJ cy cN cI jS Q E H (.word "no dealing")↔E (.ref cJ) none H:=by unfold lU;dsimp only;rw[if_neg (by decide +kernel),if_pos rfl]
theorem sN:lU cJ cy cN cI jS Q E H (.word "no page")↔E (.ref cy) none H:=by unfold lU;dsimp only;rw[if_neg (by decide +kernel),if_neg (by decide +kernel),if_pos rfl]
theorem Iv:lU cJ cy cN cI jS Q E H (.word "taken")↔E (.ref cN) none H:=by unfold lU;dsimp only;rw[if_neg (by decide +kernel),if_neg (by decide +kernel),if_neg (by decide +kernel),if_pos rfl]
theorem vV:lU cJ cy cN cI jS Q E H (.word "no room")↔E (.ref cI) none H:=by unfold lU;dsimp only;rw[if_neg (by decide +kernel),if_neg (by decide +kernel),if_neg (by decide +kernel),if_neg (by decide +kernel)]
end
def After (a3 aD cJ cy cN cI:Addr) (jS:V) (a:dZ) (lo:Addr) (pl:List (Int × Addr)) (x:av) (aO:List (Key × V)) (H:ao) (Q:cC) (E:gR) (e:b1):Prop :=
 ∀lo' g8 jZ ah,cG a3 aD ah a lo' g8 (x.a_ e).1 jZ→jZ.length≤aO.length+1→ef a lo pl lo' g8 H ah→lU cJ cy cN cI jS Q E ah (x.a_ e).2
structure Ready (a3 aD:Addr) (H:ao) (a:dZ) (lo:Addr) (pl:List (Int × Addr)) (x:av) (aO:List (Key × V)) (n:Nat):Prop where
 u6:cG a3 aD H a lo pl x aO
 hs:x.good n
 dH:n≤110
 hD:aO.length≤100000
 nd:x.begun≤900
def c2 (i:Int):Prop:=i.natAbs.log2<1920
def CU (a3 aD cJ cy cN cI:Addr):c3:=fun vs H Q E=>∃(a:dZ) (lo:Addr) (pl:List (Int × Addr)) (x:av) (aO:List (Key × V)) (n:Nat),vs=[.ref a.h]∧Ready a3 aD H a lo pl x aO n∧After a3 aD cJ cy cN cI .cE a lo pl x aO H Q E .begin
def DC (a3 aD cJ cy cN cI:Addr):c3:=fun vs H Q E=>∃(a:dZ) (lo:Addr) (pl:List (Int × Addr)) (x:av) (aO:List (Key × V)) (n:Nat) (d p k:Int),vs=[.ref a.h,.int d,.int p,.int k]∧Ready a3 aD H a lo pl x aO n∧c2 d∧c2 p∧After a3 aD cJ cy cN cI .cE a lo pl x aO H Q E (.put d p k)
def zx (a3 aD cJ cy cN cI:Addr):c3:=fun vs H Q E=>∃(a:dZ) (lo:Addr) (pl:List (Int × Addr)) (x:av) (aO:List (Key × V)) (n:Nat) (d:Int),vs=[.ref a.h,.int d]∧cG a3 aD H a lo pl x aO∧x.fits 1∧c2 d∧(if x.isOpen d=false then E (.ref cJ) none H else ∀lo' ah,cG a3 aD ah a lo' (pl.filter fun z=>z.1 != d) (x.jV d) aO→ef a lo pl lo' (pl.filter fun z=>z.1 != d) H ah→Q .cE ah)
def Dm (a3 aD cJ cy cN cI:Addr):c3:=fun vs H Q E=>∃(a:dZ) (lo:Addr) (pl:List (Int × Addr)) (x:av) (aO:List (Key × V)) (n:Nat) (d:Int),vs=[.ref a.h,.int d]∧Ready a3 aD H a lo pl x aO n∧c2 d∧After a3 aD cJ cy cN cI .cE a lo pl x aO H Q E (.drop d)
def Di (a3 aD cJ cy cN cI:Addr):c3:=fun vs H Q E=>∃(a:dZ) (lo:Addr) (pl:List (Int × Addr)) (x:av) (aO:List (Key × V)) (n:Nat) (p:Int),vs=[.ref a.h,.int p]∧Ready a3 aD H a lo pl x aO n∧c2 p∧After a3 aD cJ cy cN cI .cE a lo pl x aO H Q E (.look p)
section
variable {a3 aD:Addr}{H:ao}{a:dZ}{lo:Addr}{pl:List (Int × Addr)}{x:av}{aO:List (Key × V)}{n:Nat}
theorem Ready.fits (R:Ready a3 aD H a lo pl x aO n) {k:Nat}(a8:k≤50000):x.fits k:=R.hs.fits (by have:=R.dH;omega) a8
theorem Ready.Aa (R:Ready a3 aD H a lo pl x aO n):pl.length≤1000:=by
 have ay:=R.u6.dr.lW
 have aG:=R.hs.pl
 have ct:=R.dH
 omega
theorem Ready.cB (R:Ready a3 aD H a lo pl x aO n):x.aB.length≤1000:=by
 have:=R.hs.eF
 omega
end
theorem Jp:dk gm hO (bF tu):=dM
theorem VI {a3 aD cJ cy cN cI:Addr}{lC:Addr}{m_:FuncData}(F:da K "begin" "House.begin" tu f fd) (T:hK K ai aD) (sq:aU P w K ai base (di P w) 5 lC m_ jC (zd a3 aD cI)) (sb:Binds K m_ jC []) (n_:Meth K aD "ask_room" lC):aU P w K ai base (di P w) 6 f fd hO (CU a3 aD cJ cy cN cI):=by
 refine F.mO Jp (fun vs H Q hj h=>?_) (fun b4 A outer s H vs Q hj aC h=>?_)
 ·obtain⟨a,lo,pl,x,aO,n,rfl,_⟩:=h
  rfl
 obtain⟨a,lo,pl,x,aO,n,rfl,R,q⟩:=h
 have A:=R.u6
 obtain⟨dx,bU⟩:=A.bR
 have a7:=gT aC
 refine⟨_,(bh (dm (i:=1) Jp.bl rfl (Or.inl rfl) (eZ (af 0) rfl)) (bh (yF (af 0) aW Dw) (bh (dz (gI (af 0) T.cl n_ sq (b9 aC) sb .nil (jy fun _ _ z=>z) (aq aW aK))) (bh (lO a7 (eZ (af 0) rfl) (af 1) (fl aK) rfl) (bh (yF (af 0) aW Dw) (aZ (cF (af 1)))))))),?_⟩
 refine⟨_,rfl,a.h,aD,dx,_,_,rfl,bU,T.cl,T.C5,IE .., ?_⟩
 refine⟨_,rfl,a.h,aD,dx,_,_,rfl,bU,T.cl,T.C5,IE .., _,_,rfl,rfl,dx,_,bU,(by show 8<1000;decide),?_⟩
 rw[TH]
 have bJ:=A.began (dx:=dx) (b:=(x.begun:Int)+1) rfl
 have fM:ef a lo pl lo pl H (upd H a.h (.ins aD dx (hf a.c a.ak a.st a.pu a.bG x.room ((x.begun:Int)+1) x.bound))):=(ef.refl ..).upd (q1 ..)
 generalize upd H a.h (.ins aD dx (hf a.c a.ak a.st a.pu a.bG x.room ((x.begun:Int)+1) x.bound))=H1 at bJ fM ⊢
 obtain⟨FW,k9⟩:=bJ.bR
 have hN:x.began.fits (x.began.aB.length+1):=R.fits (k:=x.aB.length+1) (by have:=R.cB;omega)
 refine⟨_,rfl,a.h,FW,_,rfl,k9,(by kernel_rfl),a,lo,pl,x.began,aO,1,rfl,bJ,by decide,R.cB,hN,R.Aa,fun d7 au bq fb=>?_⟩
 have aP:x.a_ .begin=(if (x.began.full 1).2=true then ((x.began.full 1).1,dp.word "no room") else ((x.began.full 1).1.opened,.num x.begun)):=rfl
 by_cases mU:(x.began.full ((1:Nat):Int)).2=true
 ·rw[if_pos mU]
  have rp:(x.began.full 1).2=true:=mU
  rw[if_pos rp]at aP
  have aV:=q d7 pl aO au (by rw[aP];exact bq) (le_succ _) (fM.trans fb)
  rw[aP]at aV
  exact vV.mp aV
 rw[if_neg mU]
 have rp:¬(x.began.full 1).2=true:=mU
 rw[if_neg rp]at aP
 have Bg:(x.began.full ((1:Nat):Int)).1.begun=x.begun+1:=kY
 have uV:(x.began.full ((1:Nat):Int)).1.aT=x.aT:=jq
 refine⟨cS,fun nl aS=>?_⟩
 have s3:=bP aS (.lst [])
 have bX:=bq.same s3
 obtain⟨kI,fW⟩:=bX.bR
 have qq:=R.Aa
 refine⟨_,rfl,a.h,aD,kI,_,_,rfl,fW,T.cl,T.pY,qX .., _,rfl,a.pu,_,rfl,nI.k (k:=Sum.inl ((x.begun:Nat):Int)) bX.aI (ia (by unfold dX;rw[length_map];omega)),?_⟩
 have i9:(upd (upd au nl (.lst [])) a.pu (.bQ (putK (dX pl) (Sum.inl ((x.begun:Nat):Int)) (.ref nl)))) a.h=(upd au nl (.lst [])) a.h:=aA bq.aS.2.2.1.symm
 rw[fW]at i9
 refine⟨_,rfl,a.h,aD,kI,_,_,rfl,i9,T.cl,T.wi,yX .., _,_,rfl,rfl,kI,_,i9,(by show 8<1000;decide),_,rfl,?_⟩
 rw[Cb]
 have mS:(x.began.full ((1:Nat):Int)).1.isOpen ((x.begun:Nat):Int)=false:=by
  unfold av.isOpen
  rw[uV]
  cases e:x.aT.any (fun z=>z.1 == ((x.begun:Nat):Int)) with
  | false=>rfl
  | true =>
   obtain⟨z,hz,he⟩:=any_eq_true.mp e
   have ay:=(R.hs.ei z hz).2.1
   have aG:=beq_iff_eq.mp he
   omega
 have c9:=bq.opened (n:=nl) (dx:=kI) (d:=((x.begun:Nat):Int)) (b:=(x.began.full ((1:Nat):Int)).1.bound+1) aS mS rfl (by rw[Bg];omega) fun k e he z=>by
  obtain⟨p,d',aJ,aN,b2,cj,fe⟩:=A.iV.b k _ he
  injection aN with aN
  omega
 have f7:ef a d7 pl d7 (pl++[(((x.begun:Nat):Int),nl)]) au (upd (upd (upd au nl (.lst [])) a.pu (.bQ (putK (dX pl) (Sum.inl ((x.begun:Nat):Int)) (.ref nl)))) a.h (.ins aD kI (hf a.c a.ak a.st a.pu a.bG (x.began.full ((1:Nat):Int)).1.room (x.began.full ((1:Nat):Int)).1.begun ((x.began.full ((1:Nat):Int)).1.bound+1)))):=by
  refine ef.upd (ef.upd ⟨fun b o aa e=>s3 b o e,fun b aa=>?_⟩ (wk ..)) (q1 ..)
  rcases mem_cons.mp aa with z | aa
  ·rw[z];exact .inl (wm ..)
  ·rcases mem_cons.mp aa with z | aa
   ·rw[z];exact .inl (zH ..)
   ·rcases mem_cons.mp aa with z | aa
    ·rw[z];exact .inl (zl ..)
    ·rcases oE.mp aa with z | z | z | z | z | ⟨z,hz,e⟩
     ·rw[z];exact .inl (q1 ..)
     ·rw[z];exact .inl (zq ..)
     ·rw[z];exact .inl (zp ..)
     ·rw[z];exact .inl (wk ..)
     ·rw[z];exact .inl (zm ..)
     ·rcases mem_append.mp hz with y | y
      ·rw[←e];exact .inl (zo y ..)
      ·rw[mem_singleton.mp y]at e
       rw[←e];exact .inr aS
 have aV:=q d7 _ aO _ (by rw[aP];exact c9) (le_succ _) ((fM.trans fb).trans f7)
 rw[aP]at aV
 exact aV
theorem WT:dk gf gf (bF tF):=dM
theorem Wm {a3 aD cJ cy cN cI:Addr}{hc:Addr}{h2:FuncData}(F:da K "look" "House.look" tF f fd) (T:hK K ai aD) (lH:aU P w K ai base (di P w) 1 hc h2 gf (wc a3 aD cy)) (lF:Binds K h2 gf []) (jN:Meth K aD "ask_page" hc):aU P w K ai base (di P w) 2 f fd gf (Di a3 aD cJ cy cN cI):=by
 refine F.mO WT (fun vs H Q hj h=>?_) (fun b4 A outer s H vs Q hj aC h=>?_)
 ·obtain⟨a,lo,pl,x,aO,n,p,rfl,_⟩:=h
  rfl
 obtain⟨a,lo,pl,x,aO,n,p,rfl,R,gp,q⟩:=h
 have A:=R.u6
 obtain⟨dx,bU⟩:=A.bR
 refine⟨_,(bh (dz (gI (af 0) T.cl jN lH (b9 aC) lF .nil (jy fun _ _ z=>z) (aq (af 1) aK))) (aZ (cF (bA eH (eZ (af 0) rfl) (af 1) (fun _ _=>rfl))))),?_⟩
 refine⟨_,rfl,a.h,dx,_,rfl,bU,(by kernel_rfl),_,rfl,a,lo,pl,x,aO,p,rfl,A,gp,?_⟩
 by_cases c:p<0∨(x.aB.length:Int)≤p
 ·rw[if_pos c]
  have aP:x.a_ (.look p)=(x,.word "no page"):=by
   exact sv (if_pos c)
  have aV:=q lo pl aO H (by rw[aP];exact A) (le_succ _) (ef.refl ..)
  rw[aP]at aV
  exact sN.mp aV
 ·rw[if_neg c]
  have aI:p.toNat<x.aB.length:=by omega
  have b7:p=((p.toNat:Nat):Int):=by omega
  obtain⟨dU,ck,eU⟩:=A.dr.qp aI
  rw[←b7]at eU
  have aP:x.a_ (.look p)=(x,.num (x.aB.getD p.toNat 0)):=by
   exact qP (e:=.look p) (if_neg c)
  have gu:x.aB.getD p.toNat 0=dU:=by rw[getD_eq_getElem?_getD,ck];rfl
  have aV:=q lo pl aO H (by rw[aP];exact A) (le_succ _) (ef.refl ..)
  rw[aP,gu]at aV
  exact⟨_,rfl,a.h,aD,dx,_,_,rfl,bU,T.cl,T.nC,oF .., _,rfl,a.ak,_,_,_,rfl,rfl,aR.of A.hd,eU,aV⟩
theorem XT:dk gm gm (bF t4):=dM
theorem Xe {a3 aD cJ cy cN cI:Addr}{gE:Addr}{hg:FuncData}{fc:Addr}{f9:FuncData}(F:da K "end" "House.end" t4 f fd) (B:ew ai) (T:hK K ai aD) (h9:aU P w K ai base (di P w) 1 gE hg gm (wd a3 aD cJ)) (h3:Binds K hg gm []) (ha:Meth K aD "ask_dealing" gE)
  (iK:aU P w K ai base bf 2 fc f9 hP (tX a3 aD)) (iF:Binds K f9 hP []) (iz:Meth K aD "make_stroke" fc):aU P w K ai base (di P w) 3 f fd gm (zx a3 aD cJ cy cN cI):=by
 refine F.mO XT (fun vs H Q hj h=>?_) (fun b4 A outer s H vs Q hj aC h=>?_)
 ·obtain⟨a,lo,pl,x,aO,n,d,rfl,_⟩:=h
  rfl
 obtain⟨a,lo,pl,x,aO,n,d,rfl,A,hN,gp,q⟩:=h
 obtain⟨dx,bU⟩:=A.bR
 refine⟨_,(bh (dz (gI (af 0) T.cl ha h9 (b9 aC) h3 .nil (jy fun _ _ z=>z) (aq (af 1) aK))) (bh (dz (gI (af 0) T.cl iz iK (b9 aC) iF .nil cP (aq (gz (aq bw (aq (gz (aq bw (aq (af 1) aK))) aK))) aK))) (aZ (yF (af 0) (c0 gJ (dP e8 rfl B.len PySem.boot_len (aq (yT (eZ (af 0) rfl) (af 1) ⟨rfl,rfl,rfl,rfl⟩) aK)) aW) Xs)))),?_⟩
 refine⟨_,rfl,a.h,dx,_,rfl,bU,(by kernel_rfl),_,rfl,a,lo,pl,x,aO,d,rfl,A,gp,?_⟩
 cases aH:x.isOpen d with
 | false =>
  rw[aH,if_pos rfl]at q
  rw[if_pos rfl]
  exact q
 | true =>
  rw[aH,if_neg (fun z=>nomatch z)]at q
  rw[if_neg (fun z=>nomatch z)]
  refine⟨_,rfl,a.h,dx,_,rfl,bU,(by kernel_rfl),_,rfl,cS,fun t1 ay=>⟨cS,fun en aG=>?_⟩⟩
  have s1:=bP ay (.tup [.str "end",.int d])
  have s2:=bP aG (.tup [.str "line",.ref t1])
  have bq:=A.same (s1.trans s2)
  have br:Rep (upd (upd H t1 (.tup [.str "end",.int d])) en (.tup [.str "line",.ref t1])) (bO.line (.fin d)).D (.ref en) :=
   Rep.gS aQ (.cons .ofStr (.cons (Rep.gS (s2 _ _ aQ) (.cons .ofStr (.cons .ofInt .nil))) .nil))
  refine⟨a,lo,pl,x,aO,_,.line (.fin d),rfl,bq,br,trivial,hN,fun ll a9 bX eW=>?_⟩
  obtain⟨kI,dB⟩:=bX.bR
  have qf:(x.cT (.line (.fin d))).isOpen d=true:=aH
  obtain⟨i,al,ys,hb,kc,mj,qA,xZ⟩:=bX.dr.pR qf
  have hm:=mem_of_getElem? hb
  have rA:a9 al=some (.lst ys):=by rw[fE (bX.aS.2.2.2.2.2 _ hm) (bX.eX.2.2.2.2.2 _ hm)]at mj;exact mj
  have gg:ys.length=((x.cT (.line (.fin d))).dh d).length:=by rw[bk.length qA,length_map]
  have AA:dn (dX pl) (Sum.inl d)=some (.ref al):=by
   have:=lJ (l:=pl) (by rw[bX.dr.eK];exact bX.dr.bz) hb
   rw[pO]
   rw[this]
   rfl
  have agK:al≠a.pu:=dK rA bX.aI (fun z=>nomatch z)
  have fR:(upd a9 a.pu (.bQ (kx (dX pl) (Sum.inl d)))) a.h=a9 a.h:=aA bX.aS.2.2.1.symm
  rw[dB]at fR
  refine⟨_,rfl,a.h,aD,kI,_,_,rfl,dB,T.cl,T.wi,yX .., _,rfl,a.h,aD,kI,_,_,rfl,dB,T.cl,T.pY,qX .., a.pu,rfl,.inl ⟨_,.inl bX.aI⟩,_,rfl,_,Sum.inl d,_,bX.aI,rfl,AA,al,ys,rfl,.inl (aR.of (by rw[aA agK];exact rA)),_,_,rfl,rfl,_,_,rfl,rfl,kI,_,fR,(by show 8<1000;decide),?_⟩
  rw[Cb]
  have c9:=bX.ended (dx:=kI) (d:=d) (b:=(x.cT (.line (.fin d))).bound - (((ys.length:Nat):Int)+1)) (by rw[yK bX.dr.bz qf,gg])
  refine q ll _ c9 (((s1.trans s2).moves.trans eW).trans (ef.upd (ef.upd ⟨fun b o _ e=>e,fun b aa=>?_⟩ (wk ..)) (q1 ..)))
  rcases mem_cons.mp aa with z | aa
  ·rw[z];exact .inl (wm ..)
  ·rcases mem_cons.mp aa with z | aa
   ·rw[z];exact .inl (zH ..)
   ·rcases mem_cons.mp aa with z | aa
    ·rw[z];exact .inl (zl ..)
    ·rcases oE.mp aa with z | z | z | z | z | ⟨z,hz,e⟩
     ·rw[z];exact .inl (q1 ..)
     ·rw[z];exact .inl (zq ..)
     ·rw[z];exact .inl (zp ..)
     ·rw[z];exact .inl (wk ..)
     ·rw[z];exact .inl (zm ..)
     ·rw[←e];exact .inl (zo (mem_filter.mp hz).1 ..)
theorem XR:dk jD jD (bF tZ):=dM
theorem Xb {a3 aD cJ cy cN cI:Addr}{gE:Addr}{hg:FuncData}{hc:Addr}{h2:FuncData}{od:Addr}{qC:FuncData}{lC:Addr}{m_:FuncData}{jj:Addr}{kP:FuncData}(F:da K "put" "House.put" tZ f fd) (T:hK K ai aD) (h9:aU P w K ai base (di P w) 1 gE hg gm (wd a3 aD cJ)) (h3:Binds K hg gm []) (ha:Meth K aD "ask_dealing" gE)
  (lH:aU P w K ai base (di P w) 1 hc h2 gf (wc a3 aD cy)) (lF:Binds K h2 gf []) (jN:Meth K aD "ask_page" hc)
  (vz:aU P w K ai base (di P w) 1 od qC uf (Dp a3 aD cN)) (vp:Binds K qC uf []) (va:Meth K aD "ask_free" od)
  (sq:aU P w K ai base (di P w) 5 lC m_ jC (zd a3 aD cI)) (sb:Binds K m_ jC []) (n_:Meth K aD "ask_room" lC)
  (nj:aU P w K ai base bf 3 jj kP jD (zN a3 aD)) (nf:Binds K kP jD []) (m5:Meth K aD "write_put" jj):aU P w K ai base (di P w) 6 f fd jD (DC a3 aD cJ cy cN cI):=by
 refine F.mO XR (fun vs H Q hj h=>?_) (fun b4 A outer s H vs Q hj aC h=>?_)
 ·obtain⟨a,lo,pl,x,aO,n,d,p,k,rfl,_⟩:=h
  rfl
 obtain⟨a,lo,pl,x,aO,n,d,p,k,rfl,R,BA,sp,q⟩:=h
 have A:=R.u6
 obtain⟨dx,bU⟩:=A.bR
 have a7:=gT aC
 have eE:x.refusal (.put d p k)=(if x.isOpen d=false then some ("no dealing":Str) else if p<0∨(x.aB.length:Int)≤p then some ("no page":Str) else if x.d5 p.toNat=none∨x.d5 p.toNat=some d then none else some ("taken":Str)):=rfl
 have jA:∀w:Str,x.refusal (.put d p k)=some w→lU cJ cy cN cI .cE Q hj H (.word w):=fun w h=>by
  have aP:=sv h
  have aV:=q lo pl aO H (by rw[aP];exact A) (le_succ _) (ef.refl ..)
  rw[aP]at aV
  exact aV
 refine⟨_,(bh (dz (gI (af 0) T.cl ha h9 (b9 aC) h3 .nil (jy fun _ _ z=>z) (aq (af 1) aK))) (bh (dz (gI (af 0) T.cl jN lH (b9 aC) lF .nil (jy fun _ _ z=>z) (aq (af 2) aK))) (bh (dz (gI (af 0) T.cl va vz (b9 aC) vp .nil (jy fun _ _ z=>z) (aq (af 1) (aq (af 2) aK)))) (bh (dz (gI (af 0) T.cl n_ sq (b9 aC) sb .nil (jy fun _ _ z=>z) (aq aW aK))) (bh (dz (jx plainAttrs_list PySem.F.slot_list_append PySem.F.type_list_append jo (ek a7 (eZ (af 0) rfl) (af 1) (fun _ _=>rfl)) (aq (gz (aq (af 2) (aq (bA eH (eZ (af 0) rfl) (af 2) (fun _ _=>rfl)) aK))) aK))) (bh (lO a7 (eZ (af 0) rfl) (af 2) (af 1) rfl) (bh (yF (af 0) aW Dw) (aZ (dz (gI (af 0) T.cl m5 nj (b9 aC) nf .nil cP (aq (af 1) (aq (af 2) (aq (af 3) aK))))))))))))),?_⟩
 refine⟨_,rfl,a.h,dx,_,rfl,bU,(by kernel_rfl),_,rfl,a,lo,pl,x,aO,d,rfl,A,BA,?_⟩
 cases aH:x.isOpen d with
 | false =>
  rw[if_pos rfl]
  rw[aH,if_pos rfl]at eE
  exact yt.mp (jA _ eE)
 | true =>
 rw[if_neg (fun z=>nomatch z)]
 rw[aH,if_neg (fun z=>nomatch z)]at eE
 refine⟨_,rfl,a.h,dx,_,rfl,bU,(by kernel_rfl),_,rfl,a,lo,pl,x,aO,p,rfl,A,sp,?_⟩
 by_cases c:p<0∨(x.aB.length:Int)≤p
 ·rw[if_pos c]
  rw[if_pos c]at eE
  exact sN.mp (jA _ eE)
 rw[if_neg c]
 rw[if_neg c]at eE
 obtain⟨bz,rfl⟩:∃bz:Nat,p=(bz:Int):=⟨p.toNat,by omega⟩
 rw[Int.toNat_natCast]at eE
 have aI:bz<x.aB.length:=by omega
 refine⟨_,rfl,a.h,dx,_,rfl,bU,(by kernel_rfl),_,rfl,_,rfl,a,lo,pl,x,aO,d,bz,rfl,A,by have:=R.nd;omega,by have:=R.cB;omega,?_⟩
 by_cases ff:x.d5 bz=none∨x.d5 bz=some d
 case neg =>
  rw[if_neg ff]
  rw[if_neg ff]at eE
  exact Iv.mp (jA _ eE)
 rw[if_pos ff]
 rw[if_pos ff]at eE
 have aP:x.a_ (.put d bz k)=(if (x.full 2).2=true then ((x.full 2).1,dp.word "no room") else (((x.full 2).1.dA d bz).putIn d bz k,.word "done")):=by
  rw[qP eE]
  show (if (x.full 2).2=true then ((x.full 2).1,dp.word "no room") else (((x.full 2).1.dA d (bz:Int).toNat).putIn d (bz:Int).toNat k,.word "done"))=_
  rw[Int.toNat_natCast]
 have hN:x.fits (x.aB.length+1):=R.fits (by have:=R.cB;omega)
 refine⟨_,rfl,a.h,dx,_,rfl,bU,(by kernel_rfl),a,lo,pl,x,aO,2,rfl,A,by decide,R.cB,hN,R.Aa,fun d7 au bq fb=>?_⟩
 by_cases mU:(x.full ((2:Nat):Int)).2=true
 ·rw[if_pos mU]
  have rp:(x.full 2).2=true:=mU
  rw[if_pos rp]at aP
  have aV:=q d7 pl aO au (by rw[aP];exact bq) (le_succ _) fb
  rw[aP]at aV
  exact vV.mp aV
 rw[if_neg mU]
 have rp:¬(x.full 2).2=true:=mU
 rw[if_neg rp]at aP
 have Bg:(x.full ((2:Nat):Int)).1.begun=x.begun:=kY
 have uV:(x.full ((2:Nat):Int)).1.aT=x.aT:=jq
 have xw:(x.full ((2:Nat):Int)).1.aB=x.aB:=nu
 have N9:(x.full ((2:Nat):Int)).1.fits 1:=av.fits.full (R.fits (by have:=R.cB;omega))
 have xx:x.a_ (.put d bz k)=(((x.full ((2:Nat):Int)).1.dA d bz).putIn d bz k,.word "done"):=aP
 generalize (x.full ((2:Nat):Int)).1=y at bq xx Bg uV xw N9
 have rE:y.isOpen d=true:=by unfold av.isOpen;rw[uV];exact aH
 obtain⟨i,al,ys,hb,kc,mj,qA,xZ⟩:=bq.dr.pR rE
 have hm:=mem_of_getElem? hb
 have rA:au al=some (.lst ys):=by rw[fE (bq.aS.2.2.2.2.2 _ hm) (bq.eX.2.2.2.2.2 _ hm)]at mj;exact mj
 have gg:ys.length=(y.dh d).length:=by rw[bk.length qA,length_map]
 have Fl:dn (dX pl) (Sum.inl d)=some (.ref al):=by
  have:=lJ (l:=pl) (by rw[bq.dr.eK];exact bq.dr.bz) hb
  rw[pO]
  rw[this]
  rfl
 have l6:=R.hs.ei (d,x.dh d) (mA aH)
 have aix:y.dh d=x.dh d:=by unfold av.dh;rw[uV]
 obtain⟨iS,fX⟩:=bq.bR
 have w9:bz<y.aB.length:=by rw[xw];exact aI
 obtain⟨z,dE,dU⟩:=bq.dr.qp w9
 have gu:y.aB.getD bz 0=z:=by rw[getD_eq_getElem?_getD,dE];rfl
 have N6:=R.dH
 have wJ:e2 au a.pu (.int d) (some (.ref al)):=by
  have h0:=e2.k (k:=Sum.inl d) bq.aI
  rw[Fl]at h0
  exact h0
 refine⟨_,rfl,a.h,aD,iS,_,_,rfl,fX,T.cl,T.pY,qX .., _,rfl,a.pu,_,rfl,wJ,.inl ⟨rfl,_,aR.of rA⟩,_,rfl,_,rfl,a.h,aD,iS,_,_,rfl,fX,T.cl,T.nC,oF .., _,rfl,a.ak,_,_,_,rfl,rfl,aR.of bq.hd,dU,cS,fun t a6=>?_⟩
 have s3:=bP a6 (.tup [.int ((bz:Nat):Int),.int z])
 have bX:=bq.same s3
 have AA:Rep (upd au t (.tup [.int ((bz:Nat):Int),.int z])) (pairD (bz,y.aB.getD bz 0)) (.ref t):=by
  rw[gu]
  exact Rep.gS aQ (.cons .ofInt (.cons .ofInt .nil))
 have Fg:=s3 _ _ rA
 have fW:=s3 _ _ fX
 have uD:=s3 _ _ bq.kt
 have eW:ef a lo pl d7 pl H (upd au t (.tup [.int ((bz:Nat):Int),.int z])):=fb.trans s3.moves
 generalize upd au t (.tup [.int ((bz:Nat):Int),.int z])=a9 at s3 bX AA Fg fW uD eW ⊢
 refine⟨al,ys,.ref t,rfl,rfl,Fg,ia (by have:=l6.2.2.1;rw[←aix,←gg]at this;omega),?_⟩
 have agM:a.h≠al:=(bX.aS.2.2.2.2.2 _ hm).symm
 have agL:a.bG≠al:=bX.nJ.2.2.2.2.2.2 _ hm
 have i9:(upd a9 al (.lst (ys++[.ref t]))) a.h=a9 a.h:=aA agM
 rw[fW]at i9
 have uC:(upd a9 al (.lst (ys++[.ref t]))) a.bG=a9 a.bG:=aA agL
 rw[uD]at uC
 have al8:=R.hD
 refine⟨_,rfl,_,rfl,a.h,aD,iS,_,_,rfl,i9,T.cl,T.C4,ID .., _,rfl,a.bG,_,rfl,nI.k (k:=Sum.inl ((bz:Nat):Int)) uC (ia (by omega)),?_⟩
 have ih:(upd (upd a9 al (.lst (ys++[.ref t]))) a.bG (.bQ (putK aO (Sum.inl ((bz:Nat):Int)) (.int d)))) a.h=(upd a9 al (.lst (ys++[.ref t]))) a.h:=aA bX.nJ.1.symm
 rw[i9]at ih
 refine⟨_,rfl,a.h,aD,iS,_,_,rfl,ih,T.cl,T.wi,yX .., _,_,rfl,rfl,iS,_,ih,(by show 8<1000;decide),?_⟩
 rw[Cb]
 have lS:∀z∈y.aT,(∃w∈z.2,w.1=bz)→z.1=d:=fun z hz ⟨w,hw,ahG⟩=>by
  have bg:=bq.iV.a z hz w hw
  rw[ahG]at bg
  obtain⟨d',aJ,_,_,cj,_⟩:=(IX (p:=bz) bq.iV).1 _ bg
  injection aJ with aJ
  have ahY:y.isOpen d'=true:=any_eq_true.mpr ⟨z,hz,by rw[aJ];exact beq_self_eq_true d'⟩
  have iE:=cj ahY
  have aiw:x.d5 bz=some d':=by unfold av.d5 at iE ⊢;rw[uV]at iE;exact iE
  rw[aiw]at ff
  rcases ff with w | w
  ·cases w
  ·rw[aJ];exact Option.some.inj w
 have fu:=bX.dA (dx:=iS) (p:=bz) (b:=y.bound+1) hb Fg AA (H_ bX.dr.bz rE).symm l6.1 (by rw[Bg];exact l6.2.1) lS
 have iZ:ef a lo pl d7 pl H (upd (upd (upd a9 al (.lst (ys++[.ref t]))) a.bG (.bQ (putK aO (Sum.inl ((bz:Nat):Int)) (.int d)))) a.h (.ins aD iS (hf a.c a.ak a.st a.pu a.bG y.room y.begun (y.bound+1)))) :=
  ((eW.upd (zo hm ..)).upd (zl ..)).upd (q1 ..)
 generalize upd (upd (upd a9 al (.lst (ys++[.ref t]))) a.bG (.bQ (putK aO (Sum.inl ((bz:Nat):Int)) (.int d)))) a.h (.ins aD iS (hf a.c a.ak a.st a.pu a.bG y.room y.begun (y.bound+1)))=d4 at fu iZ ⊢
 obtain⟨aiC,fa⟩:=fu.bR
 refine⟨_,rfl,a.h,aiC,_,rfl,fa,(by kernel_rfl),_,rfl,_,rfl,_,rfl,a,d7,pl,y.dA d bz,_,d,bz,k,rfl,fu,w9,N9,fun ahm kW qI BJ=>?_⟩
 have aV:=q ahm pl _ kW (by rw[xx];exact qI) (pL ..) (iZ.trans BJ)
 rw[xx]at aV
 exact sO.mp aV
theorem Dq:dk ["self","dealing","page","old"] gm (bF tK):=dM
theorem Wr {a3 aD cJ cy cN cI:Addr}{gE:Addr}{hg:FuncData}{jj:Addr}{kP:FuncData}{jl:Addr}{kR:FuncData}(F:da K "drop" "House.drop" tK f fd) (B:ew ai) (ac1:ai "reversed"=none) (T:hK K ai aD) (h9:aU P w K ai base (di P w) 1 gE hg gm (wd a3 aD cJ)) (h3:Binds K hg gm []) (ha:Meth K aD "ask_dealing" gE)
  (nj:aU P w K ai base bf 3 jj kP jD (zN a3 aD)) (nf:Binds K kP jD []) (m5:Meth K aD "write_put" jj)
  (pI:aU P w K ai base (di P w) 3 jl kR gm (zx a3 aD cJ cy cN cI)) (pC:Binds K kR gm []) (mN:Meth K aD "end" jl):aU P w K ai base (di P w) 4 f fd gm (Dm a3 aD cJ cy cN cI):=by
 refine F.mO Dq (fun vs H Q hj h=>?_) (fun b4 A outer s H vs Q hj aC h=>?_)
 ·obtain⟨a,lo,pl,x,aO,n,d,rfl,_⟩:=h
  rfl
 obtain⟨a,lo,pl,x,aO,n,d,rfl,R,BA,q⟩:=h
 have A:=R.u6
 obtain⟨dx,bU⟩:=A.bR
 have a7:=gT aC
 have eE:x.refusal (.drop d)=(if x.isOpen d=false then some ("no dealing":Str) else none):=rfl
 refine⟨_,(bh (dz (gI (af 0) T.cl ha h9 (b9 aC) h3 .nil (jy fun _ _ z=>z) (aq (af 1) aK))) (bh (hA PassesOwn.leaving rfl (W5 rfl ac1 (ek a7 (eZ (af 0) rfl) (af 1) (fun _ _=>rfl))) (pU rfl (jr (fj (i:=2) Dq.bl rfl (Or.inl rfl)) (jr (fj (i:=3) Dq.bl rfl (Or.inl rfl)) pQ))) (aZ (dz (gI (af 0) T.cl m5 nj (b9 aC) nf .nil cP (aq (af 1) (aq (af 2) (aq (af 3) aK))))))) (aZ (dz (gI (af 0) T.cl mN pI (b9 aC) pC .nil (jy fun _ _ z=>z) (aq (af 1) aK)))))),?_⟩
 refine⟨_,rfl,a.h,dx,_,rfl,bU,(by kernel_rfl),_,rfl,a,lo,pl,x,aO,d,rfl,A,BA,?_⟩
 cases aH:x.isOpen d with
 | false =>
  rw[if_pos rfl]
  rw[aH,if_pos rfl]at eE
  have aP:=sv eE
  have aV:=q lo pl aO H (by rw[aP];exact A) (le_succ _) (ef.refl ..)
  rw[aP]at aV
  exact yt.mp aV
 | true =>
 rw[if_neg (fun z=>nomatch z)]
 rw[aH,if_neg (fun z=>nomatch z)]at eE
 have aP:=qP eE
 obtain⟨i,al,ys,hb,kc,mj,qA,xZ⟩:=A.dr.pR aH
 have hm:=mem_of_getElem? hb
 have rA:H al=some (.lst ys):=by rw[fE (A.aS.2.2.2.2.2 _ hm) (A.eX.2.2.2.2.2 _ hm)]at mj;exact mj
 have gg:ys.length=(x.dh d).length:=by rw[bk.length qA,length_map]
 have Fl:dn (dX pl) (Sum.inl d)=some (.ref al):=by
  have:=lJ (l:=pl) (by rw[A.dr.eK];exact A.dr.bz) hb
  rw[pO]
  rw[this]
  rfl
 have l6:=R.hs.ei (d,x.dh d) (mA aH)
 have N6:=R.dH
 have lpo:(x.dh d).length≤110:=le_trans l6.2.2.1 N6
 have listAt:∀{au:ao} {d7:Addr} {y:av},cG a3 aD au a d7 pl y aO→y.aT=x.aT→∃us,au al=some (.lst us)∧bk au ((x.dh d).map pairD) us:=fun {au d7 y} bq b7=>by
  obtain⟨w,us,fH,eU,iT,rX,_⟩:=bq.dr.at_ hb
  rw[b7,kc]at fH
  cases fH
  rw[fE (bq.aS.2.2.2.2.2 _ hm) (bq.eX.2.2.2.2.2 _ hm)]at iT
  exact⟨us,iT,bk.keep bq.DI _ _ (eG g5 _) rX⟩
 have wJ:e2 H a.pu (.int d) (some (.ref al)):=by
  have h0:=e2.k (k:=Sum.inl d) A.aI
  rw[Fl]at h0
  exact h0
 refine⟨_,rfl,a.h,aD,dx,_,_,rfl,bU,T.cl,T.pY,qX .., _,rfl,a.pu,_,rfl,wJ,al,ys,rfl,aR.of rA,VW (K:=K) (a:=al) (N:=ys.length) (fun i σ au=>∃(lo1:Addr) (bW dB:Option V),σ=[some (.ref a.h),some (.int d),bW,dB]∧cG a3 aD au a lo1 pl (x.es d ((x.dh d).reverse.take i)) aO∧ef a lo pl lo1 pl H au)
  ⟨lo,none,none,rfl,A,ef.refl ..⟩ (fun i σ au _ ⟨lo1,_,_,_,bq,_⟩=>?_) ?_ ?_⟩
 ·obtain⟨us,jJ,hS⟩:=listAt bq nr
  exact⟨us,by rw[bk.length hS,length_map,gg],aR.of jJ⟩
 ·rintro i v σ au aL Fo ⟨lo1,bW,dB,rfl,bq,fb⟩
  obtain⟨us,jJ,hS⟩:=listAt bq nr
  obtain⟨z,hz,jf⟩:=mB hS (Fo us (aR.of jJ))
  obtain⟨c,b6,ck,rfl,aj,a4,bH⟩:=er jf
  cases a4.int_inv
  cases bH.int_inv
  have ahC:=mem_of_getElem? hz
  have ahB:z.1<(x.es d ((x.dh d).reverse.take i)).aB.length:=by rw[sy];exact l6.2.2.2 z ahC
  have aie:(x.es d ((x.dh d).reverse.take i)).fits 1:=av.fits.es (R.fits (by rw[length_take,length_reverse];omega)) fun w hw=>l6.2.2.2 w (mem_reverse.mp (List.mem_of_mem_take hw))
  refine⟨c,_,rfl,aF.of aj,rfl,_,_,rfl,_,_,rfl,rfl,?_⟩
  obtain⟨iS,fX⟩:=bq.bR
  refine⟨_,rfl,a.h,iS,_,rfl,fX,(by kernel_rfl),_,rfl,_,rfl,_,rfl,a,lo1,pl,_,aO,d,z.1,z.2,rfl,bq,ahB,aie,fun ll a9 bX eW=>?_⟩
  have iE:(x.dh d).reverse.take (i+1)=(x.dh d).reverse.take i++[z]:=by
   rw[take_add_one,getElem?_reverse (by omega),←gg,hz]
   rfl
  refine⟨ll,_,_,rfl,?_,fb.trans eW⟩
  rw[iE,HC]
  exact bX
 ·rintro σ au ⟨lo1,bW,dB,rfl,bq,fb⟩
  rw[gg,←length_reverse,take_length]at bq
  have lE:x.es d (x.dh d).reverse=x.eu d:=hL.symm
  rw[lE]at bq
  obtain⟨iS,fX⟩:=bq.bR
  have rE:(x.eu d).isOpen d=true:=by
   unfold av.isOpen
   rw[hL,nr]
   exact aH
  have mU:(x.eu d).fits 1:=by
   rw[hL]
   exact av.fits.es (R.fits (by rw[length_reverse];omega)) fun w hw=>l6.2.2.2 w (mem_reverse.mp hw)
  refine⟨_,rfl,a.h,iS,_,rfl,fX,(by kernel_rfl),_,rfl,a,lo1,pl,x.eu d,aO,n,d,rfl,bq,mU,BA,?_⟩
  rw[rE,if_neg (fun z=>nomatch z)]
  intro ll a9 bX eW
  have aV:=q ll _ aO a9 (by rw[aP];exact bX) (le_succ _) (fb.trans eW)
  rw[aP]at aV
  exact sO.mp aV
def y1 (a3 aD:Addr):c3:=fun vs H Q _=>∃(h dx cp:Addr) (ps:List Int) (room:Int),vs=[.ref h,.ref cp,.int room]∧H h=some (.ins aD dx [])∧H cp=some (.lst (ps.map V.int)) ∧
 ∀(a:dZ) (lo:Addr) (ah:ao),a.h=h→cG a3 aD ah a lo [] (c_ ps room) []→(∀b,b∈a.fo lo []→b=h∨H b=none)→(∀b o,H b=some o→b≠h→ah b=some o)→Q .cE ah
def oY:b1→Prop
 | .put d p _=>c2 d∧c2 p
 | .fin d=>c2 d
 | .drop d=>c2 d
 | .look p=>c2 p
 | .carry p=>c2 p
 | _=>True
def Cx (a3 aD cJ cy cN cI:Addr):c3:=fun vs H Q E=>∃(a:dZ) (lo:Addr) (pl:List (Int × Addr)) (x:av) (aO:List (Key × V)) (n:Nat) (v:V) (e:b1),vs=[.ref a.h,v]∧Ready a3 aD H a lo pl x aO n∧Rep H e.D v∧oY e∧After a3 aD cJ cy cN cI (.str "done") a lo pl x aO H Q E e
def yM (a3 aD:Addr):c3:=fun vs H Q _=>∃(a:dZ) (lo:Addr) (pl:List (Int × Addr)) (x:av) (aO:List (Key × V)) (n:Nat) (v:V) (e:b1),vs=[.ref a.h,v]∧Ready a3 aD H a lo pl x aO n∧Rep H e.D v∧oY e ∧
 ∀lo' g8 jZ ah,cG a3 aD ah a lo' g8 (x.a_ e).1 jZ→jZ.length≤aO.length+1→ef a lo pl lo' g8 H ah→Q (x.a_ e).2.v ah
def Cq:c3:=fun vs H Q _=>∃(cp dl:Addr) (ps:List Int) (room:Int) (us:List V) (aE:List b1),vs=[.ref cp,.int room,.ref dl]∧H cp=some (.lst (ps.map V.int))∧1≤ps.length∧ps.length≤100∧H dl=some (.lst us)∧bk H (aE.map b1.D) us∧aE.length≤110∧(∀e∈aE,oY e) ∧
 ∀(r:Addr) (ah:ao),bI H ah→ah r=some (.lst (((c_ ps room).says aE).map dp.v))→Q (.ref r) ah
theorem WD (c ak st pu bG:Addr) (room:Int):dR "bound" (.int 0) (dR "takers" (.ref bG) (dR "puts" (.ref pu) (dR "begins" (.int 0) (dR "strokes" (.ref st) (dR "room" (.int room) (dR "desk" (.ref ak) (dR "cellar" (.ref c) [])))))))=hf c ak st pu bG room 0 0:=by kernel_rfl
theorem Zw:dk oR oR (bF ti):=dM
theorem VA {a3 aD mu:Addr}{nc:FuncData}(F:da K "__init__" "House.__init__" ti f fd) (B:ew ai) (T:hK K ai aD) (kV:pN K ai a3) (ali:sm K a3 mu) (pJ:aU P w K ai base bf 1 mu nc rg (CT a3)) (se:Binds K nc rg []) :
  aU P w K ai base bf 3 f fd oR (y1 a3 aD):=by
 refine F.ok Zw (fun vs H Q E h=>?_) (fun b4 A outer s H vs Q E aC h=>?_)
 ·obtain⟨h,dx,cp,ps,room,rfl,_⟩:=h
  rfl
 obtain⟨h,dx,cp,ps,room,rfl,dD,aI,q⟩:=h
 refine⟨_,(bh (mD (af 0) (C2 ali pJ aC rfl kV.Al se .nil cP (aq (af 1) (aq (fl aK) aK))) rfl) (bh (mD (af 0) (h_ nq rfl B.lst ic (aq (af 1) aK)) rfl) (bh (mD (af 0) (af 2) rfl) (bh (mD (af 0) (fl aK) rfl) (bh (mD (af 0) aW rfl) (bh (mD (af 0) vU rfl) (bh (mD (af 0) vU rfl) (aZ (mD (af 0) aW rfl))))))))),?_⟩
 refine⟨_,rfl,cS,fun eN aij=>?_⟩
 intro c GV gZ agE alT
 have s1:=bP aij (.lst [])
 have s2:bI (upd H eN (.lst [])) (upd (upd (upd H eN (.lst [])) GV (.own c)) c (.ins a3 GV [])):=fun b o e=>by
  rw[aA (cD e gZ),aA (cD e agE)]
  exact e
 refine⟨c,GV,cp,eN,ps.map V.int,[],rfl,aQ,s2 _ _ (s1 _ _ aI),s2 _ _ aQ,fun ce lo au agF Af yk eo=>⟨rfl,?_⟩⟩
 have gb:bI H au:=fun b o e=>eo b o (s2 b o (s1 b o e)) (cD (s1 b o e) gZ)
 have x_:H c=none:=s1.free gZ
 have FZ:H ce=none:=(s1.trans s2).free agF
 have EF:H lo=none:=(s1.trans s2).free Af
 obtain⟨⟨dy,bW⟩,aJ,aN,Ew⟩:=yk
 have j5:c≠h:=fun z=>by rw[z,dD]at x_;cases x_
 have D6:ce≠h:=fun z=>by rw[z,dD]at FZ;cases FZ
 have D3:lo≠h:=fun z=>by rw[z,dD]at EF;cases EF
 refine⟨_,rfl,h,aD,dx,[],rfl,gb _ _ dD,T.cl,T.sW,(by show 0<1000;decide),?_⟩
 have lY:∀b o,H b=some o→b≠h→(upd au h (.ins aD dx (dR "cellar" (.ref c) []))) b=some o:=fun b o e n=>by rw[aA n];exact gb b o e
 have qk:∀b,(upd au h (.ins aD dx (dR "cellar" (.ref c) []))) b=none→H b=none∧b≠h:=fun b e=>by
  have n:b≠h:=fun z=>by rw[z,aQ]at e;cases e
  rw[aA n]at e
  exact⟨gb.free e,n⟩
 have ct:(upd au h (.ins aD dx (dR "cellar" (.ref c) []))) h=some (.ins aD dx (dR "cellar" (.ref c) [])):=aQ
 have MB:(upd au h (.ins aD dx (dR "cellar" (.ref c) []))) c=some (.ins a3 dy (k7 ce lo)):=by rw[aA j5];exact bW
 have nV:(upd au h (.ins aD dx (dR "cellar" (.ref c) []))) ce=some (.lst (ps.map V.int)):=by rw[aA D6];exact aJ
 have rP:(upd au h (.ins aD dx (dR "cellar" (.ref c) []))) lo=some (.lst []):=by rw[aA D3];exact aN
 generalize upd au h (.ins aD dx (dR "cellar" (.ref c) []))=a9 at lY qk ct MB nV rP ⊢
 have ahV:cp≠h:=dK aI dD (fun z=>nomatch z)
 refine⟨_,rfl,cp,_,rfl,.inl (aR.of (lY _ _ aI ahV)),fun ak rJ=>?_⟩
 obtain⟨aiE,DX⟩:=qk ak rJ
 have DY:∀b o,a9 b=some o→b≠ak:=fun b o e=>cD e rJ
 refine⟨_,rfl,h,aD,dx,_,rfl,(by rw[aA DX.symm];exact ct),T.cl,T.nC,(le_of_ble_eq_true (by kernel_rfl)),?_⟩
 have w2:∀b o,a9 b=some o→b≠h→(upd (upd a9 ak (.lst (ps.map V.int))) h (.ins aD dx (dR "desk" (.ref ak) (dR "cellar" (.ref c) [])))) b=some o:=fun b o e n=>by rw[aA n,aA (DY b o e)];exact e
 have rN:∀b,(upd (upd a9 ak (.lst (ps.map V.int))) h (.ins aD dx (dR "desk" (.ref ak) (dR "cellar" (.ref c) [])))) b=none→a9 b=none∧b≠h:=fun b e=>by
  have n:b≠h:=fun z=>by rw[z,aQ]at e;cases e
  rw[aA n]at e
  have dC:b≠ak:=fun z=>by rw[z,aQ]at e;cases e
  rw[aA dC]at e
  exact⟨e,n⟩
 have dN:(upd (upd a9 ak (.lst (ps.map V.int))) h (.ins aD dx (dR "desk" (.ref ak) (dR "cellar" (.ref c) [])))) h=some (.ins aD dx (dR "desk" (.ref ak) (dR "cellar" (.ref c) []))):=aQ
 have nT:(upd (upd a9 ak (.lst (ps.map V.int))) h (.ins aD dx (dR "desk" (.ref ak) (dR "cellar" (.ref c) [])))) ak=some (.lst (ps.map V.int)):=by rw[aA DX,aQ]
 have wZ:=w2 _ _ MB j5
 have lq:=w2 _ _ nV D6
 have nU:=w2 _ _ rP D3
 have dH:ce≠ak:=DY _ _ nV
 have fL:lo≠ak:=DY _ _ rP
 have p_:∀b o,H b=some o→b≠h→_:=fun b o e n=>w2 b o (lY b o e n) n
 generalize upd (upd a9 ak (.lst (ps.map V.int))) h (.ins aD dx (dR "desk" (.ref ak) (dR "cellar" (.ref c) [])))=cO at w2 rN dN nT wZ lq nU p_ ⊢
 refine⟨_,rfl,_,rfl,h,aD,dx,_,rfl,dN,T.cl,T.Km,(le_of_ble_eq_true (by kernel_rfl)),?_⟩
 refine⟨cS,fun st ja=>?_⟩
 have q_:st≠h:=fun z=>by rw[z,aQ]at ja;cases ja
 rw[aA q_]at ja
 obtain⟨YF,_⟩:=rN st ja
 have afM:=(qk st YF).1
 refine⟨_,rfl,h,aD,dx,_,rfl,(by rw[aA q_.symm];exact aQ),T.cl,T.yV,(le_of_ble_eq_true (by kernel_rfl)),?_⟩
 refine⟨_,rfl,h,aD,dx,_,rfl,aQ,T.cl,T.C5,(le_of_ble_eq_true (by kernel_rfl)),?_⟩
 intro pu hn
 have ra:pu≠h:=fun z=>by rw[z,aQ]at hn;cases hn
 rw[aA ra,aA ra]at hn
 have La:pu≠st:=fun z=>by rw[z,aQ]at hn;cases hn
 rw[aA La,aA ra]at hn
 have af4:=(qk pu (rN pu hn).1).1
 refine⟨_,rfl,h,aD,dx,_,rfl,(by rw[aA ra.symm];exact aQ),T.cl,T.pY,(le_of_ble_eq_true (by kernel_rfl)),?_⟩
 intro bG jE
 have q8:bG≠h:=fun z=>by rw[z,aQ]at jE;cases jE
 rw[aA q8]at jE
 have DW:bG≠pu:=fun z=>by rw[z,aQ]at jE;cases jE
 rw[aA DW,aA q8,aA q8]at jE
 have K_:bG≠st:=fun z=>by rw[z,aQ]at jE;cases jE
 rw[aA K_,aA q8]at jE
 have afH:=(qk bG (rN bG jE).1).1
 refine⟨_,rfl,h,aD,dx,_,rfl,(by rw[aA q8.symm];exact aQ),T.cl,T.C4,(le_of_ble_eq_true (by kernel_rfl)),?_⟩
 refine⟨_,rfl,h,aD,dx,_,rfl,aQ,T.cl,T.wi,(le_of_ble_eq_true (by kernel_rfl)),?_⟩
 rw[WD]
 have fin:∀b o,cO b=some o→b≠h→b≠st→b≠pu→b≠bG→∀bU bW dB fR fa jM gY g_ jL:fh,(upd (upd (upd (upd (upd (upd (upd (upd (upd cO h bU) st bW) h dB) h fR) pu fa) h jM) bG gY) h g_) h jL) b=some o:=fun b o e k1 k2 k3 jP bU bW dB fR fa jM gY g_ jL=>by
  rw[aA k1,aA k1,aA jP,aA k1,aA k3,aA k1,aA k1,aA k2,aA k1]
  exact e
 have nn:∀b o,cO b=some o→b≠st∧b≠pu∧b≠bG:=fun b o e=>⟨cD e ja,cD e hn,cD e jE⟩
 refine q ⟨h,c,ce,ak,pu,st,bG⟩ lo _ rfl (cG.init (dx:=dx) (dy:=dy) aQ ?_ ?_ ?_ ?_ ?_ ?_ ?_ dH ?_ ?_ Ew.symm fL ?_ DW j5) ?_ ?_
 ·exact fin _ _ wZ j5 (nn _ _ wZ).1 (nn _ _ wZ).2.1 (nn _ _ wZ).2.2 _ _ _ _ _ _ _ _ _
 ·exact fin _ _ lq D6 (nn _ _ lq).1 (nn _ _ lq).2.1 (nn _ _ lq).2.2 _ _ _ _ _ _ _ _ _
 ·exact fin _ _ nU D3 (nn _ _ nU).1 (nn _ _ nU).2.1 (nn _ _ nU).2.2 _ _ _ _ _ _ _ _ _
 ·exact fin _ _ nT DX (nn _ _ nT).1 (nn _ _ nT).2.1 (nn _ _ nT).2.2 _ _ _ _ _ _ _ _ _
 ·rw[aA q_,aA q_,aA K_.symm,aA q_,aA La.symm,aA q_,aA q_,aQ]
 ·rw[aA ra,aA ra,aA DW.symm,aA ra,aQ]
 ·rw[aA q8,aA q8,aQ]
 ·exact (nn _ _ lq).1
 ·exact (nn _ _ nT).1
 ·exact (nn _ _ nU).1
 ·intro b aa
  have uK:b∈[lo,c,bG,h,ce,ak,pu,st]:=aa
  simp only[mem_cons,not_mem_nil,or_false]at uK
  rcases uK with z | z | z | z | z | z | z | z
  ·rw[z];exact .inr EF
  ·rw[z];exact .inr x_
  ·rw[z];exact .inr afH
  ·rw[z];exact .inl rfl
  ·rw[z];exact .inr FZ
  ·rw[z];exact .inr aiE
  ·rw[z];exact .inr af4
  ·rw[z];exact .inr afM
 ·intro b o e n
  have cj:=p_ b o e n
  exact fin b o cj n (nn _ _ cj).1 (nn _ _ cj).2.1 (nn _ _ cj).2.2 _ _ _ _ _ _ _ _ _
theorem Vm (x:av) (d p k:Int):∃w,(x.a_ (.put d p k)).2=.word w:=by
 rcases Hs x (.put d p k) with ⟨i,h⟩ | h | h | h | h | h
 ·exfalso
  unfold av.a_ at h
  cases e:x.refusal (.put d p k) with
  | some w=>rw[e]at h;cases h
  | none =>
   rw[e]at h
   have h':(if (x.full 2).2=true then ((x.full 2).1,dp.word "no room") else ((((x.full 2).1.dA d p.toNat).putIn d p.toNat k),.word "done")).2=.num i:=h
   split at h' <;> cases h'
 all_goals exact⟨_,h⟩
theorem U3 (x:av) (d:Int):∃w,(x.a_ (.drop d)).2=.word w:=by
 unfold av.a_
 cases x.refusal (.drop d) with
 | some w=>exact⟨w,rfl⟩
 | none=>exact⟨_,rfl⟩
theorem Zy:dk gK gK (bF sU):=dM
theorem X4 {a3 aD cJ cy cN cI:Addr}{vg:Addr}{x9:FuncData}{oc:Addr}{dL:FuncData}{hc:Addr}{h2:FuncData}{jl:Addr}{kR:FuncData}{gE:Addr}{hg:FuncData}{jm:Addr}{kS:FuncData}{jk:Addr}{kQ:FuncData}(F:da K "do_deed" "do_deed" sU f fd) (T:hK K ai aD) (BY:aU P w K ai base (di P w) 6 vg x9 hO (CU a3 aD cJ cy cN cI)) (BS:Binds K x9 hO []) (BI:Meth K aD "begin" vg)
  (sr:aU P w K ai base (di P w) 2 oc dL gf (Di a3 aD cJ cy cN cI)) (sd:Binds K dL gf []) (r3:Meth K aD "look" oc)
  (lH:aU P w K ai base (di P w) 6 hc h2 jD (DC a3 aD cJ cy cN cI)) (lF:Binds K h2 jD []) (jN:Meth K aD "put" hc)
  (pI:aU P w K ai base (di P w) 3 jl kR gm (zx a3 aD cJ cy cN cI)) (pC:Binds K kR gm []) (mN:Meth K aD "end" jl)
  (h9:aU P w K ai base (di P w) 4 gE hg gm (Dm a3 aD cJ cy cN cI)) (h3:Binds K hg gm []) (ha:Meth K aD "drop" gE)
  (pK:aU P w K ai base (di P w) 3 jm kS gf (y3 a3 aD cy)) (pD:Binds K kS gf []) (pg:Meth K aD "carry" jm)
  (ow:aU P w K ai base bf 3 jk kQ hO (zy a3 aD)) (oo:Binds K kQ hO []) (n9:Meth K aD "cut" jk):aU P w K ai base (di P w) 7 f fd gK (Cx a3 aD cJ cy cN cI):=by
 refine F.mO Zy (fun vs H Q hj h=>?_) (fun b4 A outer s H vs Q hj aC h=>?_)
 ·obtain⟨a,lo,pl,x,aO,n,v,e,rfl,_⟩:=h
  rfl
 obtain⟨a,lo,pl,x,aO,n,v,e,rfl,R,bp,a5,q⟩:=h
 have A:=R.u6
 obtain⟨dx,bU⟩:=A.bR
 refine⟨_,(bh (b_ (cn dv (bA bZ (af 1) aW (fun _ _=>rfl)) bw (bY _)) (aZ (cF (yS (af 0) T.cl BI BY (b9 aC) BS .nil (jy fun _ _ z=>z)))) cZ) (bh (b_ (cn dv (bA bZ (af 1) aW (fun _ _=>rfl)) bw (bY _)) (aZ (cF (gI (af 0) T.cl r3 sr (b9 aC) sd .nil (jy fun _ _ z=>z) (aq (bA bZ (af 1) aW (fun _ _=>rfl)) aK)))) cZ) (bh (b_ (cn dv (bA bZ (af 1) aW (fun _ _=>rfl)) bw (bY _)) (aZ (dz (gI (af 0) T.cl jN lH (b9 aC) lF .nil (jy fun _ _ z=>z) (aq (bA bZ (af 1) aW (fun _ _=>rfl)) (aq (bA bZ (af 1) aW (fun _ _=>rfl)) (aq (bA bZ (af 1) aW (fun _ _=>rfl)) aK)))))) (aZ (b_ (cn dv (bA bZ (af 1) aW (fun _ _=>rfl)) bw (bY _)) (aZ (dz (gI (af 0) T.cl mN pI (b9 aC) pC .nil (jy fun _ _ z=>z) (aq (bA bZ (af 1) aW (fun _ _=>rfl)) aK)))) (aZ (b_ (cn dv (bA bZ (af 1) aW (fun _ _=>rfl)) bw (bY _)) (aZ (dz (gI (af 0) T.cl ha h9 (b9 aC) h3 .nil (jy fun _ _ z=>z) (aq (bA bZ (af 1) aW (fun _ _=>rfl)) aK)))) (aZ (b_ (cn dv (bA bZ (af 1) aW (fun _ _=>rfl)) bw (bY _)) (aZ (dz (gI (af 0) T.cl pg pK (b9 aC) pD .nil (jy fun _ _ z=>z) (aq (bA bZ (af 1) aW (fun _ _=>rfl)) aK)))) (aZ (b_ (cn dv (bA bZ (af 1) aW (fun _ _=>rfl)) bw (bY _)) (aZ (dz (yS (af 0) T.cl n9 ow (b9 aC) oo .nil cP))) cZ))))))))) (aZ (cF bw))))),?_⟩
 cases e with
 | begin =>
  obtain⟨c,b6,rfl,aj,a4⟩:=kZ bp
  cases a4.str_inv
  refine⟨_,rfl,c,_,_,_,rfl,rfl,aF.of aj,rfl,rfl,_,rfl,dS rfl ?_⟩
  refine⟨_,rfl,a.h,dx,_,rfl,bU,(by kernel_rfl),a,lo,pl,x,aO,n,rfl,R,fun lo' g8 jZ ah ko l m=>?_⟩
  have h:=q lo' g8 jZ ah ko l m
  have aP:(x.a_ .begin).2=if (x.began.full 1).2=true then dp.word "no room" else .num x.begun:=by
   show (if (x.began.full 1).2=true then ((x.began.full 1).1,dp.word "no room") else ((x.began.full 1).1.opened,.num x.begun)).2=_
   split <;> rfl
  rw[aP]at h ⊢
  split at h
  ·rename_i z
   rw[if_pos z]
   exact vV.mpr (vV.mp h)
  ·rename_i z
   rw[if_neg z]
   exact h
 | look p =>
  obtain⟨c,b6,ck,rfl,aj,a4,bH⟩:=er bp
  cases a4.str_inv
  cases bH.int_inv
  refine⟨_,rfl,c,_,_,_,rfl,rfl,aF.of aj,rfl,rfl,_,rfl,bx (by decide +kernel) ?_⟩
  refine⟨_,rfl,c,_,_,_,rfl,rfl,aF.of aj,rfl,rfl,_,rfl,dS rfl ?_⟩
  refine⟨_,rfl,a.h,dx,_,rfl,bU,(by kernel_rfl),_,rfl,c,_,_,_,rfl,rfl,aF.of aj,rfl,a,lo,pl,x,aO,n,p,rfl,R,a5,fun lo' g8 jZ ah ko l m=>?_⟩
  have h:=q lo' g8 jZ ah ko l m
  by_cases sa:p<0∨(x.aB.length:Int)≤p
  ·have aP:=sv (e:=.look p) (w:="no page") (if_pos sa)
   rw[aP]at h ⊢
   exact sN.mpr (sN.mp h)
  ·have aP:=qP (x:=x) (e:=.look p) (if_neg sa)
   rw[aP]at h ⊢
   exact h
 | put d p k =>
  obtain⟨c,b6,ck,j8,qs,rfl,aj,a4,bH,hq,jK⟩:=qS bp
  cases a4.str_inv
  cases bH.int_inv
  cases hq.int_inv
  cases jK.int_inv
  refine⟨_,rfl,c,_,_,_,rfl,rfl,aF.of aj,rfl,rfl,_,rfl,bx (by decide +kernel) ?_⟩
  refine⟨_,rfl,c,_,_,_,rfl,rfl,aF.of aj,rfl,rfl,_,rfl,bx (by decide +kernel) ?_⟩
  refine⟨_,rfl,c,_,_,_,rfl,rfl,aF.of aj,rfl,rfl,_,rfl,dS rfl ?_⟩
  refine⟨_,rfl,a.h,dx,_,rfl,bU,(by kernel_rfl),_,rfl,c,_,_,_,rfl,rfl,aF.of aj,rfl,_,rfl,c,_,_,_,rfl,rfl,aF.of aj,rfl,_,rfl,c,_,_,_,rfl,rfl,aF.of aj,rfl,a,lo,pl,x,aO,n,d,p,k,rfl,R,a5.1,a5.2,fun lo' g8 jZ ah ko l m=>?_⟩
  have h:=q lo' g8 jZ ah ko l m
  obtain⟨w,hw⟩:=Vm x d p k
  rw[hw]at h ⊢
  exact h
 | fin d =>
  obtain⟨c,b6,ck,rfl,aj,a4,bH⟩:=er bp
  cases a4.str_inv
  cases bH.int_inv
  refine⟨_,rfl,c,_,_,_,rfl,rfl,aF.of aj,rfl,rfl,_,rfl,bx (by decide +kernel) ?_⟩
  refine⟨_,rfl,c,_,_,_,rfl,rfl,aF.of aj,rfl,rfl,_,rfl,bx (by decide +kernel) ?_⟩
  refine⟨_,rfl,c,_,_,_,rfl,rfl,aF.of aj,rfl,rfl,_,rfl,bx (by decide +kernel) ?_⟩
  refine⟨_,rfl,c,_,_,_,rfl,rfl,aF.of aj,rfl,rfl,_,rfl,dS rfl ?_⟩
  refine⟨_,rfl,a.h,dx,_,rfl,bU,(by kernel_rfl),_,rfl,c,_,_,_,rfl,rfl,aF.of aj,rfl,a,lo,pl,x,aO,n,d,rfl,A,R.fits (by decide),a5,?_⟩
  have eE:x.refusal (.fin d)=(if x.isOpen d=false then some ("no dealing":Str) else none):=rfl
  cases aH:x.isOpen d with
  | false =>
   rw[if_pos rfl]
   rw[aH,if_pos rfl]at eE
   have aP:=sv eE
   have h:=q lo pl aO H (by rw[aP];exact A) (le_succ _) (ef.refl ..)
   rw[aP]at h
   exact yt.mp h
  | true =>
   rw[if_neg (fun z=>nomatch z)]
   rw[aH,if_neg (fun z=>nomatch z)]at eE
   have aP:=qP eE
   intro lo' ah ko m
   have h:=q lo' _ aO ah (by rw[aP];exact ko) (le_succ _) m
   rw[aP]at h
   exact sO.mp h
 | drop d =>
  obtain⟨c,b6,ck,rfl,aj,a4,bH⟩:=er bp
  cases a4.str_inv
  cases bH.int_inv
  refine⟨_,rfl,c,_,_,_,rfl,rfl,aF.of aj,rfl,rfl,_,rfl,bx (by decide +kernel) ?_⟩
  refine⟨_,rfl,c,_,_,_,rfl,rfl,aF.of aj,rfl,rfl,_,rfl,bx (by decide +kernel) ?_⟩
  refine⟨_,rfl,c,_,_,_,rfl,rfl,aF.of aj,rfl,rfl,_,rfl,bx (by decide +kernel) ?_⟩
  refine⟨_,rfl,c,_,_,_,rfl,rfl,aF.of aj,rfl,rfl,_,rfl,bx (by decide +kernel) ?_⟩
  refine⟨_,rfl,c,_,_,_,rfl,rfl,aF.of aj,rfl,rfl,_,rfl,dS rfl ?_⟩
  refine⟨_,rfl,a.h,dx,_,rfl,bU,(by kernel_rfl),_,rfl,c,_,_,_,rfl,rfl,aF.of aj,rfl,a,lo,pl,x,aO,n,d,rfl,R,a5,fun lo' g8 jZ ah ko l m=>?_⟩
  have h:=q lo' g8 jZ ah ko l m
  obtain⟨w,hw⟩:=U3 x d
  rw[hw]at h ⊢
  exact h
 | carry p =>
  obtain⟨c,b6,ck,rfl,aj,a4,bH⟩:=er bp
  cases a4.str_inv
  cases bH.int_inv
  refine⟨_,rfl,c,_,_,_,rfl,rfl,aF.of aj,rfl,rfl,_,rfl,bx (by decide +kernel) ?_⟩
  refine⟨_,rfl,c,_,_,_,rfl,rfl,aF.of aj,rfl,rfl,_,rfl,bx (by decide +kernel) ?_⟩
  refine⟨_,rfl,c,_,_,_,rfl,rfl,aF.of aj,rfl,rfl,_,rfl,bx (by decide +kernel) ?_⟩
  refine⟨_,rfl,c,_,_,_,rfl,rfl,aF.of aj,rfl,rfl,_,rfl,bx (by decide +kernel) ?_⟩
  refine⟨_,rfl,c,_,_,_,rfl,rfl,aF.of aj,rfl,rfl,_,rfl,bx (by decide +kernel) ?_⟩
  refine⟨_,rfl,c,_,_,_,rfl,rfl,aF.of aj,rfl,rfl,_,rfl,dS rfl ?_⟩
  refine⟨_,rfl,a.h,dx,_,rfl,bU,(by kernel_rfl),_,rfl,c,_,_,_,rfl,rfl,aF.of aj,rfl,a,lo,pl,x,aO,p,rfl,A,a5,R.fits (by decide),?_⟩
  by_cases sa:p<0∨(x.aB.length:Int)≤p
  ·rw[if_pos sa]
   have aP:=sv (x:=x) (e:=.carry p) (w:="no page") (if_pos sa)
   have h:=q lo pl aO H (by rw[aP];exact A) (le_succ _) (ef.refl ..)
   rw[aP]at h
   exact sN.mp h
  ·rw[if_neg sa]
   have aP:=qP (x:=x) (e:=.carry p) (if_neg sa)
   intro lo' ah ko m
   have h:=q lo' pl aO ah (by rw[aP];exact ko) (le_succ _) m
   rw[aP]at h
   exact sO.mp h
 | cut =>
  obtain⟨c,b6,rfl,aj,a4⟩:=kZ bp
  cases a4.str_inv
  refine⟨_,rfl,c,_,_,_,rfl,rfl,aF.of aj,rfl,rfl,_,rfl,bx (by decide +kernel) ?_⟩
  refine⟨_,rfl,c,_,_,_,rfl,rfl,aF.of aj,rfl,rfl,_,rfl,bx (by decide +kernel) ?_⟩
  refine⟨_,rfl,c,_,_,_,rfl,rfl,aF.of aj,rfl,rfl,_,rfl,bx (by decide +kernel) ?_⟩
  refine⟨_,rfl,c,_,_,_,rfl,rfl,aF.of aj,rfl,rfl,_,rfl,bx (by decide +kernel) ?_⟩
  refine⟨_,rfl,c,_,_,_,rfl,rfl,aF.of aj,rfl,rfl,_,rfl,bx (by decide +kernel) ?_⟩
  refine⟨_,rfl,c,_,_,_,rfl,rfl,aF.of aj,rfl,rfl,_,rfl,bx (by decide +kernel) ?_⟩
  refine⟨_,rfl,c,_,_,_,rfl,rfl,aF.of aj,rfl,rfl,_,rfl,dS rfl ?_⟩
  refine⟨_,rfl,a.h,dx,_,rfl,bU,(by kernel_rfl),a,lo,pl,x,aO,rfl,A,R.fits (by decide),R.Aa,fun lo' ah ko m=>?_⟩
  have aP:=qP (x:=x) (e:=.cut) rfl
  have h:=q lo' pl aO ah (by rw[aP];exact ko) (le_succ _) m
  rw[aP]at h
  exact sO.mp h
structure wO (K:PySem.W.Frag) (ai:Str→Option Value) (cJ cy cN cI:Addr):Prop extends rU K ai cJ cy cN cI where
 mt:∀p∈[cJ,cy,cN,cI],∀q∈[cJ,cy,cN,cI],exmOne K (.ref p) (.ref q)=some (p == q)
 bl:[cJ,cy,cN,cI].Nodup
theorem U1 {K:PySem.W.Frag}{ai:Str→Option Value}{cJ cy cN cI:Addr}(X:wO K ai cJ cy cN cI):∀p∈([(cJ,"no dealing"),(cy,"no page"),(cN,"taken"),(cI,"no room")]:List (Addr × Str)),∀q∈([(cJ,"no dealing"),(cy,"no page"),(cN,"taken"),(cI,"no room")]:List (Addr × Str)),exmOne K (.ref p.1) (.ref q.1)=some (p.1 == q.1):=fun p aI q bN=>by
 refine X.mt p.1 ?_ q.1 ?_
 ·have:=List.mem_map_of_mem (f:=(·.1)) aI
  exact this
 ·have:=List.mem_map_of_mem (f:=(·.1)) bN
  exact this
theorem VX {K:PySem.W.Frag}{ai:Str→Option Value}{cJ cy cN cI:Addr}(X:wO K ai cJ cy cN cI) {Q:cC}:∀(c:Value) (H:ao),((c=.ref cJ∧Q (.str "no dealing") H)∨(c=.ref cy∧Q (.str "no page") H)∨(c=.ref cN∧Q (.str "taken") H)∨(c=.ref cI∧Q (.str "no room") H)) →
  ∃C r,c=.ref C∧([(cJ,"no dealing"),(cy,"no page"),(cN,"taken"),(cI,"no room")]:List (Addr × Str)).lookup C=some r∧Q (.str r) H:=fun c H h=>by
 have bl:=X.bl
 simp only[nodup_cons,mem_cons,not_mem_nil,or_false,not_or,not_false_eq_true,nodup_nil,and_true]at bl
 obtain⟨⟨a1,a2,kU⟩,⟨e7,fO⟩,cL⟩:=bl
 have vo:∀{x y:Addr},¬x=y→(y == x)=false:=fun h=>by simpa using fun z=>h z.symm
 rcases h with ⟨rfl,h⟩ | ⟨rfl,h⟩ | ⟨rfl,h⟩ | ⟨rfl,h⟩
 ·exact⟨cJ,_,rfl,by rw[lookup_cons,beq_self_eq_true],h⟩
 ·exact⟨cy,_,rfl,by rw[lookup_cons,vo a1,lookup_cons,beq_self_eq_true],h⟩
 ·exact⟨cN,_,rfl,by rw[lookup_cons,vo a2,lookup_cons,vo e7,lookup_cons,beq_self_eq_true],h⟩
 ·exact⟨cI,_,rfl,by rw[lookup_cons,vo kU,lookup_cons,vo fO,lookup_cons,vo cL,lookup_cons,beq_self_eq_true],h⟩
theorem WV:dk gK gK (bF qV):=dM
theorem UJ {a3 aD cJ cy cN cI:Addr}{gE:Addr}{hg:FuncData}(F:da K "answer" "answer" qV f fd) (X:wO K ai cJ cy cN cI) (h9:aU P w K ai base (di P w) 7 gE hg gK (Cx a3 aD cJ cy cN cI)) (h3:Binds K hg gK []) (ob:keepIn K (.ref gE)=true) (ha:ai "do_deed"=some (.ref gE)):aU P w K ai base bf 8 f fd gK (yM a3 aD):=by
 refine F.ok WV (fun vs H Q E h=>?_) (fun b4 A outer s H vs Q E aC h=>?_)
 ·obtain⟨a,lo,pl,x,aO,n,v,e,rfl,_⟩:=h
  rfl
 obtain⟨a,lo,pl,x,aO,n,v,e,rfl,R,bp,a5,q⟩:=h
 refine⟨_,(aZ (W4 (Q:=Q) (cs:=[(cJ,"no dealing"),(cy,"no page"),(cN,"taken"),(cI,"no room")]) (e0:=(fG bf P w K ai base gK "answer" (bF qV) f b4 A outer s H E).env) (outer:=outer) rfl rfl rfl (.cons X.ha rfl (by decide) (.cons X.jN rfl (by decide) (.cons X.BG rfl (by decide) (.cons X.n_ rfl (by decide) .nil)))) (U1 X)
   (fun pp=>aZ (cF (dt h9 (b9 aC) rfl ha ob h3 .nil (XY (E:=fun c _ H=>(c=.ref cJ∧Q (.str "no dealing") H)∨(c=.ref cy∧Q (.str "no page") H)∨(c=.ref cN∧Q (.str "taken") H)∨(c=.ref cI∧Q (.str "no room") H)) rfl rfl rfl (VX X)) (aq (af 0) (aq (af 1) aK))))))),?_⟩
 refine⟨fun v H h=>h,?_⟩
 refine⟨_,rfl,_,rfl,a,lo,pl,x,aO,n,v,e,rfl,R,bp,a5,fun lo' g8 jZ ah ko l m=>?_⟩
 have h:=q lo' g8 jZ ah ko l m
 rcases Hs x e with ⟨i,hw⟩ | hw | hw | hw | hw | hw
 ·rw[hw]at h ⊢;exact h
 ·rw[hw]at h ⊢;exact sO.mpr h
 ·rw[hw]at h ⊢;exact yt.mpr (.inl ⟨rfl,h⟩)
 ·rw[hw]at h ⊢;exact sN.mpr (.inr (.inl ⟨rfl,h⟩))
 ·rw[hw]at h ⊢;exact Iv.mpr (.inr (.inr (.inl ⟨rfl,h⟩)))
 ·rw[hw]at h ⊢;exact vV.mpr (.inr (.inr (.inr ⟨rfl,h⟩)))
theorem _root_.L2.cG.some {a3 aD:Addr}{H:ao}{a:dZ}{lo:Addr}{pl:List (Int × Addr)}{x:av}{aO:List (Key × V)}(A:cG a3 aD H a lo pl x aO) {b:Addr}(aa:b∈a.fo lo pl):H b≠none:=by
 obtain⟨dx,bU⟩:=A.bR
 obtain⟨dy,bW⟩:=A.co
 obtain⟨xs,aJ,_⟩:=A.az
 intro aS
 rcases mem_cons.mp aa with z | aa
 ·rw[z,aJ]at aS;cases aS
 ·rcases mem_cons.mp aa with z | aa
  ·rw[z,bW]at aS;cases aS
  ·rcases mem_cons.mp aa with z | aa
   ·rw[z,A.kt]at aS;cases aS
   ·have dH:b≠a.h:=fun z=>by rw[z,bU]at aS;cases aS
    have dC:b≠a.c:=fun z=>by rw[z,bW]at aS;cases aS
    exact A.dr.there (by rw[fE dH dC];exact aS) aa
theorem Cv:∀(l:List b1) (x:av),(x.run l).begun≤x.begun+l.length
 | [],_=>le_refl _
 | e::r,x=>by
  have ay:=Cv r (x.a_ e).1
  have aG:=Tj x e
  show ((x.a_ e).1.run r).begun≤x.begun+(r.length+1)
  omega
theorem JU:dk ["pages","room","deeds","house"] lV (bF sM):=dM
theorem T_ {a3 aD mu:Addr}{nc:FuncData}{m9:Addr}{qD:FuncData}(F:da K "answers" "answers" sM f fd) (T:hK K ai aD) (G9:sm K aD mu) (pJ:aU P w K ai base bf 3 mu nc oR (y1 a3 aD)) (se:Binds K nc oR [])
  (vA:aU P w K ai base bf 8 m9 qD gK (yM a3 aD)) (vq:Binds K qD gK []) (vd:keepIn K (.ref m9)=true) (d1:ai "answer"=some (.ref m9)):aU P w K ai base bf 9 f fd lV Cq:=by
 refine F.ok JU (fun vs H Q E h=>?_) (fun b4 A outer s H vs Q E aC h=>?_)
 ·obtain⟨cp,dl,ps,room,us,aE,rfl,_⟩:=h
  rfl
 obtain⟨cp,dl,ps,room,us,aE,rfl,aI,dE,dU,qi,qb,afE,gp,q⟩:=h
 have nL:us.length=aE.length:=by rw[bk.length qb,length_map]
 refine⟨_,(bh (dm (i:=3) JU.bl rfl (Or.inr rfl) (C2 G9 pJ (b9 aC) rfl T.Al se .nil cP (aq (af 0) (aq (af 1) aK)))) (aZ (cF (y9 [3] ["deed","house"] (k8.one (fv:="house") (j:=3) rfl (by decide +kernel) (by decide +kernel) rfl (by decide +kernel) rfl rfl (by decide +kernel) rfl rfl rfl) rfl (ks (af 2)) (fun C s1 H1 b5=>(dt vA (b9 aC) rfl d1 vd vq .nil cP (aq (af 1) (aq (af 0) aK)))))))),?_⟩
 refine⟨_,rfl,_,rfl,?_⟩
 intro h dx iY Ex agD
 have nh:bI H (upd (upd H dx (.own h)) h (.ins aD dx [])):=fun b o e=>by
  rw[aA (cD e iY),aA (cD e Ex)]
  exact e
 refine⟨h,dx,cp,ps,room,rfl,aQ,nh _ _ aI,fun a lo H1 aX bJ ro eo=>⟨rfl,?_⟩⟩
 subst aX
 have ng:bI H H1:=fun b o e=>eo b o (nh b o e) (cD e iY)
 have D4:∀b,b∈a.fo lo []→H b=none:=fun b aa=>by
  rcases ro b aa with z | z
  ·rw[z];exact iY
  ·exact nh.free z
 refine⟨_,rfl,dl,rfl,⟨us,aR.of (ng _ _ qi)⟩,fun acc e1=>Jg (K:=K) (xs:=us) (fun i ys au=>∃lo pl aO,cG a3 aD au a lo pl ((c_ ps room).run (aE.take i)) aO∧aO.length≤i∧bI H au∧(∀b,b∈a.fo lo pl→H b=none∧b≠acc)∧au acc=some (.lst ys)∧ys=((c_ ps room).says (aE.take i)).map dp.v∧i≤aE.length)
  (by omega) ?_ ?_ ?_ ?_⟩
 ·have s2:=bP e1 (.lst [])
  exact⟨lo,[],[],bJ.same s2,le_refl _,ng.trans s2,fun b aa=>⟨D4 b aa,fun z=>bJ.some aa (by rw[z];exact e1)⟩,aQ,rfl,zero_le _⟩
 ·rintro i ys au ⟨d7,rx,El,bq,en,gb,o3,aN,eB,aL⟩
  refine⟨gb _ _ qi,?_⟩
  rw[eB,length_map,B9,length_take]
  omega
 ·rintro i v ys au k aL br ⟨d7,rx,El,bq,en,gb,o3,aN,eB,_⟩ a8
  obtain⟨e,he,re⟩:=mB qb br
  have FA:=mem_of_getElem? he
  have a6:aE.take (i+1)=aE.take i++[e]:=by rw[take_add_one,he];rfl
  have lt:(aE.take i).length=i:=by rw[length_take];omega
  have hs:=(yW (room:=room) dE dU).run (aE.take i) (by omega)
  rw[lt,zero_add]at hs
  have nd:((c_ ps room).run (aE.take i)).begun≤900:=by
   have ay:=Cv (aE.take i) (c_ ps room)
   have aG:(c_ ps room).begun=0:=rfl
   omega
  refine⟨_,rfl,_,rfl,a,d7,rx,_,El,i,v,e,rfl,⟨bq,hs,by omega,by omega,nd⟩,Rep.mono gb _ _ re,gp e FA,fun ll rv z0 a9 bX qy eW=>?_⟩
  have DZ:acc∉a.fo d7 rx:=fun z=>(o3 acc z).2 rfl
  have b2:=eW.dQ acc _ DZ aN
  have gw:bI H a9:=fun b o e=>eW.dQ b o (fun z=>by rw[(o3 b z).1]at e;cases e) (gb b o e)
  have o2:∀b,b∈a.fo ll rv→H b=none∧b≠acc:=fun b aa=>by
   rcases eW.new b aa with z | z
   ·exact o3 b z
   ·exact⟨gb.free z,fun y=>by rw[y,aN]at z;cases z⟩
  have zX:H acc=none:=ng.free e1
  have Et:acc∉a.fo ll rv:=fun z=>(o2 acc z).2 rfl
  refine a8 _ a9 b2 ⟨ll,rv,z0,?_,by omega,gw.kr zX,o2,aQ,?_,by omega⟩
  ·rw[a6,yO]
   exact bX.IK Et b2
  ·rw[a6,Ik,map_append,eB]
   rfl
 ·rintro ys au ⟨d7,rx,El,bq,en,gb,o3,aN,eB,_⟩
  rw[nL,take_length]at eB
  refine q acc au gb ?_
  rw[aN,eB]
def CR:c3:=fun vs H Q _=>∃(cl:Addr) (cs:List Int) (c:Int),vs=[.ref cl,.int c]∧H cl=some (.lst (cs.map V.int))∧cs.length≤63∧1≤c∧c≤40 ∧
 ∀(r:Addr) (us:List V) (aE:List b1) (ah:ao),bI H ah→ah r=some (.lst us)→bk ah (aE.map b1.D) us→aE.length≤63→(∀e∈aE,oY e)→Q (.ref r) ah
def bd (i:Int):Prop := -(10000000000000000000000000000000000000000:Int)≤i∧i≤10000000000000000000000000000000000000000
theorem bd.c2 {i:Int}(h:bd i):c2 i:=by
 obtain⟨ay,aG⟩:=h
 refine Ii (lt_of_le_of_lt (m:=10 ^ 40) (by have e:(10:Nat) ^ 40=10000000000000000000000000000000000000000:=(by decide);rw[e];omega) ?_)
 exact lt_of_lt_of_le (by decide:10 ^ 40<2 ^ 200) (Nat.pow_le_pow_right (by decide) (by decide))
theorem OD:(10:Int) ^ (30:Int).toNat=1000000000000000000000000000000:=by decide +kernel
def wz:List Str:=["begin","put","end","drop","look","carry","cut"]
def zK:List Str:=["begin","put","put","put","end","put","carry","put","drop","look","put","cut","end","put","begin","carry"]
theorem IT:∀w∈zK,w∈wz:=by decide +kernel
def sZ (s:Stmt):List Stmt:=match s with
 | .For _ _ b _ _=>b
 | _=>[]
structure gH (cW H:ao) (cM cu cK bT:Addr) (us:List V) (aE:List b1) (os vs:List Int) (b:Int) (k:Nat):Prop where
 c2:bI cW H
 hw:H cM=some (.lst (zK.map V.str))
 aX:H cu=some (.lst us)
 jh:bk H (aE.map b1.D) us
 kN:aE.length=k
 pa:∀e∈aE,oY e
 aH:H cK=some (.lst (os.map V.int))
 lo:os.length≤k
 r0:∀o∈os,bd o
 br:H bT=some (.lst (vs.map V.int))
 lv:vs.length≤k
 m2:∀o∈vs,bd o
 jT:0≤b
 e7:b≤k
 e5:cW cu=none
 fT:cW cK=none
 fv:cW bT=none
 dH:cM≠cu
 dC:cM≠cK
 ej:cM≠bT
 e4:cu≠cK
 fL:cu≠bT
 f6:cK≠bT
section
variable {cW H ah:ao}{cM cu cK bT:Addr}{us:List V}{aE:List b1}{os vs:List Int}{b:Int}{k:Nat}
theorem gH.same (D:gH cW H cM cu cK bT us aE os vs b k) (s:bI H ah):gH cW ah cM cu cK bT us aE os vs b k :=
 ⟨D.c2.trans s,s _ _ D.hw,s _ _ D.aX,bk.mono s _ _ D.jh,D.kN,D.pa,s _ _ D.aH,D.lo,D.r0,s _ _ D.br,D.lv,D.m2,D.jT,D.e7,D.e5,D.fT,D.fv,D.dH,D.dC,D.ej,D.e4,D.fL,D.f6⟩
theorem gH.ask (D:gH cW H cM cu cK bT us aE os vs b k) {e:b1}{v:V}(br:Rep H e.D v) (a5:oY e):gH cW (upd H cu (.lst (us++[v]))) cM cu cK bT (us++[v]) (aE++[e]) os vs b (k+1):=by
 have kt:el H (upd H cu (.lst (us++[v]))):=fun c ys q=>by
  rw[aA (dK q D.aX (fun z=>nomatch z))]
  exact q
 have fN:=D.lo
 have hY:=D.lv
 have qy:=D.e7
 refine⟨D.c2.kr D.e5,by rw[aA D.dH];exact D.hw,aQ,?_,by rw[length_append,D.kN];rfl,fun cV he=>?_,by rw[aA D.e4.symm];exact D.aH,by omega,D.r0,by rw[aA D.fL.symm];exact D.br,by omega,D.m2,D.jT,by omega,D.e5,D.fT,D.fv,D.dH,D.dC,D.ej,D.e4,D.fL,D.f6⟩
 ·rw[map_append]
  exact (bk.keep kt _ _ (eG b1.gA _) D.jh).append (.cons (Rep.keep kt _ _ (b1.gA _) br) .nil)
 ·rcases mem_append.mp he with z | z
  ·exact D.pa cV z
  ·rw[mem_singleton.mp z];exact a5
theorem gH.Zr (D:gH cW H cM cu cK bT us aE os vs b k) {os':List Int}(az:os'.length≤k) (a5:∀o∈os',bd o):gH cW (upd H cK (.lst (os'.map V.int))) cM cu cK bT us aE os' vs b k:=by
 have kt:el H (upd H cK (.lst (os'.map V.int))):=fun c ys q=>by
  rw[aA (dK q D.aH (fun z=>nomatch z))]
  exact q
 exact⟨D.c2.kr D.fT,by rw[aA D.dC];exact D.hw,by rw[aA D.e4];exact D.aX,bk.keep kt _ _ (eG b1.gA _) D.jh,D.kN,D.pa,aQ,az,a5,by rw[aA D.f6.symm];exact D.br,D.lv,D.m2,D.jT,D.e7,D.e5,D.fT,D.fv,D.dH,D.dC,D.ej,D.e4,D.fL,D.f6⟩
theorem gH.KR (D:gH cW H cM cu cK bT us aE os vs b k) {vs':List Int}(az:vs'.length≤k) (a5:∀o∈vs',bd o):gH cW (upd H bT (.lst (vs'.map V.int))) cM cu cK bT us aE os vs' b k:=by
 have kt:el H (upd H bT (.lst (vs'.map V.int))):=fun c ys q=>by
  rw[aA (dK q D.br (fun z=>nomatch z))]
  exact q
 exact⟨D.c2.kr D.fv,by rw[aA D.ej];exact D.hw,by rw[aA D.fL];exact D.aX,bk.keep kt _ _ (eG b1.gA _) D.jh,D.kN,D.pa,by rw[aA D.f6];exact D.aH,D.lo,D.r0,aQ,az,a5,D.jT,D.e7,D.e5,D.fT,D.fv,D.dH,D.dC,D.ej,D.e4,D.fL,D.f6⟩
theorem gH.ab6 (D:gH cW H cM cu cK bT us aE os vs b k) {n:Addr}{os':List Int}(aS:H n=none) (az:os'.length≤k) (a5:∀o∈os',bd o):gH cW (upd H n (.lst (os'.map V.int))) cM cu n bT us aE os' vs b k:=by
 have s:=bP aS (.lst (os'.map V.int))
 have nw:cM≠n:=cD D.hw aS
 have na:cu≠n:=cD D.aX aS
 have pe:bT≠n:=cD D.br aS
 exact⟨D.c2.trans s,s _ _ D.hw,s _ _ D.aX,bk.mono s _ _ D.jh,D.kN,D.pa,aQ,az,a5,s _ _ D.br,D.lv,D.m2,D.jT,D.e7,D.e5,D.c2.free aS,D.fv,D.dH,nw,D.ej,na,D.fL,pe.symm⟩
theorem gH.begun (D:gH cW H cM cu cK bT us aE os vs b (k+1)) (h:b+1≤((k+1:Nat):Int)):gH cW H cM cu cK bT us aE os vs (b+1) (k+1) :=
 ⟨D.c2,D.hw,D.aX,D.jh,D.kN,D.pa,D.aH,D.lo,D.r0,D.br,D.lv,D.m2,by have:=D.jT;omega,h,D.e5,D.fT,D.fv,D.dH,D.dC,D.ej,D.e4,D.fL,D.f6⟩
end
def su (cW:ao) (cl:Addr) (c:Int) (cM cu bT:Addr) (k:Nat) (σ:St) (H:ao):Prop :=
 ∃(cK:Addr) (us:List V) (aE:List b1) (os vs:List Int) (b:Int) (gY g_ jL j1 k9 fX fW i9 ih:Option V),σ=[some (.ref cl),some (.int c),some (.ref cM),some (.ref cu),some (.ref cK),some (.ref bT),some (.int b),gY,g_,jL,j1,k9,fX,fW,i9,ih]∧gH cW H cM cu cK bT us aE os vs b k
def J2 (s:Stmt):List Stmt:=match s with
 | .If _ b _ _=>b
 | _=>[]
def Dy (s:Stmt):List Stmt:=match s with
 | .If _ _ b _=>b
 | _=>[]
theorem g6:dk rf ud (bF iM):=dM
theorem VC {gE:Addr}{hg:FuncData}(F:da K "_law_deeds" "_law_deeds" iM f fd) (B:ew ai) (h9:aU P w K ai base bf 1 gE hg rk Dn) (h3:Binds K hg rk []) (ob:keepIn K (.ref gE)=true) (ha:ai "_law_draw"=some (.ref gE)) :
  aU P w K ai base bf 2 f fd ud CR:=by
 refine F.ok g6 (fun vs H Q E h=>?_) (fun b4 A outer s H vs Q E aC h=>?_)
 ·obtain⟨cl,cs,c,rfl,_⟩:=h
  rfl
 obtain⟨cl,cs,c,rfl,qj,xJ,cL,dV,q⟩:=h
 have a7:=gT aC
 obtain⟨alJ,ac2,K0⟩:∃t,gW (fG bf P w K ai base rf "_law_deeds" (bF iM) f b4 A outer s H E).k_ ((J2 ((Dy ((sZ ((cR iM).getD 6 (.Pass ⟨0,0,0,0⟩))).getD 10 (.Pass ⟨0,0,0,0⟩))).getD 0 (.Pass ⟨0,0,0,0⟩))).drop 2) t∧∀(D:Ends) (cM cu cK bT:Addr) (us:List V) (aE:List b1) (os vs:List Int) (b:Int) (k:Nat) (gY jL j1 fW:Option V) (r c8 p d m:Int) (H1:ao),
   gH H H1 cM cu cK bT us aE os vs b k→k<63→bd p→bd d→(∀bK ah,su H cl c cM cu bT (k+1) bK ah→D.c4 bK ah)→t D [some (.ref cl),some (.int c),some (.ref cM),some (.ref cu),some (.ref cK),some (.ref bT),some (.int b),gY,some (.int r),jL,j1,some (.int c8),some (.int p),fW,some (.int d),some (.int m)] H1:=by
  refine⟨_,(bh (dm (i:=15) g6.bl rfl (Or.inl rfl) (bA eH (fl (aq (af 15) (aq (af 15) (aq (af 11) (aq (c0 qZ aW (af 11)) aK))))) (dt h9 (b9 aC) rfl ha ob h3 .nil cP (aq (af 8) (aq aW (aq aW aK)))) (fun _ _=>rfl))) (aZ (dz (jx plainAttrs_list PySem.F.slot_list_append PySem.F.type_list_append jo (af 3) (aq (gz (aq bw (aq (af 14) (aq (af 12) (aq (af 15) aK))))) aK))))),?_⟩
  intro D cM cu cK bT us aE os vs b k gY jL j1 fW r c8 p d m H1 dI a8 om mY ez
  have nL:us.length=aE.length:=by rw[bk.length dI.jh,length_map]
  have kN:=dI.kN
  refine⟨_,rfl,_,rfl,_,rfl,_,rfl,_,_,rfl,rfl,cS,fun t a6=>?_⟩
  refine⟨_,rfl,_,_,_,rfl,by decide,by decide,fun z n0 akb=>?_⟩
  obtain⟨y,b6,ck⟩:=ku (ns:=[m,m,c8,0 - c8]) (k:=z) n0 akb
  have s1:=bP a6 (.lst [.int m,.int m,.int c8,.int (0 - c8)])
  have gx:=dI.same s1
  refine⟨t,_,_,_,rfl,rfl,aR.of aQ,ck,?_⟩
  refine⟨_,rfl,.inl ⟨rfl,_,aR.of gx.aX⟩,_,rfl,_,rfl,_,rfl,cS,fun en rC=>?_⟩
  have hI:=gx.same (bP rC (.tup [.str "put",.int d,.int p,.int y]))
  refine⟨cu,us,.ref en,rfl,rfl,hI.aX,qW (by omega),ez _ _ ?_⟩
  exact⟨cK,_,_,_,_,b,_,_,_,_,_,_,_,_,_,rfl,hI.ask (e:=.put d p y) (v:=.ref en) (Rep.gS aQ (.cons .ofStr (.cons .ofInt (.cons .ofInt (.cons .ofInt .nil))))) ⟨mY.c2,om.c2⟩⟩
 obtain⟨alI,Yj,zA⟩:∃t,gW (fG bf P w K ai base rf "_law_deeds" (bF iM) f b4 A outer s H E).k_ ((J2 ((Dy ((Dy ((sZ ((cR iM).getD 6 (.Pass ⟨0,0,0,0⟩))).getD 10 (.Pass ⟨0,0,0,0⟩))).getD 0 (.Pass ⟨0,0,0,0⟩))).getD 0 (.Pass ⟨0,0,0,0⟩))).drop 2) t∧∀(D:Ends) (cM cu cK bT:Addr) (us:List V) (aE:List b1) (os vs:List Int) (b:Int) (k:Nat) (gY g_ jL j1 k9 fX fW ih:Option V) (d:Int) (H1:ao),
   gH H H1 cM cu cK bT us aE os vs b k→k<100→(∀bK ah,su H cl c cM cu bT k bK ah→D.c4 bK ah)→t D [some (.ref cl),some (.int c),some (.ref cM),some (.ref cu),some (.ref cK),some (.ref bT),some (.int b),gY,g_,jL,j1,k9,fX,fW,some (.int d),ih] H1:=by
  refine⟨_,(aZ (Vo (i:=4) [14] ["_law_one","_law_dealing"] g6.bl rfl rfl (k8.one (fv:="_law_dealing") (j:=14) rfl (by decide +kernel) (by decide +kernel) rfl (by decide +kernel) rfl rfl (by decide +kernel) rfl rfl rfl) rfl (ks (af 4)) (fun C s1 H1 b5=>(cn i5 (af 0) (af 1) (bY _))) (fun C s1 H1 b5=>(af 0)))),?_⟩
  intro D cM cu cK bT us aE os vs b k gY g_ jL j1 k9 fX fW ih d H1 dI a8 ez
  have lo:=dI.lo
  refine⟨_,rfl,cK,rfl,⟨_,aR.of dI.aH⟩,fun n aS=>Um (K:=K) (fun z => !decide (V.int z=V.int d)) dI.aH aS (by omega) (fun z a9 qz xg=>⟨_,rfl,_,rfl,rfl,_,rfl,xg⟩) (fun z a9 qz xg=>⟨_,rfl,xg⟩) ?_⟩
  refine ez _ _ ⟨n,_,_,_,_,b,_,_,_,_,_,_,_,_,_,rfl,dI.ab6 aS (le_trans (length_filter_le ..) lo) fun o aH=>dI.r0 o (mem_filter.mp aH).1⟩
 obtain⟨alR,aiv,Ep⟩:∃t,gW (fG bf P w K ai base rf "_law_deeds" (bF iM) f b4 A outer s H E).k_ ((sZ ((cR iM).getD 6 (.Pass ⟨0,0,0,0⟩))).drop 10) t∧∀(D:Ends) (cM cu cK bT:Addr) (us:List V) (aE:List b1) (os vs:List Int) (b:Int) (k:Nat) (gY j1 fW ih:Option V) (r:Int) (ww:Str) (c8 p d:Int) (H1:ao),
   gH H H1 cM cu cK bT us aE os vs b k→k<63→ww∈wz→bd p→bd d→(∀bK ah,su H cl c cM cu bT (k+1) bK ah→D.c4 bK ah)→t D [some (.ref cl),some (.int c),some (.ref cM),some (.ref cu),some (.ref cK),some (.ref bT),some (.int b),gY,some (.int r),some (.str ww),j1,some (.int c8),some (.int p),fW,some (.int d),ih] H1:=by
  refine⟨_,(aZ (b_ (cn dv (af 9) bw (bY _)) (bh (dz (jx plainAttrs_list PySem.F.slot_list_append PySem.F.type_list_append jo (af 3) (aq (gz (aq bw aK)) aK))) (bh (dz (jx plainAttrs_list PySem.F.slot_list_append PySem.F.type_list_append jo (af 4) (aq (af 6) aK))) (aZ (dm (i:=6) g6.bl rfl (Or.inl rfl) (c0 gJ (af 6) aW))))) (aZ (b_ (cn dv (af 9) bw (bY _)) (bh (dm (i:=15) g6.bl rfl (Or.inl rfl) (c0 qZ (dt h9 (b9 aC) rfl ha ob h3 .nil cP (aq (af 8) (aq aW (aq aW aK)))) aW)) (bh (dm (i:=15) g6.bl rfl (Or.inl rfl) (bA eH (fl (aq (af 15) (aq aW aK))) (h_ vP rfl B.int ur (aq (hx pX (af 15) aW (bY _)) aK)) (fun _ _=>rfl))) ac2)) (aZ (b_ (lQ (cn dv (af 9) bw (bY _)) (cn dv (af 9) bw (bY _))) (bh (dz (jx plainAttrs_list PySem.F.slot_list_append PySem.F.type_list_append jo (af 3) (aq (gz (aq (af 9) (aq (af 14) aK))) aK))) (bh (b_ (cn Iw (af 14) (af 4) (by with_unfolding_all rfl)) (aZ (dz (jx plainAttrs_list PySem.F.slot_list_append PySem.F.type_list_append jo (af 5) (aq (af 14) aK)))) cZ) Yj)) (aZ (b_ (cn dv (af 9) bw (bY _)) (aZ (dz (jx plainAttrs_list PySem.F.slot_list_append PySem.F.type_list_append jo (af 3) (aq (gz (aq bw aK)) aK)))) (aZ (dz (jx plainAttrs_list PySem.F.slot_list_append PySem.F.type_list_append jo (af 3) (aq (gz (aq (af 9) (aq (af 12) aK))) aK)))))))))))),?_⟩
  intro D cM cu cK bT us aE os vs b k gY j1 fW ih r ww c8 p d H1 dI a8 hw om mY ez
  have nL:us.length=aE.length:=by rw[bk.length dI.jh,length_map]
  have kN:=dI.kN
  have lo:=dI.lo
  have lv:=dI.lv
  have dw:us.length<sizeLine:=qW (by omega)
  have over:∀(D:Ends) (ww:Str) (e:b1) (t:Addr),H1 t=none→Rep (upd H1 t (.tup [.str ww,.int d])) e.D (.ref t)→oY e→(∀bK ah,su H cl c cM cu bT (k+1) bK ah→D.c4 bK ah) →
    gH H (upd (upd H1 t (.tup [.str ww,.int d])) cu (.lst (us++[.ref t]))) cM cu cK bT (us++[.ref t]) (aE++[e]) os vs b (k+1):=fun D ww e t a6 br a5 _=>(dI.same (bP a6 _)).ask br a5
  simp only[wz,mem_cons,not_mem_nil,or_false]at hw
  rcases hw with rfl | rfl | rfl | rfl | rfl | rfl | rfl
  ·
   refine⟨_,rfl,rfl,_,rfl,dS rfl ?_⟩
   refine⟨_,rfl,.inl ⟨rfl,_,aR.of dI.aX⟩,cS,fun t a6=>?_⟩
   have gx:=dI.same (bP a6 (.tup [.str "begin"]))
   refine⟨cu,us,.ref t,rfl,rfl,gx.aX,dw,?_⟩
   have hI:=gx.ask (e:=.begin) (v:=.ref t) (Rep.gS aQ (.cons .ofStr .nil)) trivial
   have mz:=hI.Zr (os':=os++[b]) (by rw[length_append,length_singleton];omega) (fun o aH=>by
    rcases mem_append.mp aH with z | z
    ·exact dI.r0 o z
    ·rw[mem_singleton.mp z]
     have:=dI.jT
     have:=dI.e7
     exact⟨by omega,by omega⟩)
   refine⟨_,rfl,.inl ⟨rfl,_,aR.of hI.aH⟩,_,rfl,cK,_,.int b,rfl,rfl,hI.aH,qW (by rw[length_map];omega),?_⟩
   have ht:os.map V.int++[.int b]=(os++[b]).map V.int:=by rw[map_append];rfl
   rw[ht]
   refine⟨_,rfl,_,_,rfl,rfl,ez _ _ ?_⟩
   exact⟨cK,_,_,_,_,b+1,_,_,_,_,_,_,_,_,_,rfl,mz.begun (by have:=dI.e7;omega)⟩
  ·
   refine⟨_,rfl,rfl,_,rfl,bx (by decide +kernel) ?_⟩
   refine⟨_,rfl,rfl,_,rfl,dS rfl ?_⟩
   refine⟨_,rfl,_,_,_,rfl,by decide,by decide,fun dE _ _=>⟨_,_,rfl,rfl,?_⟩⟩
   refine⟨_,rfl,cS,fun t1 rD=>?_⟩
   have gx:=dI.same (bP rD (.lst [.int (dE - 20),.int 1000000000000]))
   refine⟨_,rfl,_,_,rfl,rfl,.inr ⟨_,rfl,C_ aQ ?_ ?_ _⟩⟩
   ·exact K0 D cM cu cK bT us aE os vs b k _ _ _ _ r c8 p d _ _ gx a8 om mY ez
   ·exact K0 D cM cu cK bT us aE os vs b k _ _ _ _ r c8 p d _ _ gx a8 om mY ez
  ·
   refine⟨_,rfl,rfl,_,rfl,bx (by decide +kernel) ?_⟩
   refine⟨_,rfl,rfl,_,rfl,bx (by decide +kernel) ?_⟩
   refine⟨_,rfl,rfl,_,rfl,dS rfl (fm ?_)⟩
   refine⟨_,rfl,.inl ⟨rfl,_,aR.of dI.aX⟩,_,rfl,_,rfl,cS,fun t a6=>?_⟩
   have hI:=over D "end" (.fin d) t a6 (Rep.gS aQ (.cons .ofStr (.cons .ofInt .nil))) mY.c2 ez
   refine⟨cu,us,.ref t,rfl,rfl,(dI.same (bP a6 _)).aX,dw,?_⟩
   refine⟨_,rfl,_,rfl,cK,_,rfl,.inl (aR.of hI.aH),rfl,II os,_,rfl,gk (fun _=>?_) (fun _=>?_)⟩
   ·refine⟨_,rfl,.inl ⟨rfl,_,aR.of hI.br⟩,_,rfl,bT,_,.int d,rfl,rfl,hI.br,qW (by rw[length_map];omega),?_⟩
    have ht:vs.map V.int++[.int d]=(vs++[d]).map V.int:=by rw[map_append];rfl
    rw[ht]
    have mz:=hI.KR (vs':=vs++[d]) (by rw[length_append,length_singleton];omega) (fun o aH=>by
     rcases mem_append.mp aH with z | z
     ·exact dI.m2 o z
     ·rw[mem_singleton.mp z];exact mY)
    exact zA D cM cu cK bT _ _ _ _ b (k+1) _ _ _ _ _ _ _ _ d _ mz (by omega) ez
   ·exact zA D cM cu cK bT _ _ _ _ b (k+1) _ _ _ _ _ _ _ _ d _ hI (by omega) ez
  ·
   refine⟨_,rfl,rfl,_,rfl,bx (by decide +kernel) ?_⟩
   refine⟨_,rfl,rfl,_,rfl,bx (by decide +kernel) ?_⟩
   refine⟨_,rfl,rfl,_,rfl,bx (by decide +kernel) ?_⟩
   refine⟨_,rfl,rfl,_,rfl,dS rfl ?_⟩
   refine⟨_,rfl,.inl ⟨rfl,_,aR.of dI.aX⟩,_,rfl,_,rfl,cS,fun t a6=>?_⟩
   have hI:=over D "drop" (.drop d) t a6 (Rep.gS aQ (.cons .ofStr (.cons .ofInt .nil))) mY.c2 ez
   refine⟨cu,us,.ref t,rfl,rfl,(dI.same (bP a6 _)).aX,dw,?_⟩
   refine⟨_,rfl,_,rfl,cK,_,rfl,.inl (aR.of hI.aH),rfl,II os,_,rfl,gk (fun _=>?_) (fun _=>?_)⟩
   ·refine⟨_,rfl,.inl ⟨rfl,_,aR.of hI.br⟩,_,rfl,bT,_,.int d,rfl,rfl,hI.br,qW (by rw[length_map];omega),?_⟩
    have ht:vs.map V.int++[.int d]=(vs++[d]).map V.int:=by rw[map_append];rfl
    rw[ht]
    have mz:=hI.KR (vs':=vs++[d]) (by rw[length_append,length_singleton];omega) (fun o aH=>by
     rcases mem_append.mp aH with z | z
     ·exact dI.m2 o z
     ·rw[mem_singleton.mp z];exact mY)
    exact zA D cM cu cK bT _ _ _ _ b (k+1) _ _ _ _ _ _ _ _ d _ mz (by omega) ez
   ·exact zA D cM cu cK bT _ _ _ _ b (k+1) _ _ _ _ _ _ _ _ d _ hI (by omega) ez
  ·
   refine⟨_,rfl,rfl,_,rfl,bx (by decide +kernel) ?_⟩
   refine⟨_,rfl,rfl,_,rfl,bx (by decide +kernel) ?_⟩
   refine⟨_,rfl,rfl,_,rfl,bx (by decide +kernel) ?_⟩
   refine⟨_,rfl,rfl,_,rfl,bx (by decide +kernel) ?_⟩
   refine⟨_,rfl,rfl,_,rfl,bx (by decide +kernel) ?_⟩
   refine⟨_,rfl,.inl ⟨rfl,_,aR.of dI.aX⟩,_,rfl,_,rfl,cS,fun t a6=>?_⟩
   have gx:=dI.same (bP a6 (.tup [.str "look",.int p]))
   refine⟨cu,us,.ref t,rfl,rfl,gx.aX,dw,ez _ _ ?_⟩
   exact⟨cK,_,_,_,_,b,_,_,_,_,_,_,_,_,_,rfl,gx.ask (e:=.look p) (v:=.ref t) (Rep.gS aQ (.cons .ofStr (.cons .ofInt .nil))) om.c2⟩
  ·
   refine⟨_,rfl,rfl,_,rfl,bx (by decide +kernel) ?_⟩
   refine⟨_,rfl,rfl,_,rfl,bx (by decide +kernel) ?_⟩
   refine⟨_,rfl,rfl,_,rfl,bx (by decide +kernel) ?_⟩
   refine⟨_,rfl,rfl,_,rfl,bx (by decide +kernel) ?_⟩
   refine⟨_,rfl,rfl,_,rfl,bx (by decide +kernel) ?_⟩
   refine⟨_,rfl,.inl ⟨rfl,_,aR.of dI.aX⟩,_,rfl,_,rfl,cS,fun t a6=>?_⟩
   have gx:=dI.same (bP a6 (.tup [.str "carry",.int p]))
   refine⟨cu,us,.ref t,rfl,rfl,gx.aX,dw,ez _ _ ?_⟩
   exact⟨cK,_,_,_,_,b,_,_,_,_,_,_,_,_,_,rfl,gx.ask (e:=.carry p) (v:=.ref t) (Rep.gS aQ (.cons .ofStr (.cons .ofInt .nil))) om.c2⟩
  ·
   refine⟨_,rfl,rfl,_,rfl,bx (by decide +kernel) ?_⟩
   refine⟨_,rfl,rfl,_,rfl,bx (by decide +kernel) ?_⟩
   refine⟨_,rfl,rfl,_,rfl,bx (by decide +kernel) ?_⟩
   refine⟨_,rfl,rfl,_,rfl,bx (by decide +kernel) ?_⟩
   refine⟨_,rfl,rfl,_,rfl,dS rfl ?_⟩
   refine⟨_,rfl,.inl ⟨rfl,_,aR.of dI.aX⟩,cS,fun t a6=>?_⟩
   have gx:=dI.same (bP a6 (.tup [.str "cut"]))
   refine⟨cu,us,.ref t,rfl,rfl,gx.aX,dw,ez _ _ ?_⟩
   exact⟨cK,_,_,_,_,b,_,_,_,_,_,_,_,_,_,rfl,gx.ask (e:=.cut) (v:=.ref t) (Rep.gS aQ (.cons .ofStr .nil)) trivial⟩
 obtain⟨R4,GK,m4⟩:∃t,gW (fG bf P w K ai base rf "_law_deeds" (bF iM) f b4 A outer s H E).k_ ((sZ ((cR iM).getD 6 (.Pass ⟨0,0,0,0⟩))).drop 7) t∧∀(D:Ends) (cM cu cK bT:Addr) (us:List V) (aE:List b1) (os vs:List Int) (b:Int) (k:Nat) (gY fW i9 ih:Option V) (r:Int) (ww:Str) (fq c8 p:Int) (H1:ao),
   gH H H1 cM cu cK bT us aE os vs b k→k<63→ww∈wz→bd p→0≤c8→c8<1000000000000000000000000000000→(∀bK ah,su H cl c cM cu bT (k+1) bK ah→D.c4 bK ah)→t D [some (.ref cl),some (.int c),some (.ref cM),some (.ref cu),some (.ref cK),some (.ref bT),some (.int b),gY,some (.int r),some (.str ww),some (.int fq),some (.int c8),some (.int p),fW,i9,ih] H1:=by
  refine⟨_,(bh (dm (i:=13) g6.bl rfl (Or.inl rfl) (c0 tB (fl (aq (af 6) (aq (tQ s8 aW) (aq (c0 gJ (c0 gJ (af 6) aW) (af 11)) (aq (c0 qZ (tQ s8 aW) (af 11)) aK))))) (af 5))) (bh (dm (i:=14) g6.bl rfl (Or.inr rfl) (bA eH (af 13) (dt h9 (b9 aC) rfl ha ob h3 .nil cP (aq (af 8) (aq aW (aq (dP e8 rfl B.len PySem.boot_len (aq (af 13) aK)) aK)))) (fun _ _=>rfl))) (bh (b_ (oD (cn (I4 (Nat.lt_of_succ_lt a7)) (af 4) (fl aK) (bY _)) (cn i5 (c0 jv (af 10) aW) aW (bY _))) (aZ (dm (i:=14) g6.bl rfl (Or.inr rfl) (bA eH (af 4) (dt h9 (b9 aC) rfl ha ob h3 .nil cP (aq (af 8) (aq aW (aq (dP e8 rfl B.len PySem.boot_len (aq (af 4) aK)) aK)))) (fun _ _=>rfl)))) cZ) aiv))),?_⟩
  intro D cM cu cK bT us aE os vs b k gY fW i9 ih r ww fq c8 p H1 dI a8 hw om f0 f1 ez
  have lo:=dI.lo
  have lv:=dI.lv
  have amf:=dI.jT
  have Oh:=dI.e7
  refine⟨_,rfl,_,rfl,_,rfl,_,_,rfl,rfl,_,rfl,_,_,rfl,rfl,_,rfl,_,rfl,_,_,rfl,rfl,cS,fun t a6=>?_⟩
  have s1:=bP a6 (.lst [.int b,.int (-1),.int (b+1+c8),.int (-2 - c8)])
  have gx:=dI.same s1
  refine⟨_,rfl,t,bT,_,_,rfl,rfl,aQ,gx.br,le_of_lt (qW (by rw[length_map];show 4+vs.length≤2000;omega)),fun u kD=>?_⟩
  have eN:[V.int b,.int (-1),.int (b+1+c8),.int (-2 - c8)]++vs.map V.int=(b :: -1::(b+1+c8)::(-2 - c8)::vs).map V.int:=rfl
  rw[eN]
  have s2:=bP kD (.lst ((b :: -1::(b+1+c8)::(-2 - c8)::vs).map V.int))
  have hI:=gx.same s2
  have lE:(upd (upd H1 t (.lst [.int b,.int (-1),.int (b+1+c8),.int (-2 - c8)])) u (.lst ((b :: -1::(b+1+c8)::(-2 - c8)::vs).map V.int))) u=some (.lst ((b :: -1::(b+1+c8)::(-2 - c8)::vs).map V.int)):=aQ
  generalize upd (upd H1 t (.lst [.int b,.int (-1),.int (b+1+c8),.int (-2 - c8)])) u (.lst ((b :: -1::(b+1+c8)::(-2 - c8)::vs).map V.int))=au at hI lE ⊢
  have uq:∀o∈(b :: -1::(b+1+c8)::(-2 - c8)::vs),bd o:=fun o aH=>by
   simp only[mem_cons]at aH
   rcases aH with z | z | z | z | z
   ·rw[z];exact⟨by omega,by omega⟩
   ·rw[z];exact⟨by omega,by omega⟩
   ·rw[z];exact⟨by omega,by omega⟩
   ·rw[z];exact⟨by omega,by omega⟩
   ·exact dI.m2 o z
  have ahN:0<(b :: -1::(b+1+c8)::(-2 - c8)::vs).length:=Nat.succ_pos _
  generalize (b :: -1::(b+1+c8)::(-2 - c8)::vs)=ss at lE uq ahN ⊢
  refine⟨_,rfl,_,rfl,_,rfl,u,_,rfl,.inl (aR.of lE),_,_,_,rfl,by decide,?_,fun z n0 dE=>?_⟩
  ·rw[length_map];omega
  obtain⟨dd,b6,ck⟩:=ku (ns:=ss) (k:=z) n0 (by rw[length_map]at dE;exact dE)
  have mY:bd dd:=uq dd (mem_of_getElem? b6)
  refine⟨u,_,_,_,rfl,rfl,aR.of lE,ck,?_⟩
  refine⟨_,rfl,cS,fun e he=>?_⟩
  have mz:=hI.same (bP he (.lst []))
  refine⟨cK,e,_,rfl,rfl,mz.aH,aQ,_,rfl,gk (fun ce=>?_) (fun ce=>?_)⟩
  ·refine⟨_,rfl,_,_,rfl,rfl,(by decide:(0:Int)<11),rfl,_,rfl,gk (fun _=>?_) (fun _=>?_)⟩
   ·refine⟨_,rfl,_,rfl,_,rfl,cK,_,rfl,.inl (aR.of mz.aH),_,_,_,rfl,by decide,?_,fun z n0 dE=>?_⟩
    ·rw[length_map]
     cases os with
     | nil=>cases ce
     | cons o r=>rw[length_cons];omega
    obtain⟨eF,fH,eU⟩:=ku (ns:=os) (k:=z) n0 (by rw[length_map]at dE;exact dE)
    refine⟨cK,_,_,_,rfl,rfl,aR.of mz.aH,eU,?_⟩
    exact Ep D cM cu cK bT us aE os vs b k _ _ _ _ r ww c8 p eF _ mz a8 hw om (dI.r0 eF (mem_of_getElem? fH)) ez
   ·exact Ep D cM cu cK bT us aE os vs b k _ _ _ _ r ww c8 p dd _ mz a8 hw om mY ez
  ·refine cU ?_
   exact Ep D cM cu cK bT us aE os vs b k _ _ _ _ r ww c8 p dd _ mz a8 hw om mY ez
 obtain⟨t3,ct,eV⟩:∃t,gW (fG bf P w K ai base rf "_law_deeds" (bF iM) f b4 A outer s H E).k_ ((sZ ((cR iM).getD 6 (.Pass ⟨0,0,0,0⟩))).drop 3) t∧∀(D:Ends) (cM cu cK bT:Addr) (us:List V) (aE:List b1) (os vs:List Int) (b:Int) (k:Nat) (j1 k9 fX fW i9 ih:Option V) (r:Int) (ww:Str) (H1:ao),
   gH H H1 cM cu cK bT us aE os vs b k→k<cs.length→ww∈wz→(∀bK ah,su H cl c cM cu bT (k+1) bK ah→D.c4 bK ah)→t D [some (.ref cl),some (.int c),some (.ref cM),some (.ref cu),some (.ref cK),some (.ref bT),some (.int b),some (.int ((k:Nat):Int)),some (.int r),some (.str ww),j1,k9,fX,fW,i9,ih] H1:=by
  refine⟨_,(bh (dm (i:=10) g6.bl rfl (Or.inl rfl) (dt h9 (b9 aC) rfl ha ob h3 .nil cP (aq (af 8) (aq aW (aq aW aK))))) (bh (dm (i:=11) g6.bl rfl (Or.inl rfl) (c0 jv (bA eH (af 0) (af 7) (fun _ _=>rfl)) (c0 Dv aW aW))) (bh (dm (i:=12) g6.bl rfl (Or.inl rfl) (dt h9 (b9 aC) rfl ha ob h3 .nil cP (aq (af 8) (aq aW (aq (af 1) aK))))) (bh (b_ (cn dv (c0 jv (af 10) aW) aW (bY _)) (aZ (dm (i:=12) g6.bl rfl (Or.inl rfl) (bA eH (fl (aq (tQ s8 aW) (aq (af 1) (aq (c0 qZ (tQ s8 aW) (af 11)) (aq (c0 gJ (af 1) (af 11)) aK))))) (c0 v5 (af 10) aW) (fun _ _=>rfl)))) cZ) GK)))),?_⟩
  intro D cM cu cK bT us aE os vs b k j1 k9 fX fW i9 ih r ww H1 dI a8 hw ez
  obtain⟨z,ak8,BQ⟩:=ku (ns:=cs) (k:=((k:Nat):Int)) (by omega) (by omega)
  have zW:=dI.c2 _ _ qj
  refine⟨_,rfl,_,_,_,rfl,by decide,by decide,fun fq o0 bU=>?_⟩
  refine⟨_,rfl,_,rfl,cl,_,_,_,rfl,rfl,aR.of zW,BQ,_,_,rfl,rfl,⟨by decide,by decide,by decide⟩,_,_,rfl,rfl,(show (0:Int)<10 ^ (30:Int).toNat by decide),?_⟩
  have f0:0≤z % (10:Int) ^ (30:Int).toNat:=Int.emod_nonneg _ (by rw[OD];decide)
  have f1:z % (10:Int) ^ (30:Int).toNat<1000000000000000000000000000000:=by
   have:=Int.emod_lt_of_pos z (show (0:Int)<10 ^ (30:Int).toNat by decide)
   rw[OD]at this ⊢
   exact this
  dsimp only
  generalize z % (10:Int) ^ (30:Int).toNat=c8 at f0 f1 ⊢
  refine⟨_,rfl,_,rfl,_,_,_,rfl,by decide,by omega,fun cp qu hX=>?_⟩
  refine⟨_,rfl,_,_,rfl,rfl,(by decide:(0:Int)<11),rfl,_,rfl,gk (fun _=>?_) (fun _=>?_)⟩
  ·refine⟨_,rfl,_,rfl,_,rfl,_,rfl,_,_,rfl,rfl,_,rfl,_,rfl,_,_,rfl,rfl,cS,fun t a6=>?_⟩
   have gx:=dI.same (bP a6 (.lst [.int (-1),.int c,.int (-1 - c8),.int (c+c8)]))
   refine⟨_,rfl,_,_,rfl,rfl,⟨by decide,by decide⟩,?_⟩
   obtain⟨y,b6,ck⟩:=ku (ns:=[-1,c, -1 - c8,c+c8]) (k:=fq / 11) (by omega) (by show _<(4:Int);omega)
   refine⟨t,_,_,_,rfl,rfl,aR.of aQ,ck,?_⟩
   refine m4 D cM cu cK bT us aE os vs b k _ _ _ _ r ww fq c8 y _ gx (by omega) hw ?_ f0 f1 ez
   have R0:=mem_of_getElem? b6
   simp only[mem_cons,not_mem_nil,or_false]at R0
   rcases R0 with z | z | z | z
   all_goals (rw[z];exact⟨by omega,by omega⟩)
  ·exact m4 D cM cu cK bT us aE os vs b k _ _ _ _ r ww fq c8 cp _ dI (by omega) hw ⟨by omega,by omega⟩ f0 f1 ez
 obtain⟨en,aG,aV⟩:∃t,gW (fG bf P w K ai base rf "_law_deeds" (bF iM) f b4 A outer s H E).k_ ((cR iM).drop 2) t∧∀(cM:Addr) (H1:ao),bI H H1→H1 cM=some (.lst (zK.map V.str)) →
   t { c4:=fun _ au=>Q .cE au,n6:=Q } [some (.ref cl),some (.int c),some (.ref cM),none,none,none,none,none,none,none,none,none,none,none,none,none] H1:=by
  refine⟨_,(bh (dm (i:=3) g6.bl rfl (Or.inl rfl) (fl aK)) (bh (dm (i:=4) g6.bl rfl (Or.inl rfl) (fl aK)) (bh (dm (i:=5) g6.bl rfl (Or.inl rfl) (fl aK)) (bh (dm (i:=6) g6.bl rfl (Or.inl rfl) aW) (bh (hA PassesOwn.never rfl (qQ rfl B.l0 (aq (dP e8 rfl B.len PySem.boot_len (aq (af 0) aK)) aK)) (fj (i:=7) g6.bl rfl (Or.inl rfl)) (bh (dm (i:=8) g6.bl rfl (Or.inl rfl) (c0 gJ (bA eH (af 0) (af 7) (fun _ _=>rfl)) (c0 zh aW (af 7)))) (bh (dm (i:=9) g6.bl rfl (Or.inl rfl) (bA eH (af 2) (c0 jv (c0 gJ (bA eH (af 0) (af 7) (fun _ _=>rfl)) (c0 zh aW (af 7))) aW) (fun _ _=>rfl))) (bh (b_ (oD (cn (Vt (Nat.lt_of_succ_lt a7)) (af 4) (fl aK) (bY _)) (cn pW (c0 jv (af 7) aW) aW (bY _))) (aZ (dm (i:=9) g6.bl rfl (Or.inl rfl) bw)) cZ) ct)))) (aZ (cF (af 3)))))))),?_⟩
  intro cM H1 s1 jR
  refine⟨cS,fun cu FG=>?_⟩
  have s2:=bP FG (.lst [])
  have na:cM≠cu:=cD jR FG
  have aP:(upd H1 cu (.lst [])) cu=some (.lst []):=aQ
  generalize upd H1 cu (.lst [])=au at s2 aP ⊢
  refine⟨cS,fun cK AE=>?_⟩
  have s3:=bP AE (.lst [])
  have no:cM≠cK:=cD (s2 _ _ jR) AE
  have agJ:cu≠cK:=cD aP AE
  have ht:(upd au cK (.lst [])) cK=some (.lst []):=aQ
  generalize upd au cK (.lst [])=a9 at s3 ht ⊢
  refine⟨cS,fun bT w_=>?_⟩
  have s4:=bP w_ (.lst [])
  have pe:cM≠bT:=cD (s3 _ _ (s2 _ _ jR)) w_
  have agI:cu≠bT:=cD (s3 _ _ aP) w_
  have agA:cK≠bT:=cD ht w_
  have ev:(upd a9 bT (.lst [])) bT=some (.lst []):=aQ
  generalize upd a9 bT (.lst [])=cO at s4 ev ⊢
  have hH:=s1.trans (s2.trans (s3.trans s4))
  have alA:gH H cO cM cu cK bT [] [] [] [] 0 0:=⟨hH,(s2.trans (s3.trans s4)) _ _ jR,(s3.trans s4) _ _ aP,.nil,rfl,(fun e he=>by cases he),s4 _ _ ht,le_refl _,(fun o aH=>by cases aH),ev,le_refl _,(fun o aH=>by cases aH),Int.le_refl _,Int.le_refl _,s1.free FG,(s1.trans s2).free AE,(s1.trans (s2.trans s3)).free w_,na,no,pe,agJ,agI,agA⟩
  have lcs:(cs.map V.int).length=cs.length:=length_map _
  refine⟨_,rfl,cl,_,rfl,.inl (aR.of (hH _ _ qj)),_,rfl,by omega,by omega,sH (su H cl c cM cu bT) ⟨cK,[],[],[],[],0,none,none,none,none,none,none,none,none,none,rfl,alA⟩ ?_ ?_⟩
  ·rintro i σ d4 aL ⟨wY,us,aE,os,vs,b,gY,g_,jL,j1,k9,fX,fW,i9,ih,rfl,dI⟩
   have jF:i<cs.length:=by omega
   have e0:(0:Int)+(i:Int)=((i:Nat):Int):=by omega
   rw[e0]
   obtain⟨z,ak8,BQ⟩:=ku (ns:=cs) (k:=((i:Nat):Int)) (by omega) (by omega)
   have zW:=dI.c2 _ _ qj
   refine⟨_,rfl,_,rfl,cl,_,_,_,rfl,rfl,aR.of zW,BQ,_,rfl,_,_,rfl,rfl,.inl ⟨by decide,by decide⟩,_,_,rfl,rfl,?_⟩
   refine⟨_,rfl,_,rfl,_,rfl,cl,_,_,_,rfl,rfl,aR.of zW,BQ,_,rfl,_,_,rfl,rfl,.inl ⟨by decide,by decide⟩,_,_,rfl,rfl,_,_,rfl,rfl,(by decide:(0:Int)<16),?_⟩
   obtain⟨v,v1,v2⟩:=DA (xs:=zK.map V.str) (k:=(z+5 * ((i:Nat):Int)) % 16) (by omega) (by show _<(16:Int);omega)
   obtain⟨ww,NZ,rfl⟩:=mem_map.mp (mem_of_getElem? v2)
   refine⟨cM,_,_,_,rfl,rfl,aR.of dI.hw,v1,?_⟩
   refine⟨_,rfl,cS,fun e he=>?_⟩
   have gx:=dI.same (bP he (.lst []))
   refine⟨wY,e,_,rfl,rfl,gx.aH,aQ,_,rfl,gk (fun _=>?_) (fun _=>?_)⟩
   ·refine⟨_,rfl,_,_,rfl,rfl,(by decide:(0:Int)<4),_,_,rfl,rfl,_,rfl,gk (fun _=>?_) (fun _=>?_)⟩
    ·exact eV _ cM cu wY bT us aE os vs b i _ _ _ _ _ _ _ "begin" _ gx jF (by decide +kernel) fun bK ah h=>h
    ·exact eV _ cM cu wY bT us aE os vs b i _ _ _ _ _ _ _ ww _ gx jF (IT ww NZ) fun bK ah h=>h
   ·refine cU ?_
    exact eV _ cM cu wY bT us aE os vs b i _ _ _ _ _ _ _ ww _ gx jF (IT ww NZ) fun bK ah h=>h
  ·rintro σ d4 ⟨wY,us,aE,os,vs,b,gY,g_,jL,j1,k9,fX,fW,i9,ih,rfl,dI⟩
   exact⟨_,rfl,q cu us aE d4 dI.c2 dI.aX dI.jh (by rw[dI.kN];omega) dI.pa⟩
 refine⟨_,bh (dm (i:=2) g6.bl rfl (Or.inl rfl) (fl (aq bw (aq bw (aq bw (aq bw (aq bw (aq bw (aq bw (aq bw aK)))))))))) (bh (dm (i:=2) g6.bl rfl (Or.inl rfl) (c0 tB (af 2) (fl (aq bw (aq bw (aq bw (aq bw (aq bw (aq bw (aq bw (aq bw aK))))))))))) aG),?_⟩
 refine⟨cS,fun fH ahJ=>⟨_,rfl,cS,fun eU uG=>?_⟩⟩
 have s1:=bP ahJ (.lst ([V.str "begin",V.str "put",V.str "put",V.str "put",V.str "end",V.str "put",V.str "carry",V.str "put"]))
 have s2:=bP uG (.lst ([V.str "drop",V.str "look",V.str "put",V.str "cut",V.str "end",V.str "put",V.str "begin",V.str "carry"]))
 exact⟨fH,eU,_,_,rfl,rfl,s2 _ _ aQ,aQ,le_of_ble_eq_true rfl,fun cM ahH=>aV cM _ (s1.trans (s2.trans (bP ahH _))) aQ⟩
def B8:c3:=fun vs H Q _=>∃(cp dl:Addr) (ps:List Int) (room:Int) (us:List V) (aE:List b1),vs=[.ref cp,.int room,.ref dl]∧H cp=some (.lst (ps.map V.int))∧1≤ps.length∧ps.length≤100∧H dl=some (.lst us)∧bk H (aE.map b1.D) us∧aE.length≤110∧(∀e∈aE,oY e) ∧
 ∀(r:Addr) (bad:List Addr) (xs:List V) (ah:ao),bI H ah→H r=none→ah r=some (.lst xs)→iN ah bad ((c_ ps room).rows aE) xs→(∀v∈xs,∀b,v=V.ref b→H b=none∧b≠r)→Q (.ref r) ah
theorem wG:dk ["pages","room","deeds","house","strokes","deed","before"] lV (bF sA):=dM
theorem TA {a3 aD mu:Addr}{nc:FuncData}{m9:Addr}{qD:FuncData}(F:da K "strokes_of" "strokes_of" sA f fd) (B:ew ai) (T:hK K ai aD) (G9:sm K aD mu) (pJ:aU P w K ai base bf 3 mu nc oR (y1 a3 aD)) (se:Binds K nc oR [])
  (vA:aU P w K ai base bf 8 m9 qD gK (yM a3 aD)) (vq:Binds K qD gK []) (vd:keepIn K (.ref m9)=true) (d1:ai "answer"=some (.ref m9)):aU P w K ai base bf 9 f fd lV B8:=by
 refine F.ok wG (fun vs H Q E h=>?_) (fun b4 A outer s H vs Q E aC h=>?_)
 ·obtain⟨cp,dl,ps,room,us,aE,rfl,_⟩:=h
  rfl
 obtain⟨cp,dl,ps,room,us,aE,rfl,aI,dE,dU,qi,qb,afE,gp,q⟩:=h
 have nL:us.length=aE.length:=by rw[bk.length qb,length_map]
 refine⟨_,(bh (dm (i:=3) wG.bl rfl (Or.inl rfl) (C2 G9 pJ (b9 aC) rfl T.Al se .nil cP (aq (af 0) (aq (af 1) aK)))) (bh (dm (i:=4) wG.bl rfl (Or.inl rfl) (fl aK)) (bh (hA PassesOwn.never rfl (ks (af 2)) (fj (i:=5) wG.bl rfl (Or.inl rfl)) (bh (dm (i:=6) wG.bl rfl (Or.inl rfl) (dP e8 rfl B.len PySem.boot_len (aq (eZ (af 3) rfl) aK))) (bh (dz (dt vA (b9 aC) rfl d1 vd vq .nil cP (aq (af 3) (aq (af 5) aK)))) (aZ (dz (jx plainAttrs_list PySem.F.slot_list_append PySem.F.type_list_append jo (af 4) (aq (nv pP (eZ (af 3) rfl) (ny (af 6)) nA) aK))))))) (aZ (cF (af 4)))))),?_⟩
 refine⟨_,rfl,_,rfl,?_⟩
 intro h dx iY Ex agD
 have nh:bI H (upd (upd H dx (.own h)) h (.ins aD dx [])):=fun b o e=>by
  rw[aA (cD e iY),aA (cD e Ex)]
  exact e
 refine⟨h,dx,cp,ps,room,rfl,aQ,nh _ _ aI,fun a lo H1 aX bJ ro eo=>⟨rfl,?_⟩⟩
 subst aX
 have ng:bI H H1:=fun b o e=>eo b o (nh b o e) (cD e iY)
 have D4:∀b,b∈a.fo lo []→H b=none:=fun b aa=>by
  rcases ro b aa with z | z
  ·rw[z];exact iY
  ·exact nh.free z
 refine⟨cS,fun acc e1=>?_⟩
 have s2:=bP e1 (.lst [])
 have aN:(upd H1 acc (.lst [])) acc=some (.lst []):=aQ
 generalize upd H1 acc (.lst [])=au at s2 aN ⊢
 have zX:H acc=none:=ng.free e1
 have X_:∀b,b∈a.fo lo []→b≠acc:=fun b aa z=>bJ.some aa (by rw[z];exact e1)
 have bq:=bJ.same s2
 have gb:=ng.trans s2
 clear bJ ng eo ro nh s2
 refine⟨_,rfl,dl,rfl,⟨us,aR.of (gb _ _ qi)⟩,nx (K:=K) (a:=dl) (xs:=us) (fun i σ a9=>∃(lo:Addr) (pl:List (Int × Addr)) (aO:List (Key × V)) (xs:List V) (fa jM:Option V),σ=[some (.ref cp),some (.int room),some (.ref dl),some (.ref a.h),some (.ref acc),fa,jM]∧cG a3 aD a9 a lo pl ((c_ ps room).run (aE.take i)) aO∧aO.length≤i∧bI H a9∧(∀b,b∈a.fo lo pl→H b=none∧b≠acc)∧a9 acc=some (.lst xs)∧iN a9 (acc::a.fo lo pl) ((c_ ps room).rows (aE.take i)) xs∧(∀v∈xs,∀b,v=V.ref b→H b=none∧b≠acc)∧i≤aE.length)
  ⟨lo,[],[],[],none,none,rfl,bq,le_refl _,gb,fun b aa=>⟨D4 b aa,X_ b aa⟩,aN,.nil,(fun v br=>by cases br),zero_le _⟩ (fun i σ a9 _ ⟨_,_,_,_,_,_,_,_,_,gw,_⟩=>aR.of (gw _ _ qi)) ?_ ?_⟩
 ·rintro i v σ a9 br ⟨ll,rv,z0,xs,fa,jM,rfl,bX,t3,gw,o2,b2,ye,hh,aL⟩
  have jF:i<us.length:=(List.getElem?_eq_some_iff.mp br).1
  obtain⟨e,he,re⟩:=mB qb br
  have FA:=mem_of_getElem? he
  have a6:aE.take (i+1)=aE.take i++[e]:=by rw[take_add_one,he];rfl
  have lt:(aE.take i).length=i:=by rw[length_take];omega
  have hs:=(yW (room:=room) dE dU).run (aE.take i) (by omega)
  rw[lt,zero_add]at hs
  have nd:((c_ ps room).run (aE.take i)).begun≤900:=by
   have ay:=Cv (aE.take i) (c_ ps room)
   have aG:(c_ ps room).begun=0:=rfl
   omega
  have ahh:xs.length=i:=by rw[←ye.1,B_,lt]
  obtain⟨kI,bU⟩:=bX.bR
  obtain⟨p6,f1,f2⟩:=bX.fK
  have ahg:p6.length=((c_ ps room).run (aE.take i)).d8.length:=by rw[bk.length f2,length_map]
  refine⟨_,rfl,a.h,aD,kI,_,_,rfl,bU,T.cl,T.yV,Ck .., a.st,_,rfl,.inl (aR.of f1),?_⟩
  refine⟨_,rfl,_,rfl,a,ll,rv,_,z0,i,v,e,rfl,⟨bX,hs,by omega,by omega,nd⟩,Rep.mono gw _ _ re,gp e FA,fun mQ hl afG cO c9 m6 f7=>?_⟩
  have DZ:acc∉a.fo ll rv:=fun z=>(o2 acc z).2 rfl
  have cj:=f7.dQ acc _ DZ b2
  have hH:bI H cO:=fun b o e=>f7.dQ b o (fun z=>by rw[(o2 b z).1]at e;cases e) (gw b o e)
  have jG:∀b,b∈a.fo mQ hl→H b=none∧b≠acc:=fun b aa=>by
   rcases f7.new b aa with z | z
   ·exact o2 b z
   ·exact⟨gw.free z,fun y=>by rw[y,b2]at z;cases z⟩
  have ahp:el a9 cO:=fun b ys e=>f7.dQ b _ (bX.tW e) e
  have ald:iN cO (acc::a.fo mQ hl) ((c_ ps room).rows (aE.take i)) xs:=ye.move (fun b o aa e=>f7.dQ b o (fun z=>aa (mem_cons_of_mem _ z)) e) ahp fun b aa=>by
   rcases mem_cons.mp aa with z | z
   ·exact .inl (by rw[z];exact mem_cons_self)
   ·rcases f7.new b z with y | y
    ·exact .inl (mem_cons_of_mem _ y)
    ·exact .inr y
  obtain⟨aiD,fR⟩:=c9.bR
  obtain⟨uv,g1,g2⟩:=c9.fK
  refine⟨_,rfl,.inl ⟨rfl,_,aR.of cj⟩,_,rfl,a.h,aD,aiD,_,_,rfl,fR,T.cl,T.yV,Ck .., _,rfl,_,rfl,a.st,uv,rfl,aR.of g1,fun u kD=>?_⟩
  rw[s7]at *
  have s5:=bP kD (.lst (uv.drop p6.length))
  have fe:(upd cO u (.lst (uv.drop p6.length))) u=some (.lst (uv.drop p6.length)):=aQ
  have qv:u∉a.fo mQ hl:=fun z=>c9.some z kD
  generalize upd cO u (.lst (uv.drop p6.length))=d4 at s5 fe ⊢
  have MC:u≠acc:=(cD cj kD).symm
  have fu:=c9.same s5
  have alc:=ald.same s5
  have pd:bk d4 ((((c_ ps room).run (aE.take i)).row e).map bO.D) (uv.drop p6.length):=by
   have ay:=Iq (n:=p6.length) (bk.mono s5 _ _ g2)
   rw[←List.map_drop,HH]at ay
   have e0:(((c_ ps room).run (aE.take i)).d8++((c_ ps room).run (aE.take i)).row e).drop p6.length=((c_ ps room).run (aE.take i)).row e:=by rw[ahg,List.drop_left]
   rw[e0]at ay
   exact ay
  have alb:=alc.snoc (b:=u) (fun z=>by
   rcases mem_cons.mp z with y | y
   ·exact MC y
   ·exact qv y) fe pd
  have Et:acc∉a.fo mQ hl:=fun z=>(jG acc z).2 rfl
  have pB:=s5 _ _ cj
  have aho:el d4 (upd d4 acc (.lst (xs++[.ref u]))):=fun b ys e=>by
   rw[aA (dK e pB (fun z=>nomatch z))]
   exact e
  refine⟨acc,xs,.ref u,rfl,rfl,pB,qW (by omega),mQ,hl,afG,xs++[.ref u],_,_,rfl,?_,by omega,(hH.trans s5).kr zX,jG,aQ,?_,fun w hw b dT=>?_,by omega⟩
  ·rw[a6,yO]
   exact fu.IK Et pB
  ·rw[a6,Im]
   refine alb.move (fun b o aa e=>?_) aho fun b aa=>.inl aa
   rw[aA (fun z=>aa (by rw[z];exact mem_cons_self))]
   exact e
  ·rcases mem_append.mp hw with z | z
   ·exact hh w z b dT
   ·rw[mem_singleton.mp z]at dT
    cases dT
    exact⟨hH.free kD,MC⟩
 ·rintro σ a9 ⟨ll,rv,z0,xs,fa,jM,rfl,bX,t3,gw,o2,b2,ye,hh,aL⟩
  rw[nL,take_length]at ye
  exact⟨_,rfl,q acc _ xs a9 gw zX b2 ye hh⟩
def oL (c:Nat):bO→Prop
 | .line ln=>ln.ok c
 | .eO p _=>p<c
 | .cut k=>0<k
def Cw:c3:=fun vs H Q _=>∃(v:V) (ln:dg) (c:Nat),vs=[v,.int (c:Nat)]∧kB H ln v∧ln.ok c∧∀ah,bI H ah→Q (.bV true) ah
def Ci:c3:=fun vs H Q _=>∃(v:V) (s:bO) (c:Nat),vs=[v,.int (c:Nat)]∧Rep H s.D v∧oL c s∧∀ah,bI H ah→Q (.bV true) ah
def DE:c3:=fun vs H Q _=>∃(a:Addr) (zs:List V) (l:List bO) (c:Nat),vs=[.ref a,.int (c:Nat)]∧H a=some (.lst zs)∧bk H (l.map bO.D) zs∧(∀s∈l,oL c s)∧∀ah,bI H ah→Q (.bV true) ah
theorem JW {X:bE}{a b c:Expr}{c1 dG n4:TT}{pos:Pos}(aX:g4 X a c1) (aa:g4 X b dG) (aj:g4 X c n4):g4 X (.BoolOp .Or [a,b,c] pos) (z2 c1 (z2 dG n4)):=(pw_or aX (pw_or aa (pw_or1 aj))).pt
theorem yU {us:List V}{ms:List Int}(e:us=ms.map V.int) {i:Nat}{x:V}(h:us[i]?=some x):∃m,x=.int m:=by
 subst e
 obtain⟨z,rfl,_⟩:=Cc h
 exact⟨z,rfl⟩
theorem I1:dk Ld iQ (bF sS):=dM
theorem UH {jj:Addr}{kP:FuncData}(F:da K "_law_is_line" "_law_is_line" sS f fd) (B:ew ai) (nj:aU P w K ai base bf 1 jj kP mI vY) (nf:Binds K kP mI []) (r5:keepIn K (.ref jj)=true) (m5:ai "_law_whole"=some (.ref jj)) :
  aU P w K ai base bf 2 f fd iQ Cw:=by
 refine F.ok I1 (fun vs H Q E h=>?_) (fun b4 A outer s H vs Q E aC h=>?_)
 ·obtain⟨v,ln,c,rfl,_⟩:=h
  rfl
 obtain⟨v,ln,c,rfl,jb,bD,q⟩:=h
 refine⟨_,(bh (b_ (JW (hM (gy (dP jt rfl B.i_ i6 (aq (af 0) (aq (iL (v:=.ty "tuple") rfl B.tup wu rfl) aK))))) (cn pW (dP e8 rfl B.len PySem.boot_len (aq (af 0) aK)) aW (bY _)) (hM (gy (dP jt rfl B.i_ i6 (aq (bA bZ (af 0) aW (fun _ _=>rfl)) (aq (iL (v:=.ty "str") rfl B.str wN rfl) aK)))))) (aZ (cF fF)) cZ) (bh (hA PassesOwn.never rfl (JX (nv JR (af 0) (ny aW) nA)) (fj (i:=2) I1.bl rfl (Or.inl rfl)) (aZ (b_ (hM (gy (dt nj (b9 aC) rfl m5 r5 nf .nil cP (aq (af 2) aK)))) (aZ (cF fF)) cZ))) (bh (b_ (cn dv (bA bZ (af 0) aW (fun _ _=>rfl)) bw (bY _)) (aZ (cF (hx dv (dP e8 rfl B.len PySem.boot_len (aq (af 0) aK)) aW (bY _)))) cZ) (aZ (cF (nB (hx dv (bA bZ (af 0) aW (fun _ _=>rfl)) bw (bY _)) (nB (hx dv (dP e8 rfl B.len PySem.boot_len (aq (af 0) aK)) aW (bY _)) (nB (hx zD (bA bZ (af 0) aW (fun _ _=>rfl)) aW (bY _)) (tA (hx pW (bA bZ (af 0) aW (fun _ _=>rfl)) (af 1) (bY _))))))))))),?_⟩
 cases ln with
 | fin d =>
  obtain⟨t,rfl,a6⟩:=jb
  refine⟨_,rfl,_,_,_,_,rfl,.tup a6,qJ K,_,rfl,cU ?_⟩
  refine⟨_,rfl,t,_,rfl,.inr (aF.of a6),_,_,rfl,rfl,_,rfl,bx (show ¬((2:Nat):Int)<2 by decide) ?_⟩
  refine⟨_,rfl,t,_,_,_,rfl,rfl,aF.of a6,rfl,_,_,_,_,rfl,.str _,oB K,_,rfl,cU ?_⟩
  refine⟨_,rfl,_,rfl,t,_,rfl,aF.of a6,(fun z=>nomatch (show (1:Nat)=0 from z.1)),fun u a7=>?_⟩
  have s1:=bP a7 (.tup (eS [.str "end",.int d] (some 1) none))
  have aJ:(upd H u (.tup (eS [.str "end",.int d] (some 1) none))) u=some (.tup (([d]:List Int).map V.int)):=by
   rw[aQ]
   rfl
  generalize upd H u (.tup (eS [.str "end",.int d] (some 1) none))=H1 at s1 aJ ⊢
  refine⟨u,rfl,⟨_,aF.of aJ⟩,zb (K:=K) (a:=u) (xs:=([d]:List Int).map V.int) (fun i σ au=>∃o:Option V,σ=[some (.ref t),some (.int (c:Nat)),o]∧H1=au)
   ⟨none,rfl,rfl⟩ (fun i σ au _ ⟨_,_,e⟩=>by rw[←e];exact aF.of aJ) ?_ ?_⟩
  ·rintro i x σ au aL ⟨o,rfl,rfl⟩
   obtain⟨m,rfl⟩:=yU rfl aL
   refine⟨_,rfl,m,rfl,_,rfl,cU ?_⟩
   exact⟨_,rfl,rfl⟩
  rintro σ au ⟨o,rfl,rfl⟩
  have a6:=s1 _ _ a6
  refine⟨_,rfl,t,_,_,_,rfl,rfl,aF.of a6,rfl,rfl,_,rfl,dS rfl ?_⟩
  exact⟨_,rfl,t,_,rfl,.inr (aF.of a6),rfl,q _ s1⟩
 | put d p o n =>
  obtain⟨t,rfl,a6⟩:=jb
  refine⟨_,rfl,_,_,_,_,rfl,.tup a6,qJ K,_,rfl,cU ?_⟩
  refine⟨_,rfl,t,_,rfl,.inr (aF.of a6),_,_,rfl,rfl,_,rfl,bx (show ¬((5:Nat):Int)<2 by decide) ?_⟩
  refine⟨_,rfl,t,_,_,_,rfl,rfl,aF.of a6,rfl,_,_,_,_,rfl,.str _,oB K,_,rfl,cU ?_⟩
  refine⟨_,rfl,_,rfl,t,_,rfl,aF.of a6,(fun z=>nomatch (show (1:Nat)=0 from z.1)),fun u a7=>?_⟩
  have s1:=bP a7 (.tup (eS [.str "put",.int d,.int (p:Nat),.int o,.int n] (some 1) none))
  have aJ:(upd H u (.tup (eS [.str "put",.int d,.int (p:Nat),.int o,.int n] (some 1) none))) u=some (.tup (([d,(p:Nat),o,n]:List Int).map V.int)):=by
   rw[aQ]
   rfl
  generalize upd H u (.tup (eS [.str "put",.int d,.int (p:Nat),.int o,.int n] (some 1) none))=H1 at s1 aJ ⊢
  refine⟨u,rfl,⟨_,aF.of aJ⟩,zb (K:=K) (a:=u) (xs:=([d,(p:Nat),o,n]:List Int).map V.int) (fun i σ au=>∃o:Option V,σ=[some (.ref t),some (.int (c:Nat)),o]∧H1=au)
   ⟨none,rfl,rfl⟩ (fun i σ au _ ⟨_,_,e⟩=>by rw[←e];exact aF.of aJ) ?_ ?_⟩
  ·rintro i x σ au aL ⟨o,rfl,rfl⟩
   obtain⟨m,rfl⟩:=yU rfl aL
   refine⟨_,rfl,m,rfl,_,rfl,cU ?_⟩
   exact⟨_,rfl,rfl⟩
  rintro σ au ⟨o,rfl,rfl⟩
  have a6:=s1 _ _ a6
  have aI:p<c:=bD
  refine⟨_,rfl,t,_,_,_,rfl,rfl,aF.of a6,rfl,rfl,_,rfl,bx Yo ?_⟩
  refine⟨_,rfl,t,_,_,_,rfl,rfl,aF.of a6,rfl,rfl,_,rfl,dS rfl ?_⟩
  refine⟨_,rfl,t,_,rfl,.inr (aF.of a6),rfl,_,rfl,dS rfl ?_⟩
  refine⟨_,rfl,t,_,_,_,rfl,rfl,aF.of a6,rfl,_,_,rfl,rfl,_,rfl,dS (by omega) ?_⟩
  refine⟨_,rfl,t,_,_,_,rfl,rfl,aF.of a6,rfl,_,rfl,_,_,rfl,rfl,?_⟩
  show Q (V.bV (decide (((p:Nat):Int)<((c:Nat):Int)))) _
  rw[decide_eq_true (by omega:((p:Nat):Int)<((c:Nat):Int))]
  exact q _ s1
theorem HW:dk Ld iQ (bF sE):=dM
theorem TP {jj oc:Addr}{kP dL:FuncData}(F:da K "_law_is_stroke" "_law_is_stroke" sE f fd) (B:ew ai) (nj:aU P w K ai base bf 1 jj kP mI vY) (nf:Binds K kP mI []) (r5:keepIn K (.ref jj)=true) (m5:ai "_law_whole"=some (.ref jj))
  (sr:aU P w K ai base bf 2 oc dL iQ Cw) (sd:Binds K dL iQ []) (xW:keepIn K (.ref oc)=true) (r3:ai "_law_is_line"=some (.ref oc)) :
  aU P w K ai base bf 3 f fd iQ Ci:=by
 refine F.ok HW (fun vs H Q E h=>?_) (fun b4 A outer s H vs Q E aC h=>?_)
 ·obtain⟨v,s,c,rfl,_⟩:=h
  rfl
 obtain⟨v,c2,c,rfl,bp,bD,q⟩:=h
 refine⟨_,(bh (b_ (JW (hM (gy (dP jt rfl B.i_ i6 (aq (af 0) (aq (iL (v:=.ty "tuple") rfl B.tup wu rfl) aK))))) (cn pW (dP e8 rfl B.len PySem.boot_len (aq (af 0) aK)) aW (bY _)) (hM (gy (dP jt rfl B.i_ i6 (aq (bA bZ (af 0) aW (fun _ _=>rfl)) (aq (iL (v:=.ty "str") rfl B.str wN rfl) aK)))))) (aZ (cF fF)) cZ) (bh (b_ (cn dv (bA bZ (af 0) aW (fun _ _=>rfl)) bw (bY _)) (aZ (cF (nB (hx dv (dP e8 rfl B.len PySem.boot_len (aq (af 0) aK)) aW (bY _)) (tA (dt sr (b9 aC) rfl r3 xW sd .nil cP (aq (bA bZ (af 0) aW (fun _ _=>rfl)) (aq (af 1) aK))))))) cZ) (bh (hA PassesOwn.never rfl (JX (nv JR (af 0) (ny aW) nA)) (fj (i:=2) HW.bl rfl (Or.inl rfl)) (aZ (b_ (hM (gy (dt nj (b9 aC) rfl m5 r5 nf .nil cP (aq (af 2) aK)))) (aZ (cF fF)) cZ))) (bh (b_ (cn dv (bA bZ (af 0) aW (fun _ _=>rfl)) bw (bY _)) (aZ (cF (nB (hx dv (dP e8 rfl B.len PySem.boot_len (aq (af 0) aK)) aW (bY _)) (tA (hx pX (bA bZ (af 0) aW (fun _ _=>rfl)) aW (bY _)))))) cZ) (aZ (cF (nB (hx dv (bA bZ (af 0) aW (fun _ _=>rfl)) bw (bY _)) (nB (hx dv (dP e8 rfl B.len PySem.boot_len (aq (af 0) aK)) aW (bY _)) (nB (hx zD (bA bZ (af 0) aW (fun _ _=>rfl)) aW (bY _)) (tA (hx pW (bA bZ (af 0) aW (fun _ _=>rfl)) (af 1) (bY _)))))))))))),?_⟩
 cases c2 with
 | line ln =>
  obtain⟨t,b6,ck,rfl,a6,a4,bH⟩:=er bp
  cases a4.str_inv
  refine⟨_,rfl,_,_,_,_,rfl,.tup a6,qJ K,_,rfl,cU ?_⟩
  refine⟨_,rfl,t,_,rfl,.inr (aF.of a6),_,_,rfl,rfl,_,rfl,bx (show ¬((2:Nat):Int)<2 by decide) ?_⟩
  refine⟨_,rfl,t,_,_,_,rfl,rfl,aF.of a6,rfl,_,_,_,_,rfl,.str _,oB K,_,rfl,cU ?_⟩
  refine⟨_,rfl,t,_,_,_,rfl,rfl,aF.of a6,rfl,rfl,_,rfl,dS rfl ?_⟩
  refine⟨_,rfl,t,_,rfl,.inr (aF.of a6),rfl,_,rfl,dS rfl ?_⟩
  exact⟨_,rfl,t,_,_,_,rfl,rfl,aF.of a6,rfl,_,rfl,ck,ln,c,rfl,kB.zE bH,bD,fun ah aM=>q ah aM⟩
 | eO p n =>
  obtain⟨t,b6,ck,j8,rfl,a6,a4,bH,hq⟩:=yP bp
  cases a4.str_inv
  cases bH.int_inv
  cases hq.int_inv
  refine⟨_,rfl,_,_,_,_,rfl,.tup a6,qJ K,_,rfl,cU ?_⟩
  refine⟨_,rfl,t,_,rfl,.inr (aF.of a6),_,_,rfl,rfl,_,rfl,bx (show ¬((3:Nat):Int)<2 by decide) ?_⟩
  refine⟨_,rfl,t,_,_,_,rfl,rfl,aF.of a6,rfl,_,_,_,_,rfl,.str _,oB K,_,rfl,cU ?_⟩
  refine⟨_,rfl,t,_,_,_,rfl,rfl,aF.of a6,rfl,rfl,_,rfl,bx zB ?_⟩
  refine⟨_,rfl,_,rfl,t,_,rfl,aF.of a6,(fun z=>nomatch (show (1:Nat)=0 from z.1)),fun u a7=>?_⟩
  have s1:=bP a7 (.tup (eS [.str "page",.int (p:Nat),.int n] (some 1) none))
  have aJ:(upd H u (.tup (eS [.str "page",.int (p:Nat),.int n] (some 1) none))) u=some (.tup (([(p:Nat),n]:List Int).map V.int)):=by
   rw[aQ]
   rfl
  generalize upd H u (.tup (eS [.str "page",.int (p:Nat),.int n] (some 1) none))=H1 at s1 aJ ⊢
  refine⟨u,rfl,⟨_,aF.of aJ⟩,zb (K:=K) (a:=u) (xs:=([(p:Nat),n]:List Int).map V.int) (fun i σ au=>∃o:Option V,σ=[some (.ref t),some (.int (c:Nat)),o]∧H1=au)
   ⟨none,rfl,rfl⟩ (fun i σ au _ ⟨_,_,e⟩=>by rw[←e];exact aF.of aJ) ?_ ?_⟩
  ·rintro i x σ au aL ⟨o,rfl,rfl⟩
   obtain⟨m,rfl⟩:=yU rfl aL
   refine⟨_,rfl,m,rfl,_,rfl,cU ?_⟩
   exact⟨_,rfl,rfl⟩
  rintro σ au ⟨o,rfl,rfl⟩
  have a6:=s1 _ _ a6
  have aI:p<c:=bD
  refine⟨_,rfl,t,_,_,_,rfl,rfl,aF.of a6,rfl,rfl,_,rfl,bx DG ?_⟩
  refine⟨_,rfl,t,_,_,_,rfl,rfl,aF.of a6,rfl,rfl,_,rfl,dS rfl ?_⟩
  refine⟨_,rfl,t,_,rfl,.inr (aF.of a6),rfl,_,rfl,dS rfl ?_⟩
  refine⟨_,rfl,t,_,_,_,rfl,rfl,aF.of a6,rfl,_,_,rfl,rfl,_,rfl,dS (by omega) ?_⟩
  refine⟨_,rfl,t,_,_,_,rfl,rfl,aF.of a6,rfl,_,rfl,_,_,rfl,rfl,?_⟩
  show Q (V.bV (decide (((p:Nat):Int)<((c:Nat):Int)))) _
  rw[decide_eq_true (by omega:((p:Nat):Int)<((c:Nat):Int))]
  exact q _ s1
 | cut k =>
  obtain⟨t,b6,ck,rfl,a6,a4,bH⟩:=er bp
  cases a4.str_inv
  cases bH.int_inv
  refine⟨_,rfl,_,_,_,_,rfl,.tup a6,qJ K,_,rfl,cU ?_⟩
  refine⟨_,rfl,t,_,rfl,.inr (aF.of a6),_,_,rfl,rfl,_,rfl,bx (show ¬((2:Nat):Int)<2 by decide) ?_⟩
  refine⟨_,rfl,t,_,_,_,rfl,rfl,aF.of a6,rfl,_,_,_,_,rfl,.str _,oB K,_,rfl,cU ?_⟩
  refine⟨_,rfl,t,_,_,_,rfl,rfl,aF.of a6,rfl,rfl,_,rfl,bx zJ ?_⟩
  refine⟨_,rfl,_,rfl,t,_,rfl,aF.of a6,(fun z=>nomatch (show (1:Nat)=0 from z.1)),fun u a7=>?_⟩
  have s1:=bP a7 (.tup (eS [.str "cut",.int (k:Nat)] (some 1) none))
  have aJ:(upd H u (.tup (eS [.str "cut",.int (k:Nat)] (some 1) none))) u=some (.tup (([(k:Nat)]:List Int).map V.int)):=by
   rw[aQ]
   rfl
  generalize upd H u (.tup (eS [.str "cut",.int (k:Nat)] (some 1) none))=H1 at s1 aJ ⊢
  refine⟨u,rfl,⟨_,aF.of aJ⟩,zb (K:=K) (a:=u) (xs:=([(k:Nat)]:List Int).map V.int) (fun i σ au=>∃o:Option V,σ=[some (.ref t),some (.int (c:Nat)),o]∧H1=au)
   ⟨none,rfl,rfl⟩ (fun i σ au _ ⟨_,_,e⟩=>by rw[←e];exact aF.of aJ) ?_ ?_⟩
  ·rintro i x σ au aL ⟨o,rfl,rfl⟩
   obtain⟨m,rfl⟩:=yU rfl aL
   refine⟨_,rfl,m,rfl,_,rfl,cU ?_⟩
   exact⟨_,rfl,rfl⟩
  rintro σ au ⟨o,rfl,rfl⟩
  have a6:=s1 _ _ a6
  have a8:0<k:=bD
  refine⟨_,rfl,t,_,_,_,rfl,rfl,aF.of a6,rfl,rfl,_,rfl,dS rfl ?_⟩
  refine⟨_,rfl,t,_,rfl,.inr (aF.of a6),rfl,_,rfl,dS rfl ?_⟩
  refine⟨_,rfl,t,_,_,_,rfl,rfl,aF.of a6,rfl,_,_,rfl,rfl,?_⟩
  show Q (V.bV (decide ((0:Int)<((k:Nat):Int)))) _
  rw[decide_eq_true (by omega:(0:Int)<((k:Nat):Int))]
  exact q _ s1
theorem Kf:dk ["_law_found","_law_count","_law_stroke"] iQ (bF t7):=dM
theorem Js {H:ao}:∀{l:List bO}{zs:List V}{i:Nat}{x:V},bk H (l.map bO.D) zs→zs[i]?=some x→∃s,s∈l∧Rep H s.D x
 | [],zs,i,x,h,e=>by rw[bk.lX h]at e;cases e
 | s::r,zs,i,x,h,e=>by
  obtain⟨y,t,rfl,ay,aG⟩:=bk.inv h
  cases i with
  | zero=>cases e;exact⟨s,mem_cons_self,ay⟩
  | succ i =>
   obtain⟨aM,hm,aC⟩:=Js aG e
   exact⟨aM,mem_cons_of_mem _ hm,aC⟩
theorem Xh {fc:Addr}{f9:FuncData}(F:da K "_law_are_strokes" "_law_are_strokes" t7 f fd) (B:ew ai) (iK:aU P w K ai base bf 3 fc f9 iQ Ci) (iF:Binds K f9 iQ []) (m7:keepIn K (.ref fc)=true) (iz:ai "_law_is_stroke"=some (.ref fc)) :
  aU P w K ai base bf 4 f fd iQ DE:=by
 refine F.ok Kf (fun vs H Q E h=>?_) (fun b4 A outer s H vs Q E aC h=>?_)
 ·obtain⟨a,zs,l,c,rfl,_⟩:=h
  rfl
 obtain⟨a,zs,l,c,rfl,aX,jf,hf,q⟩:=h
 refine⟨_,(bh (b_ (hM (gy (dP jt rfl B.i_ i6 (aq (af 0) (aq (iL (v:=.ty "list") rfl B.lst ic rfl) aK))))) (aZ (cF fF)) cZ) (bh (hA PassesOwn.never rfl (ks (af 0)) (fj (i:=2) Kf.bl rfl (Or.inl rfl)) (aZ (b_ (hM (gy (dt iK (b9 aC) rfl iz m7 iF .nil cP (aq (af 2) (aq (af 1) aK))))) (aZ (cF fF)) cZ))) (aZ (cF fF)))),?_⟩
 refine⟨_,rfl,_,_,_,_,rfl,.lst aX,vC K,_,rfl,cU ?_⟩
 refine⟨_,rfl,a,rfl,⟨zs,aR.of aX⟩,nx (K:=K) (a:=a) (xs:=zs) (fun i σ au=>∃o:Option V,σ=[some (.ref a),some (.int (c:Nat)),o]∧bI H au)
  ⟨none,rfl,bI.refl H⟩ (fun i σ au _ ⟨_,_,s2⟩=>aR.of (s2 _ _ aX)) ?_ ?_⟩
 ·rintro i x σ au aL ⟨o,rfl,s2⟩
  obtain⟨c2,hm,mR⟩:=Js jf aL
  refine⟨_,rfl,_,rfl,x,c2,c,rfl,Rep.mono s2 _ _ mR,hf c2 hm,fun a9 s3=>⟨_,rfl,cU ?_⟩⟩
  exact⟨_,rfl,s2.trans s3⟩
 ·rintro σ au ⟨o,rfl,s2⟩
  exact q au s2
def De:c3:=fun vs H Q _=>∃(a:Addr) (bad:List Addr) (xs:List V) (rows:List (List bO)) (c:Nat),vs=[.ref a,.int (c:Nat),.int (rows.length:Nat)]∧H a=some (.lst xs)∧iN H bad rows xs∧(∀row∈rows,∀s∈row,oL c s)∧∀ah,bI H ah→Q (.bV true) ah
theorem JS:dk ["_law_found","_law_count","_law_many","_law_row"] uc (bF tD):=dM
theorem Wk {fc:Addr}{f9:FuncData}(F:da K "_law_are_rows" "_law_are_rows" tD f fd) (B:ew ai) (iK:aU P w K ai base bf 4 fc f9 iQ DE) (iF:Binds K f9 iQ []) (m7:keepIn K (.ref fc)=true) (iz:ai "_law_are_strokes"=some (.ref fc)) :
  aU P w K ai base bf 5 f fd uc De:=by
 refine F.ok JS (fun vs H Q E h=>?_) (fun b4 A outer s H vs Q E aC h=>?_)
 ·obtain⟨a,bad,xs,rows,c,rfl,_⟩:=h
  rfl
 obtain⟨a,bad,xs,rows,c,rfl,aX,jf,hf,q⟩:=h
 refine⟨_,(bh (b_ (lQ (hM (gy (dP jt rfl B.i_ i6 (aq (af 0) (aq (iL (v:=.ty "list") rfl B.lst ic rfl) aK))))) (cn i5 (dP e8 rfl B.len PySem.boot_len (aq (af 0) aK)) (af 2) (bY _))) (aZ (cF fF)) cZ) (bh (hA PassesOwn.never rfl (ks (af 0)) (fj (i:=3) JS.bl rfl (Or.inl rfl)) (aZ (b_ (hM (gy (dt iK (b9 aC) rfl iz m7 iF .nil cP (aq (af 3) (aq (af 1) aK))))) (aZ (cF fF)) cZ))) (aZ (cF fF)))),?_⟩
 have kM:=jf.1
 refine⟨_,rfl,_,_,_,_,rfl,.lst aX,vC K,_,rfl,cU ?_⟩
 refine⟨_,rfl,a,_,rfl,.inl (aR.of aX),_,rfl,rfl,_,rfl,?_⟩
 have e0:(!decide (V.int (xs.length:Int)=V.int (rows.length:Int)))=false:=by rw[kM];simp
 rw[e0]
 refine cU ?_
 refine⟨_,rfl,a,rfl,⟨xs,aR.of aX⟩,nx (K:=K) (a:=a) (xs:=xs) (fun i σ au=>∃o:Option V,σ=[some (.ref a),some (.int (c:Nat)),some (.int (rows.length:Nat)),o]∧bI H au)
  ⟨none,rfl,bI.refl H⟩ (fun i σ au _ ⟨_,_,s2⟩=>aR.of (s2 _ _ aX)) ?_ ?_⟩
 ·rintro i x σ au aL ⟨o,rfl,s2⟩
  obtain⟨row,ac0,b,zs,rfl,_,hz,mR⟩:=jf.get aL
  refine⟨_,rfl,_,rfl,b,zs,row,c,rfl,s2 _ _ hz,bk.mono s2 _ _ mR,hf row (mem_of_getElem? ac0),fun a9 s3=>⟨_,rfl,cU ?_⟩⟩
  exact⟨_,rfl,s2.trans s3⟩
 ·rintro σ au ⟨o,rfl,s2⟩
  exact q au s2
def zc:c3:=fun vs H Q _=>∃(p l:Addr) (v:V) (cs:List Int) (xs:List V) (log:List dg) (s:bO),vs=[.ref p,.ref l,v]∧H p=some (.lst (cs.map V.int))∧H l=some (.lst xs)∧gj H log xs∧Rep H s.D v∧oL cs.length s∧cs.length≤1000∧log.length≤100000 ∧
 ∀(r ec h1:Addr) (ys:List V) (ah:ao),bI H ah→ah r=some (.tup [.ref ec,.ref h1])→ah ec=some (.lst ((s.nY cs).map V.int))→ah h1=some (.lst ys)→gj ah (s.j2 log) ys→(ec=p∨H ec=none)→(h1=l∨H h1=none)→Q (.ref r) ah
def Df:c3:=fun vs H Q _=>∃(p l b:Addr) (cs:List Int) (xs zs:List V) (log:List dg) (row:List bO),vs=[.ref p,.ref l,.ref b]∧H p=some (.lst (cs.map V.int))∧H l=some (.lst xs)∧gj H log xs∧H b=some (.lst zs)∧bk H (row.map bO.D) zs∧(∀s∈row,oL cs.length s)∧cs.length≤1000∧log.length+row.length≤100000 ∧
 ∀(r ec h1:Addr) (ys:List V) (ah:ao),bI H ah→ah r=some (.tup [.ref ec,.ref h1])→ah ec=some (.lst ((row.foldl bO.nY cs).map V.int))→ah h1=some (.lst ys)→gj ah (row.foldl bO.j2 log) ys→(ec=p∨H ec=none)→(h1=l∨H h1=none)→Q (.ref r) ah
def CP:c3:=fun vs H Q _=>∃(p l b:Addr) (cs:List Int) (xs zs:List V) (log:List dg) (row:List bO) (room:Int),vs=[.ref p,.ref l,.ref b,.int room]∧H p=some (.lst (cs.map V.int))∧H l=some (.lst xs)∧gj H log xs∧H b=some (.lst zs)∧bk H (row.map bO.D) zs∧(∀s∈row,oL cs.length s)∧cs.length≤1000∧log.length+row.length≤100000∧(∀i,(((row.take i).foldl bO.j2 log).length:Int)≤room) ∧
 ∀ah,bI H ah→Q (.bV true) ah
def Dh:c3:=fun vs H Q _=>∃(v:V) (e:b1),vs=[v]∧Rep H e.D v∧∀m:Int,m=more e→Q (.int m) H
def DD:c3:=fun vs H Q _=>∃(h ce ak lo pu st:Addr) (pl:List (Int × Addr)) (x:av) (v:V) (e:b1) (n:Nat),vs=[.ref pu,.ref ak,v,.int (x.begun:Nat)]∧d_ H h ce ak lo pu st pl x∧Rep H e.D v∧x.refusal e=none∧x.good n∧n≤110 ∧
 ∀g8 ah,d_ ah h ce ak lo pu st g8 (x.qn e)→gq (ie ak pu pl) H ah→(∀b∈ie ak pu g8,b∈ie ak pu pl∨H b=none)→Q .cE ah
theorem WH (s:bO) (cs:List Int):(s.nY cs).length=cs.length:=by
 cases s with
 | eO p n=>exact length_set
 | line _=>rfl
 | cut _=>rfl
theorem vX:∀(l:List bO) (cs:List Int),(l.foldl bO.nY cs).length=cs.length
 | [],_=>rfl
 | s::l,cs=>by
  rw[foldl_cons,vX,WH]
theorem Wv (s:bO) (l:List dg):(s.j2 l).length≤l.length+1:=by
 cases s with
 | eO p n=>exact le_succ _
 | line _=>show (l++[_]).length≤_;rw[length_append];exact le_refl _
 | cut k=>show (l.drop k).length≤_;rw[length_drop];omega
theorem CE:∀(l:List bO) (g:List dg),(l.foldl bO.j2 g).length≤g.length+l.length
 | [],_=>le_refl _
 | s::l,g=>by
  rw[foldl_cons,length_cons]
  have ay:=CE l (s.j2 g)
  have aG:=Wv s g
  omega
theorem Ux {ps:List V}{j:Nat}{v:V}(h:j<ps.length):(eS ps none (some (j:Int))++[v])++eS ps (some ((j:Int)+1)) none=ps.set j v:=by
 rw[Ui (by omega) (by omega),Uh (by omega) (by omega),List.set_eq_take_append_cons_drop,if_pos h]
 have e:((j:Int)+1).toNat=j+1:=by omega
 rw[e,Int.toNat_natCast,List.append_assoc]
 rfl
theorem XS:dk oQ oQ (bF t2):=dM
theorem Xc  (F:da K "_law_one_stroke" "_law_one_stroke" t2 f fd)  : aU P w K ai base bf 1 f fd oQ zc:=by
 refine F.ok XS (fun vs H Q E h=>?_) (fun b4 A outer s H vs Q E aC h=>?_)
 ·obtain⟨p,l,v,cs,xs,log,s,rfl,_⟩:=h
  rfl
 obtain⟨p,l,v,cs,xs,log,c2,rfl,aI,az,jg,bp,hf,xJ,qq,q⟩:=h
 refine⟨_,(bh (b_ (cn dv (bA bZ (af 2) aW (fun _ _=>rfl)) bw (bY _)) (aZ (cF (gz (aq (af 0) (aq (c0 tB (af 1) (fl (aq (bA bZ (af 2) aW (fun _ _=>rfl)) aK))) aK))))) cZ) (bh (b_ (cn dv (bA bZ (af 2) aW (fun _ _=>rfl)) bw (bY _)) (aZ (cF (gz (aq (af 0) (aq (nv pP (af 1) (ny (bA bZ (af 2) aW (fun _ _=>rfl))) nA) aK))))) cZ) (aZ (cF (gz (aq (c0 tB (c0 tB (nv pP (af 0) nA (ny (bA bZ (af 2) aW (fun _ _=>rfl)))) (fl (aq (bA bZ (af 2) aW (fun _ _=>rfl)) aK))) (nv pP (af 0) (ny (c0 gJ (bA bZ (af 2) aW (fun _ _=>rfl)) aW)) nA)) (aq (af 1) aK))))))),?_⟩
 have kM:log.length=xs.length:=jg.1
 have lc:(cs.map V.int).length=cs.length:=length_map _
 cases c2 with
 | line ln =>
  obtain⟨c,b6,ck,rfl,aj,a4,bH⟩:=er bp
  cases a4.str_inv
  refine⟨_,rfl,c,_,_,_,rfl,rfl,aF.of aj,rfl,rfl,_,rfl,dS rfl ?_⟩
  refine⟨_,rfl,_,rfl,_,rfl,c,_,_,_,rfl,rfl,aF.of aj,rfl,cS,fun t a6=>?_⟩
  have s1:bI H (upd H t (.lst [ck])):=bP a6 _
  refine⟨l,t,xs,[ck],rfl,rfl,s1 _ _ az,aQ,le_of_lt (ia (by rw[length_singleton];omega)),fun u a7=>⟨cS,fun r ir=>?_⟩⟩
  have s2:=s1.trans (bP a7 (.lst (xs++[ck])))
  have s3:=s2.trans (bP ir (.tup [.ref p,.ref u]))
  exact q r p u (xs++[ck]) _ s3 aQ (s3 _ _ aI) (by rw[aA (cD aQ ir),aQ]) (gU.snoc (jg.mono fun a y q=>q.mono s3.et) ((kB.zE bH).mono s3.et)) (.inl rfl) (.inr (s1.free a7))
 | cut k =>
  obtain⟨c,b6,ck,rfl,aj,a4,bH⟩:=er bp
  cases a4.str_inv
  cases bH.int_inv
  refine⟨_,rfl,c,_,_,_,rfl,rfl,aF.of aj,rfl,rfl,_,rfl,bx zJ ?_⟩
  refine⟨_,rfl,c,_,_,_,rfl,rfl,aF.of aj,rfl,rfl,_,rfl,dS rfl ?_⟩
  refine⟨_,rfl,_,rfl,_,rfl,c,_,_,_,rfl,rfl,aF.of aj,rfl,_,rfl,l,xs,rfl,aR.of az,fun u a7=>?_⟩
  rw[s7]at *
  refine⟨cS,fun r ir=>?_⟩
  have s2:=bP a7 (.lst (xs.drop k))
  have s3:=s2.trans (bP ir (.tup [.ref p,.ref u]))
  exact q r p u (xs.drop k) _ s3 aQ (s3 _ _ aI) (by rw[aA (cD aQ ir),aQ]) ((jg.mono fun a y q=>q.mono s3.et).drop k) (.inl rfl) (.inr a7)
 | eO j n =>
  obtain⟨c,b6,ck,j8,rfl,aj,a4,bH,hq⟩:=yP bp
  cases a4.str_inv
  cases bH.int_inv
  cases hq.int_inv
  have de:j<(cs.map V.int).length:=by rw[lc];exact hf
  refine⟨_,rfl,c,_,_,_,rfl,rfl,aF.of aj,rfl,rfl,_,rfl,bx zB ?_⟩
  refine⟨_,rfl,c,_,_,_,rfl,rfl,aF.of aj,rfl,rfl,_,rfl,bx DG ?_⟩
  refine⟨_,rfl,_,rfl,c,_,_,_,rfl,rfl,aF.of aj,rfl,_,rfl,p,_,rfl,aR.of aI,fun a aX=>?_⟩
  have s1:=bP aX (.lst (eS (cs.map V.int) none (some (j:Int))))
  refine⟨_,rfl,c,_,_,_,rfl,rfl,aF.of (s1 _ _ aj),rfl,cS,fun t a6=>?_⟩
  have s2:=s1.trans (bP a6 (.lst [.int n]))
  have dE:=yv (cs.map V.int) none (some (j:Int))
  have dU:=yv (cs.map V.int) (some ((j:Int)+1)) none
  refine⟨a,t,_,_,rfl,rfl,by rw[aA (cD aQ a6)];exact aQ,aQ,le_of_lt (ia (by rw[length_singleton];omega)),fun u a7=>?_⟩
  have s3:=s2.trans (bP a7 (.lst (eS (cs.map V.int) none (some (j:Int))++[.int n])))
  refine⟨_,rfl,_,rfl,c,_,_,_,rfl,rfl,aF.of (s3 _ _ aj),rfl,_,_,rfl,rfl,_,rfl,p,_,rfl,aR.of (s3 _ _ aI),fun d hd=>?_⟩
  have s4:=s3.trans (bP hd (.lst (eS (cs.map V.int) (some ((j:Int)+1)) none)))
  refine⟨u,d,_,_,rfl,rfl,by rw[aA (cD aQ hd)];exact aQ,aQ,le_of_lt (ia (by rw[length_append,length_singleton];omega)),fun e he=>?_⟩
  refine⟨_,rfl,cS,fun r ir=>?_⟩
  have s5:=s4.trans (bP he (.lst ((eS (cs.map V.int) none (some (j:Int))++[.int n])++eS (cs.map V.int) (some ((j:Int)+1)) none)))
  have je:=s5.trans (bP ir (.tup [.ref e,.ref l]))
  exact q r e l xs _ je aQ (by rw[aA (cD aQ ir),aQ,Ux de,qN];rfl) (je _ _ az) (jg.mono fun a y q=>q.mono je.et) (.inr (s4.free he)) (.inl rfl)
theorem zz:dk ["_law_pages","_law_log","_law_strokes","_law_stroke"] ua (bF tY):=dM
theorem Xa {r7:Addr}{x5:FuncData}(F:da K "_law_replayed" "_law_replayed" tY f fd) (Hi:aU P w K ai base bf 1 r7 x5 oQ zc) (GZ:Binds K x5 oQ []) (Gz:keepIn K (.ref r7)=true) (Gv:ai "_law_one_stroke"=some (.ref r7)):aU P w K ai base bf 2 f fd ua Df:=by
 refine F.ok zz (fun vs H Q E h=>?_) (fun b4 A outer s H vs Q E aC h=>?_)
 ·obtain⟨p,l,b,cs,xs,zs,log,row,rfl,_⟩:=h
  rfl
 obtain⟨p,l,jT,cs,xs,zs,log,row,rfl,aI,az,jg,aa,hz,hf,xJ,qq,q⟩:=h
 refine⟨_,(bh (hA PassesOwn.never rfl (ks (af 2)) (fj (i:=3) zz.bl rfl (Or.inl rfl)) (aZ (oH (dt Hi (b9 aC) rfl Gv Gz GZ .nil cP (aq (af 0) (aq (af 1) (aq (af 3) aK)))) (pU rfl (jr (fj (i:=0) zz.bl rfl (Or.inl rfl)) (jr (fj (i:=1) zz.bl rfl (Or.inl rfl)) pQ)))))) (aZ (cF (gz (aq (af 0) (aq (af 1) aK)))))),?_⟩
 have jO:zs.length=row.length:=by rw[bk.length hz,length_map]
 refine⟨_,rfl,jT,rfl,⟨zs,aR.of aa⟩,nx (K:=K) (a:=jT) (xs:=zs) (fun i σ au=>∃(a b:Addr) (o:Option V) (ys:List V),σ=[some (.ref a),some (.ref b),some (.ref jT),o]∧bI H au ∧
   au a=some (.lst (((row.take i).foldl bO.nY cs).map V.int))∧au b=some (.lst ys)∧gj au ((row.take i).foldl bO.j2 log) ys∧(a=p∨H a=none)∧(b=l∨H b=none))
  ⟨p,l,none,xs,rfl,bI.refl H,aI,az,jg,.inl rfl,.inl rfl⟩ (fun i σ au _ ⟨_,_,_,_,_,s3,_⟩=>aR.of (s3 _ _ aa)) ?_ ?_⟩
 ·rintro i v σ au aL ⟨a,b,o,ys,rfl,s3,aP,dT,gg,e5,kg⟩
  obtain⟨c2,gp,bp⟩:=mB hz aL
  have Ed:=CE (row.take i) log
  rw[length_take]at Ed
  refine⟨_,rfl,_,rfl,_,rfl,a,b,v,_,ys,_,c2,rfl,aP,dT,gg,Rep.mono s3 _ _ bp,by rw[vX];exact hf c2 (mem_of_getElem? gp),by rw[vX];exact xJ,by omega,fun r ec h1 us a9 s4 eE b7 eN iA b5 gG=>?_⟩
  refine⟨r,_,rfl,aF.of eE,rfl,_,_,rfl,_,_,rfl,rfl,?_⟩
  have b7:a9 ec=some (.lst (((row.take (i+1)).foldl bO.nY cs).map V.int)):=by rw[yI _ _ _ _ _ gp];exact b7
  have iA:gj a9 ((row.take (i+1)).foldl bO.j2 log) us:=by rw[yI _ _ _ _ _ gp];exact iA
  have FJ:ec=p∨H ec=none:=b5.elim (fun z=>by rw[z];exact e5) fun z=>.inr (s3.free z)
  have FL:h1=l∨H h1=none:=gG.elim (fun z=>by rw[z];exact kg) fun z=>.inr (s3.free z)
  exact⟨ec,h1,some v,us,rfl,s3.trans s4,b7,eN,iA,FJ,FL⟩
 ·rintro σ au ⟨a,b,o,ys,rfl,s3,aP,dT,gg,e5,kg⟩
  rw[jO,take_length]at aP gg
  refine⟨_,rfl,_,rfl,cS,fun r ir=>?_⟩
  have s4:=bP ir (.tup [.ref a,.ref b])
  exact q r a b ys _ (s3.trans s4) aQ (s4 _ _ aP) (s4 _ _ dT) (gg.mono fun _ _ q=>q.mono s4.et) e5 kg
theorem y5:dk ["_law_pages","_law_log","_law_strokes","_law_room","_law_stroke"] t_ (bF th):=dM
theorem Vz {r7:Addr}{x5:FuncData}(F:da K "_law_log_holds" "_law_log_holds" th f fd) (B:ew ai) (Hi:aU P w K ai base bf 1 r7 x5 oQ zc) (GZ:Binds K x5 oQ []) (Gz:keepIn K (.ref r7)=true) (Gv:ai "_law_one_stroke"=some (.ref r7)):aU P w K ai base bf 2 f fd t_ CP:=by
 refine F.ok y5 (fun vs H Q E h=>?_) (fun b4 A outer s H vs Q E aC h=>?_)
 ·obtain⟨p,l,b,cs,xs,zs,log,row,room,rfl,_⟩:=h
  rfl
 obtain⟨p,l,jT,cs,xs,zs,log,row,room,rfl,aI,az,jg,aa,hz,hf,xJ,qq,ac6,q⟩:=h
 refine⟨_,(bh (hA PassesOwn.never rfl (ks (af 2)) (fj (i:=4) y5.bl rfl (Or.inl rfl)) (bh (oH (dt Hi (b9 aC) rfl Gv Gz GZ .nil cP (aq (af 0) (aq (af 1) (aq (af 4) aK)))) (pU rfl (jr (fj (i:=0) y5.bl rfl (Or.inl rfl)) (jr (fj (i:=1) y5.bl rfl (Or.inl rfl)) pQ)))) (aZ (b_ (cn pX (dP e8 rfl B.len PySem.boot_len (aq (af 1) aK)) (af 3) (bY _)) (aZ (cF fF)) cZ)))) (aZ (cF fF))),?_⟩
 have jO:zs.length=row.length:=by rw[bk.length hz,length_map]
 refine⟨_,rfl,jT,rfl,⟨zs,aR.of aa⟩,nx (K:=K) (a:=jT) (xs:=zs) (fun i σ au=>∃(a b:Addr) (o:Option V) (ys:List V),σ=[some (.ref a),some (.ref b),some (.ref jT),some (.int room),o]∧bI H au ∧
   au a=some (.lst (((row.take i).foldl bO.nY cs).map V.int))∧au b=some (.lst ys)∧gj au ((row.take i).foldl bO.j2 log) ys∧(a=p∨H a=none)∧(b=l∨H b=none))
  ⟨p,l,none,xs,rfl,bI.refl H,aI,az,jg,.inl rfl,.inl rfl⟩ (fun i σ au _ ⟨_,_,_,_,_,s3,_⟩=>aR.of (s3 _ _ aa)) ?_ ?_⟩
 ·rintro i v σ au aL ⟨a,b,o,ys,rfl,s3,aP,dT,gg,e5,kg⟩
  obtain⟨c2,gp,bp⟩:=mB hz aL
  have Ed:=CE (row.take i) log
  rw[length_take]at Ed
  refine⟨_,rfl,_,rfl,_,rfl,a,b,v,_,ys,_,c2,rfl,aP,dT,gg,Rep.mono s3 _ _ bp,by rw[vX];exact hf c2 (mem_of_getElem? gp),by rw[vX];exact xJ,by omega,fun r ec h1 us a9 s4 eE b7 eN iA b5 gG=>?_⟩
  refine⟨r,_,rfl,aF.of eE,rfl,_,_,rfl,_,_,rfl,rfl,?_⟩
  have b7:a9 ec=some (.lst (((row.take (i+1)).foldl bO.nY cs).map V.int)):=by rw[yI _ _ _ _ _ gp];exact b7
  have iA:gj a9 ((row.take (i+1)).foldl bO.j2 log) us:=by rw[yI _ _ _ _ _ gp];exact iA
  have FJ:ec=p∨H ec=none:=b5.elim (fun z=>by rw[z];exact e5) fun z=>.inr (s3.free z)
  have FL:h1=l∨H h1=none:=gG.elim (fun z=>by rw[z];exact kg) fun z=>.inr (s3.free z)
  have akA:us.length=_:=iA.1.symm
  have l7:=ac6 (i+1)
  refine⟨_,rfl,h1,us,rfl,.inl (aR.of eN),_,rfl,_,_,rfl,rfl,_,rfl,bx (by rw[akA];omega) ?_⟩
  exact⟨ec,h1,some v,us,rfl,s3.trans s4,b7,eN,iA,FJ,FL⟩
 ·rintro σ au ⟨a,b,o,ys,rfl,s3,aP,dT,gg,e5,kg⟩
  exact q au s3
theorem WS:dk rd rd (bF tE):=dM
theorem Wl  (F:da K "_law_more" "_law_more" tE f fd) (B:ew ai)  : aU P w K ai base bf 1 f fd rd Dh:=by
 refine F.ok WS (fun vs H Q E h=>?_) (fun b4 A outer s H vs Q E aC h=>?_)
 ·obtain⟨v,e,rfl,_⟩:=h
  rfl
 obtain⟨v,e,rfl,bp,q⟩:=h
 refine⟨_,(aZ (cF (c0 gJ aW (h_ vP rfl B.int ur (aq (hx dv (bA bZ (af 0) aW (fun _ _=>rfl)) bw (bY _)) aK))))),?_⟩
 cases e with
 | begin =>
  obtain⟨c,b6,rfl,aj,a4⟩:=kZ bp
  cases a4.str_inv
  exact⟨_,rfl,c,_,_,_,rfl,rfl,aF.of aj,rfl,rfl,.inr ⟨_,rfl,_,_,rfl,rfl,q _ (by show (1:Int)+(if decide (V.str "begin"=V.str "put")=true then 1 else 0)=1;decide +kernel)⟩⟩
 | put d p n =>
  obtain⟨c,b6,ck,j8,qs,rfl,aj,a4,bH,hq,jK⟩:=qS bp
  cases a4.str_inv
  cases bH.int_inv
  cases hq.int_inv
  cases jK.int_inv
  exact⟨_,rfl,c,_,_,_,rfl,rfl,aF.of aj,rfl,rfl,.inr ⟨_,rfl,_,_,rfl,rfl,q _ (by show (1:Int)+(if decide (V.str "put"=V.str "put")=true then 1 else 0)=2;decide +kernel)⟩⟩
 | fin d =>
  obtain⟨c,b6,ck,rfl,aj,a4,bH⟩:=er bp
  cases a4.str_inv
  cases bH.int_inv
  exact⟨_,rfl,c,_,_,_,rfl,rfl,aF.of aj,rfl,rfl,.inr ⟨_,rfl,_,_,rfl,rfl,q _ (by show (1:Int)+(if decide (V.str "end"=V.str "put")=true then 1 else 0)=1;decide +kernel)⟩⟩
 | drop d =>
  obtain⟨c,b6,ck,rfl,aj,a4,bH⟩:=er bp
  cases a4.str_inv
  cases bH.int_inv
  exact⟨_,rfl,c,_,_,_,rfl,rfl,aF.of aj,rfl,rfl,.inr ⟨_,rfl,_,_,rfl,rfl,q _ (by show (1:Int)+(if decide (V.str "drop"=V.str "put")=true then 1 else 0)=1;decide +kernel)⟩⟩
 | look p =>
  obtain⟨c,b6,ck,rfl,aj,a4,bH⟩:=er bp
  cases a4.str_inv
  cases bH.int_inv
  exact⟨_,rfl,c,_,_,_,rfl,rfl,aF.of aj,rfl,rfl,.inr ⟨_,rfl,_,_,rfl,rfl,q _ (by show (1:Int)+(if decide (V.str "look"=V.str "put")=true then 1 else 0)=1;decide +kernel)⟩⟩
 | carry p =>
  obtain⟨c,b6,ck,rfl,aj,a4,bH⟩:=er bp
  cases a4.str_inv
  cases bH.int_inv
  exact⟨_,rfl,c,_,_,_,rfl,rfl,aF.of aj,rfl,rfl,.inr ⟨_,rfl,_,_,rfl,rfl,q _ (by show (1:Int)+(if decide (V.str "carry"=V.str "put")=true then 1 else 0)=1;decide +kernel)⟩⟩
 | cut =>
  obtain⟨c,b6,rfl,aj,a4⟩:=kZ bp
  cases a4.str_inv
  exact⟨_,rfl,c,_,_,_,rfl,rfl,aF.of aj,rfl,rfl,.inr ⟨_,rfl,_,_,rfl,rfl,q _ (by show (1:Int)+(if decide (V.str "cut"=V.str "put")=true then 1 else 0)=1;decide +kernel)⟩⟩
theorem DF:dk ["_law_puts","_law_desk","_law_deed","_law_begun","_law_page","_law_old"] t9 (bF t5):=dM
theorem Xf  (F:da K "_law_did" "_law_did" t5 f fd) (B:ew ai) (nk:zZ ai)  : aU P w K ai base bf 1 f fd t9 DD:=by
 refine F.ok DF (fun vs H Q E h=>?_) (fun b4 A outer s H vs Q E aC h=>?_)
 ·obtain⟨h,ce,ak,lo,pu,st,pl,x,v,e,n,rfl,_⟩:=h
  rfl
 obtain⟨h,ce,ak,lo,pu,st,pl,x,v,e,nn,rfl,bJ,bp,c7,g,aS,q⟩:=h
 have a7:=gT aC
 refine⟨_,(aZ (b_ (cn dv (bA bZ (af 2) aW (fun _ _=>rfl)) bw (bY _)) (aZ (lO a7 (af 0) (af 3) (fl aK) rfl)) (aZ (b_ (cn dv (bA bZ (af 2) aW (fun _ _=>rfl)) bw (bY _)) (bh (dz (jx plainAttrs_list PySem.F.slot_list_append PySem.F.type_list_append jo (ek a7 (af 0) (bA bZ (af 2) aW (fun _ _=>rfl)) (fun _ _=>rfl)) (aq (gz (aq (bA bZ (af 2) aW (fun _ _=>rfl)) (aq (bA eH (af 1) (bA bZ (af 2) aW (fun _ _=>rfl)) (fun _ _=>rfl)) aK))) aK))) (aZ (oH (bA bZ (af 2) aW (fun _ _=>rfl)) (tx (af 1) (bA bZ (af 2) aW (fun _ _=>rfl)) set_list)))) (aZ (b_ (cn dv (bA bZ (af 2) aW (fun _ _=>rfl)) bw (bY _)) (aZ (dz (yT (af 0) (bA bZ (af 2) aW (fun _ _=>rfl)) ⟨rfl,rfl,rfl,rfl⟩))) (aZ (b_ (cn dv (bA bZ (af 2) aW (fun _ _=>rfl)) bw (bY _)) (bh (hA PassesOwn.never rfl (ks (HX aC.hd rfl B.lst rfl nk.rev (ek a7 (af 0) (bA bZ (af 2) aW (fun _ _=>rfl)) (fun _ _=>rfl)))) (pU rfl (jr (fj (i:=4) DF.bl rfl (Or.inl rfl)) (jr (fj (i:=5) DF.bl rfl (Or.inl rfl)) pQ))) (aZ (oH (af 5) (tx (af 1) (af 4) set_list)))) (aZ (dz (yT (af 0) (bA bZ (af 2) aW (fun _ _=>rfl)) ⟨rfl,rfl,rfl,rfl⟩)))) cZ)))))))),?_⟩
 have Ak:pu∈ie ak pu pl:=mem_cons_of_mem _ mem_cons_self
 have EA:ak∈ie ak pu pl:=mem_cons_self
 cases e with
 | begin =>
  obtain⟨c,b6,rfl,aj,a4⟩:=kZ bp
  cases a4.str_inv
  refine⟨_,rfl,c,_,_,_,rfl,rfl,aF.of aj,rfl,rfl,_,rfl,dS rfl ?_⟩
  refine⟨cS,fun u nN=>?_⟩
  have qv:=bJ.there nN
  have s4:=bP nN (.lst [])
  have cj:(upd H u (.lst [])) u=some (.lst []):=aQ
  have c9:=bJ.same s4
  generalize upd H u (.lst [])=cO at s4 cj c9 ⊢
  have EE:(dX pl).length<sizeLine:=ia (by
   have aJ:(dX pl).length=pl.length:=length_map _
   have aN:=bJ.lW
   have:=g.pl
   omega)
  have mS:x.isOpen (x.begun:Int)=false:=by
   cases cg:x.isOpen (x.begun:Int) with
   | false=>rfl
   | true =>
    have:=(g.ei _ (mA cg)).2.1
    have XD:(x.begun:Int)<(x.begun:Int):=this
    omega
  refine⟨_,rfl,_,rfl,pu,_,rfl,.inl ⟨_,Sum.inl (x.begun:Int),c9.aI,rfl,EE,rfl⟩,?_⟩
  refine q _ _ (c9.opened (d:=(x.begun:Int)) cj qv mS) ((bI.dQ s4).trans (ju Ak)) fun b aa=>?_
  rcases mem_cons.mp aa with e | aa
  ·exact .inl (by rw[e];exact EA)
  rcases mem_cons.mp aa with e | aa
  ·exact .inl (by rw[e];exact Ak)
  rw[map_append]at aa
  rcases mem_append.mp aa with aa | aa
  ·exact .inl (mem_cons_of_mem _ (mem_cons_of_mem _ aa))
  ·have e:=mem_singleton.mp aa
   exact .inr (by rw[e];exact nN)
 | put d p n =>
  obtain⟨c,b6,ck,j8,qs,rfl,aj,a4,bH,hq,jK⟩:=qS bp
  cases a4.str_inv
  cases bH.int_inv
  cases hq.int_inv
  cases jK.int_inv
  refine⟨_,rfl,c,_,_,_,rfl,rfl,aF.of aj,rfl,rfl,_,rfl,bx (by decide +kernel) ?_⟩
  refine⟨_,rfl,c,_,_,_,rfl,rfl,aF.of aj,rfl,rfl,_,rfl,dS rfl ?_⟩
  have aH:x.isOpen d=true:=kp (.inl ⟨p,n,rfl⟩) c7
  obtain⟨qu,hX⟩:=ox (.inl ⟨d,n,rfl⟩) c7
  obtain⟨bz,rfl⟩:∃bz:Nat,p=(bz:Int):=⟨p.toNat,by omega⟩
  have kE:bz<x.aB.length:=by omega
  obtain⟨i,a,ys,aL,hw,aX,o1,cA⟩:=bJ.pR aH
  obtain⟨o,fs,eF⟩:=ku (ns:=x.aB) (k:=((bz:Nat):Int)) (by omega) (by omega)
  have fs:x.aB[bz]?=some o:=fs
  have ht:x.aB.getD bz 0=o:=by rw[getD_eq_getElem?_getD,fs];rfl
  have l3:=o1.length
  rw[length_map]at l3
  have jO:(x.dh d).length≤110:=by
   have ct:(x.dh d).length≤_:=(g.ei _ (mA aH)).2.2.1
   omega
  refine⟨_,rfl,_,rfl,c,_,_,_,rfl,rfl,aF.of aj,rfl,pu,_,rfl,cA,.inl ⟨rfl,_,aR.of aX⟩,_,rfl,c,_,_,_,rfl,rfl,aF.of aj,rfl,_,rfl,_,rfl,c,_,_,_,rfl,rfl,aF.of aj,rfl,ak,_,_,_,rfl,rfl,aR.of bJ.hd,eF,cS,fun t a6=>?_⟩
  have s4:=bP a6 (.tup [.int (bz:Nat),.int o])
  have cj:(upd H t (.tup [.int (bz:Nat),.int o])) t=some (.tup [.int (bz:Nat),.int o]):=aQ
  have c9:=bJ.same s4
  have xm:=s4 _ _ aj
  generalize upd H t (.tup [.int (bz:Nat),.int o])=cO at s4 cj c9 xm ⊢
  refine⟨a,ys,.ref t,rfl,rfl,s4 _ _ aX,ia (by omega),?_⟩
  have fu:=c9.dA (y:=(bz,o)) (v:=.ref t) aL (s4 _ _ aX) (.gS cj (.cons .ofInt (.cons .ofInt .nil)))
  have Gu:a∈ie ak pu pl:=mem_cons_of_mem _ (mem_cons_of_mem _ (mem_map.mpr ⟨_,mem_of_getElem? aL,rfl⟩))
  have fa:gq (ie ak pu pl) cO (upd cO a (.lst (ys++[.ref t]))):=ju Gu
  have l8:=c9.et fa _ _ xm
  generalize upd cO a (.lst (ys++[.ref t]))=d4 at fu fa l8 ⊢
  refine⟨_,rfl,c,_,_,_,rfl,rfl,aF.of l8,rfl,_,rfl,_,rfl,c,_,_,_,rfl,rfl,aF.of l8,rfl,ak,_,_,bz,rfl,rfl,fu.hd,sX (by rw[length_map];exact kE),?_⟩
  rw[qN]
  have qI:=fu.q7 (c:=x.aB.set bz n)
  refine q pl _ (qI.of ?_ ?_) ((bI.dQ s4).trans (fa.trans (ju EA))) fun b aa=>.inl aa
  ·show x.aB.set (bz:Int).toNat n=x.aB.set bz n
   rw[Int.toNat_natCast]
  ·show (x.dA d (bz:Int).toNat).aT=x.aT.map fun z=>if z.1=d then (z.1,z.2++[(bz,o)]) else z
   rw[Int.toNat_natCast,←ht]
   rfl
 | fin d =>
  obtain⟨c,b6,ck,rfl,aj,a4,bH⟩:=er bp
  cases a4.str_inv
  cases bH.int_inv
  refine⟨_,rfl,c,_,_,_,rfl,rfl,aF.of aj,rfl,rfl,_,rfl,bx (by decide +kernel) ?_⟩
  refine⟨_,rfl,c,_,_,_,rfl,rfl,aF.of aj,rfl,rfl,_,rfl,bx (by decide +kernel) ?_⟩
  refine⟨_,rfl,c,_,_,_,rfl,rfl,aF.of aj,rfl,rfl,_,rfl,dS rfl ?_⟩
  have aH:x.isOpen d=true:=kp (.inr (.inl rfl)) c7
  have br:=bJ.isOpen d
  rw[aH]at br
  obtain⟨rZ,rB⟩:=Option.isSome_iff_exists.mp br
  refine⟨_,rfl,pu,rfl,.inl ⟨_,.inl bJ.aI⟩,_,rfl,c,_,_,_,rfl,rfl,aF.of aj,rfl,_,Sum.inl d,rZ,bJ.aI,rfl,rB,?_⟩
  exact q _ _ (bJ.ended d) (ju Ak) fun b aa=>by
   rcases mem_cons.mp aa with e | aa
   ·exact .inl (by rw[e];exact mem_cons_self)
   rcases mem_cons.mp aa with e | aa
   ·exact .inl (by rw[e];exact mem_cons_of_mem _ mem_cons_self)
   obtain⟨z,hz,e⟩:=mem_map.mp aa
   exact .inl (mem_cons_of_mem _ (mem_cons_of_mem _ (mem_map.mpr ⟨z,(mem_filter.mp hz).1,e⟩)))
 | drop d =>
  obtain⟨c,b6,ck,rfl,aj,a4,bH⟩:=er bp
  cases a4.str_inv
  cases bH.int_inv
  refine⟨_,rfl,c,_,_,_,rfl,rfl,aF.of aj,rfl,rfl,_,rfl,bx (by decide +kernel) ?_⟩
  refine⟨_,rfl,c,_,_,_,rfl,rfl,aF.of aj,rfl,rfl,_,rfl,bx (by decide +kernel) ?_⟩
  refine⟨_,rfl,c,_,_,_,rfl,rfl,aF.of aj,rfl,rfl,_,rfl,bx (by decide +kernel) ?_⟩
  refine⟨_,rfl,c,_,_,_,rfl,rfl,aF.of aj,rfl,rfl,_,rfl,dS rfl ?_⟩
  have aH:x.isOpen d=true:=kp (.inr (.inr rfl)) c7
  obtain⟨i,a,ys,aL,hw,aX,o1,cA⟩:=bJ.pR aH
  have l3:=o1.length
  rw[length_map]at l3
  have nP:=(g.ei _ (mA aH)).2.2.2
  refine⟨_,rfl,_,rfl,c,_,_,_,rfl,rfl,aF.of aj,rfl,pu,_,rfl,cA,a,ys,rfl,aR.of aX,fun l az=>⟨l,rfl,⟨_,aR.of aQ⟩,?_⟩⟩
  have s1:=bP az (.lst ys.reverse)
  have aJ:(upd H l (.lst ys.reverse)) l=some (.lst ys.reverse):=aQ
  have nl:=bJ.there az
  have bq:=bJ.same s1
  have mR:=bk.mono s1 _ _ o1
  have cc:=s1 _ _ aj
  generalize upd H l (.lst ys.reverse)=H1 at s1 aJ bq mR cc ⊢
  refine nx (K:=K) (a:=l) (xs:=ys.reverse) (fun j σ au=>∃(fR fa:Option V),σ=[some (.ref pu),some (.ref ak),some (.ref c),some (.int (x.begun:Nat)),fR,fa]∧d_ au h ce ak lo pu st pl { x with aB:=pT ((x.dh d).reverse.take j) x.aB }∧gq (ie ak pu pl) H1 au)
   ⟨none,none,rfl,bq,gq.refl _ _⟩ (fun j σ au _ ⟨_,_,_,_,bW⟩=>aR.of (bW _ _ nl aJ)) ?_ ?_
  ·rintro j v σ au de ⟨fR,fa,rfl,bX,dQ⟩
   have Fy:j<ys.length:=by
    have:=(List.getElem?_eq_some_iff.mp de).1
    rw[length_reverse]at this
    exact this
   have uI:ys[ys.length - 1 - j]?=some v:=by rw[getElem?_reverse Fy]at de;exact de
   obtain⟨hR,dE,dU⟩:=mB mR uI
   have Ef:(x.dh d).reverse[j]?=some hR:=by
    rw[getElem?_reverse (by omega),←l3]
    exact dE
   have kt:=bq.et dQ
   obtain⟨b,fH,eU,rfl,aa,bu,aV⟩:=er (a:=.int (hR.1:Nat)) (b:=.int hR.2) (Rep.keep kt _ _ (g5 hR) dU)
   cases bu.int_inv
   cases aV.int_inv
   have l6:hR.1<x.aB.length:=nP hR (mem_of_getElem? dE)
   have ahk:(pT ((x.dh d).reverse.take j) x.aB).length=x.aB.length:=by
    have:=sy (d:=d) (l:=(x.dh d).reverse.take j) (x:=x)
    rw[Cf]at this
    exact this
   refine⟨b,_,rfl,aF.of aa,rfl,_,_,rfl,_,_,rfl,rfl,?_⟩
   refine⟨_,rfl,_,rfl,_,rfl,ak,_,_,hR.1,rfl,rfl,bX.hd,sX (by rw[length_map,ahk];exact l6),?_⟩
   rw[qN]
   have c9:=bX.q7 (c:=(pT ((x.dh d).reverse.take j) x.aB).set hR.1 hR.2)
   have iE:(x.dh d).reverse.take (j+1)=(x.dh d).reverse.take j++[hR]:=by
    rw[take_add_one,Ef]
    rfl
   refine⟨_,_,rfl,c9.of ?_ rfl,dQ.trans (ju EA)⟩
   show pT ((x.dh d).reverse.take (j+1)) x.aB=_
   rw[iE]
   unfold pT
   rw[foldl_append]
   rfl
  ·rintro σ au ⟨fR,fa,rfl,bX,dQ⟩
   have eN:ys.reverse.length=(x.dh d).reverse.length:=by rw[length_reverse,length_reverse];exact l3
   rw[eN,take_length]at bX
   have kH:=bq.et dQ _ _ cc
   have br:=bX.isOpen d
   have qf:({ x with aB:=pT (x.dh d).reverse x.aB }:av).isOpen d=true:=aH
   rw[qf]at br
   obtain⟨rZ,rB⟩:=Option.isSome_iff_exists.mp br
   refine⟨_,rfl,pu,rfl,.inl ⟨_,.inl bX.aI⟩,_,rfl,c,_,_,_,rfl,rfl,aF.of kH,rfl,_,Sum.inl d,rZ,bX.aI,rfl,rB,?_⟩
   exact q _ _ (bX.ended d) ((bI.dQ s1).trans (dQ.trans (ju Ak))) fun b aa=>by
    rcases mem_cons.mp aa with e | aa
    ·exact .inl (by rw[e];exact mem_cons_self)
    rcases mem_cons.mp aa with e | aa
    ·exact .inl (by rw[e];exact mem_cons_of_mem _ mem_cons_self)
    obtain⟨z,hz,e⟩:=mem_map.mp aa
    exact .inl (mem_cons_of_mem _ (mem_cons_of_mem _ (mem_map.mpr ⟨z,(mem_filter.mp hz).1,e⟩)))
 | look p =>
  obtain⟨c,b6,ck,rfl,aj,a4,bH⟩:=er bp
  cases a4.str_inv
  cases bH.int_inv
  refine⟨_,rfl,c,_,_,_,rfl,rfl,aF.of aj,rfl,rfl,_,rfl,bx (by decide +kernel) ?_⟩
  refine⟨_,rfl,c,_,_,_,rfl,rfl,aF.of aj,rfl,rfl,_,rfl,bx (by decide +kernel) ?_⟩
  refine⟨_,rfl,c,_,_,_,rfl,rfl,aF.of aj,rfl,rfl,_,rfl,bx (by decide +kernel) ?_⟩
  refine⟨_,rfl,c,_,_,_,rfl,rfl,aF.of aj,rfl,rfl,_,rfl,bx (by decide +kernel) ?_⟩
  exact q pl H bJ (gq.refl _ _) fun b aa=>.inl aa
 | carry p =>
  obtain⟨c,b6,ck,rfl,aj,a4,bH⟩:=er bp
  cases a4.str_inv
  cases bH.int_inv
  refine⟨_,rfl,c,_,_,_,rfl,rfl,aF.of aj,rfl,rfl,_,rfl,bx (by decide +kernel) ?_⟩
  refine⟨_,rfl,c,_,_,_,rfl,rfl,aF.of aj,rfl,rfl,_,rfl,bx (by decide +kernel) ?_⟩
  refine⟨_,rfl,c,_,_,_,rfl,rfl,aF.of aj,rfl,rfl,_,rfl,bx (by decide +kernel) ?_⟩
  refine⟨_,rfl,c,_,_,_,rfl,rfl,aF.of aj,rfl,rfl,_,rfl,bx (by decide +kernel) ?_⟩
  exact q pl H bJ (gq.refl _ _) fun b aa=>.inl aa
 | cut =>
  obtain⟨c,b6,rfl,aj,a4⟩:=kZ bp
  cases a4.str_inv
  refine⟨_,rfl,c,_,_,_,rfl,rfl,aF.of aj,rfl,rfl,_,rfl,bx (by decide +kernel) ?_⟩
  refine⟨_,rfl,c,_,_,_,rfl,rfl,aF.of aj,rfl,rfl,_,rfl,bx (by decide +kernel) ?_⟩
  refine⟨_,rfl,c,_,_,_,rfl,rfl,aF.of aj,rfl,rfl,_,rfl,bx (by decide +kernel) ?_⟩
  refine⟨_,rfl,c,_,_,_,rfl,rfl,aF.of aj,rfl,rfl,_,rfl,bx (by decide +kernel) ?_⟩
  exact q pl H bJ (gq.refl _ _) fun b aa=>.inl aa
def Cy:c3:=fun vs H Q _=>∃(cW:ao) (fT rw dl h ce ak lo pu st:Addr) (bad:List Addr) (ps:List Int) (room:Int) (us lZ:List V) (aE:List b1),vs=[.ref fT,.ref rw,.ref dl,.ref h]∧bI cW H∧cW fT=some (.lst (((c_ ps room).says aE).map dp.v))∧cW rw=some (.lst lZ)∧iN cW bad ((c_ ps room).rows aE) lZ∧cW dl=some (.lst us)∧bk cW (aE.map b1.D) us∧aE.length≤63∧1≤ps.length∧ps.length≤100∧bB H h ce ak lo pu st [] (c_ ps room)∧(∀b∈own h ce ak pu st [],cW b=none) ∧
 ∀ah,bI cW ah→Q (.bV true) ah
theorem CA:∀(l:List b1) (x:av) (i:Nat) (e:b1),l[i]?=some e→(x.says l)[i]?=some ((x.run (l.take i)).a_ e).2
 | [],_,_,_,h=>by cases h
 | e::r,x,0,cV,h=>by
  cases Option.some.inj (show some e=some cV from h)
  rfl
 | e::r,x,i+1,cV,h=>CA r (x.a_ e).1 i cV h
theorem C0:∀(l:List b1) (x:av) (i:Nat) (e:b1),l[i]?=some e→(x.rows l)[i]?=some ((x.run (l.take i)).row e)
 | [],_,_,_,h=>by cases h
 | e::r,x,0,cV,h=>by
  cases Option.some.inj (show some e=some cV from h)
  rfl
 | e::r,x,i+1,cV,h=>C0 r (x.a_ e).1 i cV h
theorem Ip {H:ao}{bad:List Addr}{rows:List (List bO)}{xs:List V}{i:Nat}{row:List bO}(R:iN H bad rows xs) (h:rows[i]?=some row):∃b zs,xs[i]?=some (.ref b)∧H b=some (.lst zs)∧bk H (row.map bO.D) zs:=by
 have aL:i<xs.length:=by rw[←R.1];exact (List.getElem?_eq_some_iff.mp h).1
 obtain⟨alK,aC,b,zs,e,_,hz,mR⟩:=R.get (getElem?_eq_getElem aL)
 rw[h]at aC
 cases aC
 exact⟨b,zs,by rw[getElem?_eq_getElem aL,e],hz,mR⟩
theorem Jt (H:ao) (a:dp):Rep H a.D a.v:=by
 cases a with
 | word w=>exact .ofStr
 | num n=>exact .ofInt
theorem Cz:dk ["_law_found","_law_rows","_law_asked","_law_house","_law_k","_law_told"] t8 (bF sV):=dM
theorem UI {r8:Addr}{x8:FuncData}{GQ:Addr}{bQ:FuncData}(F:da K "_law_as_kept" "_law_as_kept" sV f fd) (B:ew ai) (GE:aU P w K ai base bf 5 r8 x8 l1 Cj) (G1:Binds K x8 l1 []) (GA:keepIn K (.ref r8)=true) (Gx:ai "_law_answered"=some (.ref r8)) (alr:aU P w K ai base bf 2 GQ bQ uo CV) (ak4:Binds K bQ uo []) (akG:keepIn K (.ref GQ)=true) (akv:ai "_law_alike"=some (.ref GQ)):aU P w K ai base bf 6 f fd t8 Cy:=by
 refine F.ok Cz (fun vs H Q E h=>?_) (fun b4 A outer s H vs Q E aC h=>?_)
 ·obtain⟨cW,fT,rw,dl,h,ce,ak,lo,pu,st,bad,ps,room,us,lZ,aE,rfl,_⟩:=h
  rfl
 obtain⟨cW,fT,iw,dl,h,ce,ak,lo,pu,st,bad,ps,room,us,lZ,aE,rfl,nh,rI,ahS,alf,qi,qb,xH,hX,fQ,bJ,fr,q⟩:=h
 have a7:=gT aC
 have nL:us.length=aE.length:=by rw[bk.length qb,length_map]
 refine⟨_,(bh (hA PassesOwn.never rfl (qQ rfl B.l0 (aq (dP e8 rfl B.len PySem.boot_len (aq (af 2) aK)) aK)) (fj (i:=4) Cz.bl rfl (Or.inl rfl)) (bh (lO a7 (af 3) bw (fl aK) rfl) (bh (dm (i:=5) Cz.bl rfl (Or.inl rfl) (dt GE (b9 aC) rfl Gx GA G1 .nil cP (aq (af 3) (aq (bA eH (af 2) (af 4) (fun _ _=>rfl)) aK)))) (aZ (b_ (hM (gy (dt alr (b9 aC) rfl akv akG ak4 .nil cP (aq (fl (aq (bA eH (af 0) (af 4) (fun _ _=>rfl)) (aq (bA eH (af 1) (af 4) (fun _ _=>rfl)) aK))) (aq (fl (aq (af 5) (aq (ek a7 (af 3) bw (fun _ _=>rfl)) aK))) aK))))) (aZ (cF fF)) cZ))))) (aZ (cF fF))),?_⟩
 refine⟨_,rfl,dl,us,rfl,.inl (aR.of (nh _ _ qi)),_,rfl,by omega,by omega,sH (fun i σ cO=>∃(lo st:Addr) (pl:List (Int × Addr)) (fR fa:Option V),σ=[some (.ref fT),some (.ref iw),some (.ref dl),some (.ref h),fR,fa]∧bB cO h ce ak lo pu st pl ((c_ ps room).hB (aE.take i))∧bI cW cO∧(∀b,b∈own h ce ak pu st pl→cW b=none))
   ⟨lo,st,[],none,none,rfl,bJ,nh,fr⟩ ?_ ?_⟩
 ·rintro i σ cO jF ⟨mQ,p_,hl,fR,fa,rfl,c9,hH,jG⟩
  have e0:(0:Int)+(i:Int)=((i:Nat):Int):=by omega
  rw[e0]
  have aL:i<us.length:=by omega
  obtain⟨v,br⟩:∃v,us[i]?=some v:=⟨_,getElem?_eq_getElem aL⟩
  obtain⟨e,he,re⟩:=mB qb br
  have lt:(aE.take i).length=i:=by rw[length_take];omega
  have hs:=(yW (room:=room) hX fQ).hB (aE.take i) (by omega)
  rw[lt,zero_add]at hs
  refine⟨cS,fun u kD=>?_⟩
  have s5:=bP kD (.lst [])
  have fe:(upd cO u (.lst [])) u=some (.lst []):=aQ
  generalize upd cO u (.lst [])=d4 at s5 fe ⊢
  have fu:=c9.same s5
  have qv:u∉own h ce ak pu p_ hl:=c9.there kD
  have nul:u≠mQ:=by
   obtain⟨xs,eN,_⟩:=c9.az
   exact (cD eN kD).symm
  refine⟨_,rfl,h,_,rfl,fu.Vr _,?_⟩
  have qI:=fu.Zs fe qv nul
  have h0:cW h=none:=jG h (bB.r2 ..)
  have ou:bI cW (upd d4 h (.bQ (putK (a8 ce ak mQ pu p_ ((c_ ps room).hB (aE.take i)).room ((c_ ps room).hB (aE.take i)).begun) (Sum.inr "strokes") (.ref u)))):=fun b o e=>by
   rw[aA (fun z=>by rw[z,h0]at e;cases e)]
   exact s5 _ _ (hH _ _ e)
  generalize upd d4 h (.bQ (putK (a8 ce ak mQ pu p_ ((c_ ps room).hB (aE.take i)).room ((c_ ps room).hB (aE.take i)).begun) (Sum.inr "strokes") (.ref u)))=kW at qI ou ⊢
  have uJ:∀b,b∈own h ce ak pu u hl→cW b=none:=fun b aa=>by
   rcases UC (st:=p_) aa with z | z
   ·rw[z];exact hH.free kD
   ·exact jG b z
  refine⟨_,rfl,_,rfl,_,rfl,dl,_,_,_,rfl,rfl,aR.of (ou _ _ qi),k4 br,h,ce,ak,mQ,pu,u,hl,_,v,e,i,rfl,qI,Rep.mono ou _ _ re,hs.bare,by omega,fun ahl Mz fP B0 gY gN=>?_⟩
  have iI:bI cW fP:=fun b o e=>gY.1 b o (fun z=>by rw[uJ b z]at e;cases e) (ou b o e)
  have aio:∀b,b∈own h ce ak pu u Mz→cW b=none:=fun b aa=>by
   rcases gN b aa with z | z
   ·exact uJ b z
   ·exact ou.free z
  have oh:=hs.bare.a_ (by omega) e
  obtain⟨afD,k1,k2⟩:=B0.fK
  have k2:bk fP ((((c_ ps room).run (aE.take i)).row e).map bO.D) afD:=by
   rw[←I2]
   exact k2
  have Lh:(((c_ ps room).run (aE.take i)).row e).length≤300 * 64:=by
   rw[←I2]
   have ay:(((c_ ps room).hB (aE.take i)).row e).length≤300 * (i+1):=oh.dc
   omega
  have a6:(c_ ps room).hB (aE.take (i+1))=(((c_ ps room).hB (aE.take i)).bare.a_ e).1:=by
   have ay:aE.take (i+1)=aE.take i++[e]:=by rw[take_add_one,he];rfl
   rw[ay,Il]
  have jX:(((c_ ps room).says aE).map dp.v)[i]?=some (((c_ ps room).hB (aE.take i)).bare.a_ e).2.v:=by
   rw[getElem?_map,CA aE _ i e he,Uz]
   rfl
  obtain⟨b,zs,bg,hz,jf⟩:=Ip alf (C0 aE _ i e he)
  rw[←a6]at B0
  generalize (((c_ ps room).hB (aE.take i)).bare.a_ e).2=an at jX ⊢
  generalize ((c_ ps room).run (aE.take i)).row e=row at k2 Lh jf
  refine⟨_,rfl,_,rfl,fT,_,_,_,rfl,rfl,aR.of (iI _ _ rI),k4 jX,_,rfl,_,rfl,iw,_,_,_,rfl,rfl,aR.of (iI _ _ ahS),k4 bg,cS,fun fN ah8=>?_⟩
  have ly:=bP ah8 (.lst [an.v,.ref b])
  have pA:(upd fP fN (.lst [an.v,.ref b])) fN=some (.lst [an.v,.ref b]):=aQ
  generalize upd fP fN (.lst [an.v,.ref b])=hi at ly pA ⊢
  have alD:=B0.same ly
  refine⟨_,rfl,_,rfl,h,_,rfl,alD.Ja,cS,fun hY uH=>?_⟩
  have f3:=bP uH (.lst [an.v,.ref u])
  have x4:(upd hi hY (.lst [an.v,.ref u])) hY=some (.lst [an.v,.ref u]):=aQ
  generalize upd hi hY (.lst [an.v,.ref u])=pH at f3 x4 ⊢
  have Bl:=ly.trans f3
  have F7:=iI.trans Bl
  refine⟨_,_,.lst [an.D,KZ row],rfl,.zF (f3 _ _ pA) (.cons (Jt pH an) (.cons (.zF (F7 _ _ hz) (bk.mono F7 _ _ jf)) .nil)),.zF x4 (.cons (Jt pH an) (.cons (.zF (Bl _ _ k1) (bk.mono Bl _ _ k2)) .nil)),?_,fun xG nK=>⟨_,rfl,cU ?_⟩⟩
  ·have ams:=IY [an]
   have Gg:=HE row
   have dE:[an].length=1:=rfl
   have dU:e3 ([an].map dp.D)=an.D.e9+e3 []:=lN _ _
   rw[Dd,lN,lN,mC]
   have u2:(KZ row).e9=1+e3 (row.map bO.D):=Dd _
   rw[u2]
   omega
  ·exact⟨ahl,u,Mz,_,_,rfl,(B0.same Bl).same nK,F7.trans nK,aio⟩
 ·rintro σ cO ⟨mQ,p_,hl,fR,fa,rfl,c9,hH,jG⟩
  exact q cO hH
def CS:c3:=fun vs H Q _=>∃h:Int,vs=[.int h]∧∀(c:Int) (ah:ao),1≤c→c≤40→bI H ah→Q (.int c) ah
def zw (K:PySem.W.Frag):c3:=fun vs H Q _=>∃(a:Addr) (ns:List Int),vs=[.ref a]∧aR K H a (ns.map V.int)∧ns.length≤63∧∀ah,Q (.bV true) ah
theorem Wa:dk rb rb (bF tn):=dM
theorem VE (F:da K "_law_count_by" "_law_count_by" tn f fd) (B:ew ai):aU P w K ai base bf 1 f fd rb CS:=by
 refine F.ok Wa (fun vs H Q E h=>?_) (fun b4 A outer s H vs Q E aC h=>?_)
 ·obtain⟨h,rfl,_⟩:=h
  rfl
 obtain⟨z,rfl,q⟩:=h
 refine⟨_,(aZ (cF (bA eH (fl (aq (c0 gJ aW (c0 jv (af 0) aW)) (aq (c0 gJ aW (c0 jv (c0 v5 (af 0) aW) aW)) aK))) (h_ vP rfl B.int ur (aq (hx dv (c0 jv (c0 v5 (af 0) aW) aW) aW (bY _)) aK)) (fun _ _=>rfl)))),?_⟩
 refine⟨_,rfl,_,_,rfl,rfl,(by decide:(0:Int)<5),_,_,rfl,rfl,_,rfl,_,_,rfl,rfl,⟨by decide,by decide⟩,_,_,rfl,rfl,(by decide:(0:Int)<29),_,_,rfl,rfl,cS,fun t a6=>?_⟩
 refine⟨_,rfl,_,_,rfl,rfl,⟨by decide,by decide⟩,_,_,rfl,rfl,(by decide:(0:Int)<8),rfl,.inr ⟨_,rfl,C_ aQ ?_ ?_ _⟩⟩
 ·exact q (1+z % 5) _ (by omega) (by omega) (bP a6 _)
 ·exact q (12+z / 200 % 29) _ (by omega) (by omega) (bP a6 _)
theorem i4:dk zR zQ (bF jW):=dM
structure yg (H:ao) (cp dl:Addr) (ps:List Int) (us:List V) (aE:List b1):Prop where
 aI:H cp=some (.lst (ps.map V.int))
 hX:1≤ps.length
 fQ:ps.length≤100
 hd:H dl=some (.lst us)
 iy:bk H (aE.map b1.D) us
 xH:aE.length≤110
 Gl:∀e∈aE,oY e
theorem yg.mono {H ah:ao}{cp dl:Addr}{ps:List Int}{us:List V}{aE:List b1}(L:yg H cp dl ps us aE) (s:bI H ah):yg ah cp dl ps us aE :=
 ⟨s _ _ L.aI,L.hX,L.fQ,s _ _ L.hd,bk.mono s _ _ L.iy,L.xH,L.Gl⟩
theorem VM {x y:av}{s:bO}(h:l_ x s y):oL x.aB.length s:=by
 cases h with
 | carry p aI aS aC=>exact aI
 | cut h aC=>exact h
 | put d p n aI aH a6 aC h0=>exact aI
 | eu d p n aI aH hm aC=>exact aI
 | fin d aH aC=>trivial
theorem Iu {x y:av}{l:List bO}(h:Path x l y):∀s∈l,oL x.aB.length s:=by
 induction h with
 | nil x=>intro s a5;cases a5
 | cons m t c6 =>
  intro s a5
  rcases mem_cons.mp a5 with z | z
  ·rw[z];exact VM m
  ·rw[←m.facts.2.1];exact c6 s z
theorem CC:∀(l:List b1) (x:av),x.sound→x.fit→(x.run l).aB.length=x.aB.length∧(x.run l).room=x.room
 | [],_,_,_=>⟨rfl,rfl⟩
 | e::r,x,S,f=>by
  obtain⟨y,z,a,b,c⟩:=CD S f e
  obtain⟨ay,aG⟩:=CC r (x.a_ e).1 (S.a_ e) (f.a_ S e)
  obtain⟨_,k1,k2,_⟩:=b.facts
  have eB:y.aB.length=x.aB.length∧y.room=x.room:=by rcases a with rfl | rfl <;> exact⟨rfl,rfl⟩
  have gu:(x.a_ e).1.aB.length=z.aB.length∧(x.a_ e).1.room=z.room:=by
   rcases c with h | h
   ·rw[h];exact⟨rfl,rfl⟩
   ·rw[h];exact⟨rfl,rfl⟩
  show ((x.a_ e).1.run r).aB.length=_∧((x.a_ e).1.run r).room=_
  exact⟨by rw[ay,gu.1,k1,eB.1],by rw[aG,gu.2,k2,eB.2]⟩
theorem Io:∀(l:List b1) (x:av),x.sound→x.fit→∀row∈x.rows l,∀s∈row,oL x.aB.length s
 | [],_,_,_=>fun row h=>by cases h
 | e::r,x,S,f=>fun row h s a5=>by
  obtain⟨y,z,a,b,c⟩:=CD S f e
  have eB:y.aB.length=x.aB.length:=by rcases a with rfl | rfl <;> rfl
  rcases mem_cons.mp (show row∈x.row e::(x.a_ e).1.rows r from h) with ay | ay
  ·rw[ay]at a5
   rw[←eB]
   exact Iu b s a5
  ·have:=Io r (x.a_ e).1 (S.a_ e) (f.a_ S e) row ay s a5
   have aJ:=CC [e] x S f
   rw[show (x.a_ e).1.aB.length=x.aB.length from aJ.1]at this
   exact this
def NN:b1→Int
 | .begin=>1
 | _=>0
theorem Tn (x:av) (e:b1):((x.a_ e).1.begun:Int)=(x.begun:Int)+NN e:=by
 cases aC:x.refusal e with
 | some w =>
  have aP:x.a_ e=(x,.word w):=by unfold av.a_;rw[aC]
  rw[aP]
  cases e with
  | begin=>cases aC
  | _=>show (x.begun:Int)=(x.begun:Int)+0;omega
 | none =>
  have aP:x.a_ e=x.fy e:=by unfold av.a_;rw[aC]
  rw[aP]
  cases e with
  | begin =>
   have dY:x.fy .begin=if (x.began.full 1).2=true then ((x.began.full 1).1,.word "no room") else ((x.began.full 1).1.opened,.num x.begun):=rfl
   have aN:(x.began.full 1).1.begun=x.begun+1:=kY
   rw[dY]
   split
   ·show ((x.began.full 1).1.begun:Int)=(x.begun:Int)+1
    rw[aN];omega
   ·show ((x.began.full 1).1.begun:Int)=(x.begun:Int)+1
    rw[aN];omega
  | put d p n =>
   have dY:x.fy (.put d p n)=if (x.full 2).2=true then ((x.full 2).1,.word "no room") else ((((x.full 2).1.dA d p.toNat).putIn d p.toNat n),.word "done"):=rfl
   have aN:(x.full 2).1.begun=x.begun:=kY
   rw[dY]
   split
   ·show ((x.full 2).1.begun:Int)=(x.begun:Int)+0
    rw[aN];omega
   ·show ((x.full 2).1.begun:Int)=(x.begun:Int)+0
    rw[aN];omega
  | fin d=>show (x.begun:Int)=(x.begun:Int)+0;omega
  | drop d =>
   show ((x.eu d).begun:Int)=(x.begun:Int)+0
   rw[hL,vF];omega
  | look p=>show (x.begun:Int)=(x.begun:Int)+0;omega
  | carry p =>
   show ((x.ea p.toNat).begun:Int)=(x.begun:Int)+0
   rw[vD];omega
  | cut =>
   show (x.dW.begun:Int)=(x.begun:Int)+0
   rw[vJ];omega
theorem Xd {m9 jm hc gE jl GO jj vf GN oc lC od GL jk ve mu:Addr}{qD kS h2 hg kR Sx kP x7 Sw dL m_ qC Sv kQ x6 nc:FuncData}(F:da K "law" "law" jW f fd) (B:ew ai)
  (vA:aU P w K ai base bf 1 m9 qD rj (DR K)) (vq:Binds K qD rj []) (vd:keepIn K (.ref m9)=true) (d1:ai "_law_at"=some (.ref m9))
  (pK:aU P w K ai base bf 1 jm kS rb CS) (pD:Binds K kS rb []) (xX:keepIn K (.ref jm)=true) (pg:ai "_law_count_by"=some (.ref jm))
  (lH:aU P w K ai base bf 1 hc h2 ri CM) (lF:Binds K h2 ri []) (xU:keepIn K (.ref hc)=true) (jN:ai "_law_pages_of"=some (.ref hc))
  (h9:aU P w K ai base bf 2 gE hg ud CR) (h3:Binds K hg ud []) (ob:keepIn K (.ref gE)=true) (ha:ai "_law_deeds"=some (.ref gE))
  (pI:aU P w K ai base bf 9 jl kR lV Cq) (pC:Binds K kR lV []) (xV:keepIn K (.ref jl)=true) (mN:ai "answers"=some (.ref jl))
  (alq:aU P w K ai base bf 9 GO Sx lV B8) (ak2:Binds K Sx lV []) (akD:keepIn K (.ref GO)=true) (aku:ai "strokes_of"=some (.ref GO))
  (nj:aU P w K ai base bf 5 jj kP uc De) (nf:Binds K kP uc []) (r5:keepIn K (.ref jj)=true) (m5:ai "_law_are_rows"=some (.ref jj))
  (BX:aU P w K ai base bf 1 vf x7 ug CO) (BR:Binds K x7 ug []) (akI:keepIn K (.ref vf)=true) (BH:ai "_law_house_of"=some (.ref vf))
  (alp:aU P w K ai base bf 6 GN Sw t8 Cy) (ak1:Binds K Sw t8 []) (akC:keepIn K (.ref GN)=true) (akt:ai "_law_as_kept"=some (.ref GN))
  (sr:aU P w K ai base bf 2 oc dL t_ CP) (sd:Binds K dL t_ []) (xW:keepIn K (.ref oc)=true) (r3:ai "_law_log_holds"=some (.ref oc))
  (sq:aU P w K ai base bf 2 lC m_ ua Df) (sb:Binds K m_ ua []) (Gy:keepIn K (.ref lC)=true) (n_:ai "_law_replayed"=some (.ref lC))
  (vz:aU P w K ai base bf 2 od qC pZ yC) (vp:Binds K qC pZ []) (BL:keepIn K (.ref od)=true) (va:ai "_law_refusal"=some (.ref od))
  (alo:aU P w K ai base bf 2 GL Sv p3 yL) (ak0:Binds K Sv p3 []) (akB:keepIn K (.ref GL)=true) (aks:ai "_law_needed"=some (.ref GL))
  (ow:aU P w K ai base bf 1 jk kQ oS y4) (oo:Binds K kQ oS []) (vc:keepIn K (.ref jk)=true) (n9:ai "_law_bound"=some (.ref jk))
  (GM:aU P w K ai base bf 1 ve x6 rd Dh) (G0:Binds K x6 rd []) (akF:keepIn K (.ref ve)=true) (Gw:ai "_law_more"=some (.ref ve))
  (pJ:aU P w K ai base bf 1 mu nc t9 DD) (se:Binds K nc t9 []) (akH:keepIn K (.ref mu)=true) (akw:ai "_law_did"=some (.ref mu)) :
  aU P w K ai base bf 10 f fd zQ (zw K):=by
 refine F.ok i4 (fun vs H Q E h=>?_) (fun b4 A outer s H vs Q E aC h=>?_)
 ·obtain⟨a,ns,rfl,_⟩:=h
  rfl
 obtain⟨a,ns,rfl,mq,amg,q⟩:=h
 have a7:=gT aC
 obtain⟨alQ,ahT,wV⟩:∃t,gW (fG bf P w K ai base zR "law" (bF jW) f b4 A outer s H E).k_ ((sZ ((cR jW).getD 14 (.Pass ⟨0,0,0,0⟩))).drop 4) t∧∀(D:Ends) (bU bW fX:Option V) (room:Int) (cl dl fT iw cB cX pu:Addr) (m:Int) (v:V) (e:b1) (H1:ao),Rep H1 e.D v→D.c4 [some (.ref a),bU,bW,some (.int room),some (.ref cl),some (.ref dl),some (.ref fT),some (.ref iw),some (.ref cB),some (.ref cX),some (.ref pu),some (.int (m+NN e)),fX,some v] H1→t D [some (.ref a),bU,bW,some (.int room),some (.ref cl),some (.ref dl),some (.ref fT),some (.ref iw),some (.ref cB),some (.ref cX),some (.ref pu),some (.int m),fX,some v] H1:=by
  refine⟨_,(aZ (dm (i:=11) i4.bl rfl (Or.inl rfl) (c0 gJ (af 11) (h_ vP rfl B.int ur (aq (hx dv (bA bZ (af 13) aW (fun _ _=>rfl)) bw (bY _)) aK))))),?_⟩
  intro D bU bW fX room cl dl fT iw cB cX pu m v e H1 bp ez
  cases e with
  | begin =>
   obtain⟨c,b6,rfl,aj,a4⟩:=kZ bp
   cases a4.str_inv
   exact⟨_,rfl,_,rfl,c,_,_,_,rfl,rfl,aF.of aj,rfl,rfl,.inr ⟨_,rfl,_,_,rfl,rfl,ez⟩⟩
  | put d p n =>
   obtain⟨c,b6,ck,j8,qs,rfl,aj,a4,bH,hq,jK⟩:=qS bp
   cases a4.str_inv
   cases bH.int_inv
   cases hq.int_inv
   cases jK.int_inv
   exact⟨_,rfl,_,rfl,c,_,_,_,rfl,rfl,aF.of aj,rfl,rfl,.inr ⟨_,rfl,_,_,rfl,rfl,ez⟩⟩
  | fin d =>
   obtain⟨c,b6,ck,rfl,aj,a4,bH⟩:=er bp
   cases a4.str_inv
   cases bH.int_inv
   exact⟨_,rfl,_,rfl,c,_,_,_,rfl,rfl,aF.of aj,rfl,rfl,.inr ⟨_,rfl,_,_,rfl,rfl,ez⟩⟩
  | drop d =>
   obtain⟨c,b6,ck,rfl,aj,a4,bH⟩:=er bp
   cases a4.str_inv
   cases bH.int_inv
   exact⟨_,rfl,_,rfl,c,_,_,_,rfl,rfl,aF.of aj,rfl,rfl,.inr ⟨_,rfl,_,_,rfl,rfl,ez⟩⟩
  | look p =>
   obtain⟨c,b6,ck,rfl,aj,a4,bH⟩:=er bp
   cases a4.str_inv
   cases bH.int_inv
   exact⟨_,rfl,_,rfl,c,_,_,_,rfl,rfl,aF.of aj,rfl,rfl,.inr ⟨_,rfl,_,_,rfl,rfl,ez⟩⟩
  | carry p =>
   obtain⟨c,b6,ck,rfl,aj,a4,bH⟩:=er bp
   cases a4.str_inv
   cases bH.int_inv
   exact⟨_,rfl,_,rfl,c,_,_,_,rfl,rfl,aF.of aj,rfl,rfl,.inr ⟨_,rfl,_,_,rfl,rfl,ez⟩⟩
  | cut =>
   obtain⟨c,b6,rfl,aj,a4⟩:=kZ bp
   cases a4.str_inv
   exact⟨_,rfl,_,rfl,c,_,_,_,rfl,rfl,aF.of aj,rfl,rfl,.inr ⟨_,rfl,_,_,rfl,rfl,ez⟩⟩
 obtain⟨amw,akQ,akq⟩:∃t,gW (fG bf P w K ai base zR "law" (bF jW) f b4 A outer s H E).k_ ((cR jW).drop 10) t∧∀(cp dl fT iw:Addr) (bad:List Addr) (ps:List Int) (us lZ:List V) (aE:List b1) (room:Int) (bU bW:Option V) (H1:ao),yg H1 cp dl ps us aE→aE.length≤63→0≤room→H1 fT=some (.lst (((c_ ps room).says aE).map dp.v))→H1 iw=some (.lst lZ)→iN H1 bad ((c_ ps room).rows aE) lZ →
   t { c4:=fun _ au=>Q .cE au,n6:=Q } [some (.ref a),bU,bW,some (.int room),some (.ref cp),some (.ref dl),some (.ref fT),some (.ref iw),none,none,none,none,none,none] H1:=by
  refine⟨_,(bh (dm (i:=8) i4.bl rfl (Or.inl rfl) (h_ nq rfl B.lst ic (aq (af 4) aK))) (bh (dm (i:=9) i4.bl rfl (Or.inl rfl) (fl aK)) (bh (dm (i:=10) i4.bl rfl (Or.inl rfl) vU) (bh (dm (i:=11) i4.bl rfl (Or.inl rfl) aW) (bh (hA PassesOwn.never rfl (qQ rfl B.l0 (aq (dP e8 rfl B.len PySem.boot_len (aq (af 5) aK)) aK)) (fj (i:=12) i4.bl rfl (Or.inl rfl)) (bh (dm (i:=13) i4.bl rfl (Or.inl rfl) (bA eH (af 5) (af 12) (fun _ _=>rfl))) (bh (b_ (hM (gy (dt sr (b9 aC) rfl r3 xW sd .nil cP (aq (af 4) (aq (af 9) (aq (bA eH (af 7) (af 12) (fun _ _=>rfl)) (aq (af 3) aK))))))) (aZ (cF fF)) cZ) (bh (oH (dt sq (b9 aC) rfl n_ Gy sb .nil cP (aq (af 4) (aq (af 9) (aq (bA eH (af 7) (af 12) (fun _ _=>rfl)) aK)))) (pU rfl (jr (fj (i:=4) i4.bl rfl (Or.inl rfl)) (jr (fj (i:=9) i4.bl rfl (Or.inl rfl)) pQ)))) (bh (b_ (cn dv (dt vz (b9 aC) rfl va BL vp .nil cP (aq (af 10) (aq (af 8) (aq (af 13) aK)))) bw (bY _)) (aZ (b_ (oD (gy (dP jt rfl B.i_ i6 (aq (bA eH (af 6) (af 12) (fun _ _=>rfl)) (aq (iL (v:=.ty "str") rfl B.str wN rfl) aK)))) (cn dv (bA eH (af 6) (af 12) (fun _ _=>rfl)) bw (bY _))) (bh (b_ (lQ (oD (cn i5 (bA bZ (af 13) aW (fun _ _=>rfl)) bw (bY _)) (cn i5 (bA bZ (af 13) aW (fun _ _=>rfl)) bw (bY _))) (cn (UD (Nat.lt_of_succ_lt a7)) (af 4) (af 8) (bY _))) (aZ (cF fF)) cZ) (bh (b_ (cn pX (dt alo (b9 aC) rfl aks akB ak0 .nil cP (aq (af 4) (aq (af 8) (aq (af 9) (aq (af 10) aK))))) aW (bY _)) (aZ (cF fF)) cZ) (aZ (b_ (cn DH (c0 gJ (c0 gJ (dP e8 rfl B.len PySem.boot_len (aq (af 9) aK)) (dt ow (b9 aC) rfl n9 vc oo .nil cP (aq (af 10) aK))) (dt GM (b9 aC) rfl Gw akF G0 .nil cP (aq (af 13) aK))) (af 3) (bY _)) (aZ (cF fF)) cZ)))) (bh (dz (dt pJ (b9 aC) rfl akw akH se .nil cP (aq (af 10) (aq (af 8) (aq (af 13) (aq (af 11) aK)))))) (aZ (b_ (cn pX (c0 gJ (dP e8 rfl B.len PySem.boot_len (aq (af 9) aK)) (dt ow (b9 aC) rfl n9 vc oo .nil cP (aq (af 10) aK))) (af 3) (bY _)) (aZ (cF fF)) cZ))))) cZ) ahT))))) (aZ (cF fF))))))),?_⟩
  intro cp dl fT iw bad ps us lZ aE room bU bW H1 L xH n7 rI N1 ale
  have nL:us.length=aE.length:=by rw[bk.length L.iy,length_map]
  refine⟨_,rfl,cp,_,rfl,.inl (aR.of L.aI),fun cB Oc=>?_⟩
  have s2:=bP Oc (.lst (ps.map V.int))
  have aN:(upd H1 cB (.lst (ps.map V.int))) cB=some (.lst (ps.map V.int)):=aQ
  generalize upd H1 cB (.lst (ps.map V.int))=au at s2 aN ⊢
  refine⟨cS,fun cX j4=>?_⟩
  have s3:=bP j4 (.lst [])
  have b2:(upd au cX (.lst [])) cX=some (.lst []):=aQ
  have eL:H1 cX=none:=s2.free j4
  have ej:cX≠cB:=fun z=>by rw[z,aN]at j4;cases j4
  generalize upd au cX (.lst [])=a9 at s3 b2 ⊢
  refine fun pu hn=>?_
  have s4:=bP hn (.bQ [])
  have cj:(upd a9 pu (.bQ [])) pu=some (.bQ []):=aQ
  have f4:H1 pu=none:=(s2.trans s3).free hn
  have e4:cB≠pu:=fun z=>by rw[←z,s3 _ _ aN]at hn;cases hn
  have fL:cX≠pu:=fun z=>by rw[←z,b2]at hn;cases hn
  generalize upd a9 pu (.bQ [])=cO at s4 cj ⊢
  have hH:=s2.trans (s3.trans s4)
  have alg:d_ cO cB cB cB cB pu cB [] (c_ ps room):=⟨s4 _ _ (s3 _ _ aN),cj,rfl,fun i z w h=>(by cases h),nodup_nil,nodup_cons.mpr ⟨fun m=>e4 (mem_singleton.mp m),nodup_cons.mpr ⟨not_mem_nil,nodup_nil⟩⟩⟩
  have rN:∀b,b∈ie cB pu []→H1 b=none:=fun b aa=>by
   rcases mem_cons.mp aa with z | z
   ·rw[z];exact Oc
   ·rw[mem_singleton.mp z];exact f4
  refine⟨_,rfl,dl,us,rfl,.inl (aR.of (hH _ _ L.hd)),_,rfl,by omega,by omega,sH (fun i σ d4=>∃(cl cX:Addr) (pl:List (Int × Addr)) (xs:List V) (fX fW:Option V),σ=[some (.ref a),bU,bW,some (.int room),some (.ref cl),some (.ref dl),some (.ref fT),some (.ref iw),some (.ref cB),some (.ref cX),some (.ref pu),some (.int ((((c_ ps room).run (aE.take i)).begun:Nat):Int)),fX,fW]∧d_ d4 cB cB cB cB pu cB pl ((c_ ps room).run (aE.take i))∧bI H1 d4∧(∀b,b∈ie cB pu pl→H1 b=none) ∧
    d4 cl=some (.lst (((c_ ps room).run (aE.take i)).b0.map V.int))∧cl∉ie cB pu pl∧d4 cX=some (.lst xs)∧gj d4 ((c_ ps room).run (aE.take i)).log xs∧cX∉ie cB pu pl)
   ⟨cp,cX,[],[],none,none,rfl,alg,hH,rN,hH _ _ L.aI,fun m=>(by have:=rN _ m;rw[L.aI]at this;cases this),s4 _ _ b2,gU.nil,fun m=>(mem_cons.mp m).elim ej fun z=>fL (mem_singleton.mp z)⟩ ?_ ?_⟩
  ·rintro i σ d4 jF ⟨cl,cX,hl,xs,fX,fW,rfl,G7,iJ,jG,qj,Ez,j4,z9,agB⟩
   have e0:(0:Int)+(i:Int)=((i:Nat):Int):=by omega
   rw[e0]
   have aL:i<us.length:=by omega
   obtain⟨v,br⟩:∃v,us[i]?=some v:=⟨_,getElem?_eq_getElem aL⟩
   obtain⟨e,he,re⟩:=mB L.iy br
   have lt:(aE.take i).length=i:=by rw[length_take];omega
   have gF:=(yW (room:=room) L.hX L.fQ).run (aE.take i) (by omega)
   rw[lt,zero_add]at gF
   obtain⟨vt,mw⟩:=Ih (aE.take i) (Ct ps room) (C7 n7)
   have Eo:((c_ ps room).run (aE.take i)).room=room:=(CC (aE.take i) (c_ ps room) (Ct ps room) (C7 n7)).2
   have a6:(c_ ps room).run (aE.take (i+1))=(((c_ ps room).run (aE.take i)).a_ e).1:=by
    have ay:aE.take (i+1)=aE.take i++[e]:=by rw[take_add_one,he];rfl
    rw[ay,yO]
   have jX:(((c_ ps room).says aE).map dp.v)[i]?=some (((c_ ps room).run (aE.take i)).a_ e).2.v:=by
    rw[getElem?_map,CA aE _ i e he]
    rfl
   obtain⟨b,zs,bg,hz,jf⟩:=Ip ale (C0 aE _ i e he)
   rw[a6]
   generalize (c_ ps room).run (aE.take i)=x at G7 qj z9 gF vt mw Eo jX jf ⊢
   have jQ:=gF.a_ (by omega) e
   have e6:=mw.a_ vt e
   have nd:=Tn x e
   obtain⟨Bt,z,akp,qt,ako⟩:=CD vt mw e
   have p7:Bt.aB=x.aB∧Bt.b0=x.b0∧Bt.log=x.log∧Bt.room=x.room:=by rcases akp with rfl | rfl <;> exact⟨rfl,rfl,rfl,rfl⟩
   have Bs:(x.a_ e).1.b0=z.b0∧(x.a_ e).1.log=z.log∧(x.a_ e).1.room=z.room:=by
    rcases ako with h | h
    ·rw[h];exact⟨rfl,rfl,rfl⟩
    ·rw[h];exact⟨rfl,rfl,rfl⟩
   have Gq:=Iu qt
   have BB:=qt.qn
   have amz:=yq x
   have ahi:(x.log.length:Int)≤x.room:=by have ay:(x.log.length:Int)+x.bound≤x.room:=mw;omega
   have K4:=qt.low (by rw[p7.2.2.1,p7.2.2.2];exact ahi)
   have af0:(x.a_ e).1.room=room:=by rw[Bs.2.2,qt.facts.2.2.1,p7.2.2.2,Eo]
   have r9:((x.a_ e).1.log.length:Int)+(x.a_ e).1.bound≤room:=by rw[←af0];exact e6
   rw[p7.1,←vt.cd]at Gq
   rw[p7.2.1,p7.2.2.1]at BB
   rw[p7.2.2.1,p7.2.2.2,Eo]at K4
   rw[←Bs.1,←Bs.2.1]at BB
   have Lh:(x.row e).length≤300 * (i+1):=by
    have ay:=(gF.bare.a_ (by omega) e).dc
    exact ay
   have MU:x.b0.length≤1000:=by have:=gF.eF;rw[vt.cd];omega
   have MT:x.log.length+(x.row e).length≤100000:=by have:=gF.iA;omega
   refine⟨_,rfl,_,rfl,dl,_,_,_,rfl,rfl,aR.of (iJ _ _ L.hd),k4 br,?_⟩
   refine⟨_,rfl,_,rfl,_,rfl,_,rfl,iw,_,_,_,rfl,rfl,aR.of (iJ _ _ N1),k4 bg,_,rfl,cl,cX,b,_,xs,zs,_,_,room,rfl,qj,j4,z9,iJ _ _ hz,bk.mono iJ _ _ jf,Gq,MU,MT,K4,fun kW je=>⟨_,rfl,cU ?_⟩⟩
   have ou:=iJ.trans je
   refine⟨_,rfl,_,rfl,_,rfl,_,rfl,iw,_,_,_,rfl,rfl,aR.of (ou _ _ N1),k4 bg,cl,cX,b,_,xs,zs,_,_,rfl,je _ _ qj,je _ _ j4,z9.mono fun _ _ q=>q.mono je.et,ou _ _ hz,bk.mono ou _ _ jf,Gq,MU,MT,fun r iX gr ys fP e_ eE fC eN uz b5 gG=>?_⟩
   refine⟨r,_,rfl,aF.of eE,rfl,_,_,rfl,_,_,rfl,rfl,?_⟩
   rw[←BB.1]at fC
   rw[←BB.2]at uz
   have iI:=ou.trans e_
   have h7:=G7.same (je.trans e_)
   have K8:∀b,b∈ie cB pu hl→kW b≠none:=fun b aa z=>(G7.same je).there z aa
   have rz:iX∉ie cB pu hl:=b5.elim (fun z=>by rw[z];exact Ez) fun z m=>K8 _ m z
   have gK:gr∉ie cB pu hl:=gG.elim (fun z=>by rw[z];exact agB) fun z m=>K8 _ m z
   have qa:=Rep.mono iI _ _ re
   have gg:(x.a_ e).1.log.length=ys.length:=uz.1
   clear je e_ eE b5 gG qj j4 z9
   refine⟨_,rfl,_,rfl,_,rfl,cB,cB,cB,cB,pu,cB,hl,x,v,e,rfl,h7,qa,gF.fs,fun z hz=>(gF.ei z hz).1,fun hi e_=>?_⟩
   have iJ:=iI
   have iI:=iJ.trans e_
   have h7:=h7.same e_
   have qa:=Rep.mono e_ _ _ qa
   cases c7:x.refusal e with
   | some ww =>
    have aP:x.a_ e=(x,.word ww):=by unfold av.a_;rw[c7]
    refine⟨rfl,_,rfl,bx (qL c7) ?_⟩
    refine wV _ _ _ _ _ _ _ _ _ _ _ _ _ _ _ _ qa ?_
    have aJ:(x.a_ e).1=x:=by rw[aP]
    refine⟨iX,gr,hl,ys,_,_,by rw[nd],h7.of (by rw[aJ]) (by rw[aJ]),iI,jG,e_ _ _ fC,rz,e_ _ _ eN,uz.mono fun _ _ q=>q.mono e_.et,gK⟩
   | none =>
    refine⟨rfl,_,rfl,dS rfl ?_⟩
    by_cases rF:(x.a_ e).2=.word "no room"
    ·obtain⟨aim,lA⟩:=Th vt.cd c7 rF
     have jX:(((c_ ps room).says aE).map dp.v)[i]?=some (V.str "no room"):=by rw[jX,rF];rfl
     have pf:ee (x.a_ e).1.b0 x.aB x.isOpen (x.a_ e).1.log=0:=by
      have ay:=lA.nn
      have aG:(x.a_ e).1.isOpen=x.isOpen:=funext fun d=>vB lA.pu d
      rw[lA.ak,aG]at ay
      exact ay
     have Af:=lA.lo
     have nS:=e_ _ _ fC
     have uW:=e_ _ _ eN
     have r4:gj hi (x.a_ e).1.log ys:=uz.mono fun _ _ q=>q.mono e_.et
     have MA:∀ln∈(x.a_ e).1.log,ln.ok x.aB.length:=by rw[←lA.ak];exact jQ.ok
     have qe:(x.a_ e).1.log.length≤100000:=by have:=jQ.iA;omega
     refine⟨_,rfl,_,rfl,fT,_,_,_,rfl,rfl,aR.of (iI _ _ rI),k4 jX,_,_,_,_,rfl,.str _,oB K,_,rfl,fm ?_⟩
     refine⟨_,rfl,_,rfl,fT,_,_,_,rfl,rfl,aR.of (iI _ _ rI),k4 jX,rfl,_,rfl,dS rfl ?_⟩
     rcases aim with rfl | ⟨d,p,n,rfl⟩
     ·obtain⟨c,b6,rfl,aj,a4⟩:=kZ qa
      cases a4.str_inv
      refine⟨_,rfl,c,_,_,_,rfl,rfl,aF.of aj,rfl,rfl,_,rfl,mJ rfl ?_⟩
      refine⟨_,rfl,_,rfl,iX,cB,x.aB,rfl,rfl,by rw[←lA.ce];exact nS,h7.hd,_,rfl,cU ?_⟩
      refine⟨_,rfl,_,rfl,_,rfl,_,rfl,iX,cB,gr,pu,_,_,ys,_,_,x.isOpen,rfl,nS,h7.hd,by rw[lA.ce],uW,r4,MA,qe,h7.aI,h7.isOpen,fun pH f3=>?_⟩
      rw[pf]
      refine⟨_,_,rfl,rfl,_,rfl,bx (by decide) ?_⟩
      refine⟨_,rfl,gr,ys,rfl,.inl (aR.of (f3 _ _ uW)),_,rfl,cB,cB,cB,cB,pu,cB,hl,x,rfl,h7.same f3,by have:=gF.pl;omega,fun xG nK=>?_⟩
      refine⟨_,_,rfl,rfl,_,rfl,_,_,rfl,Rep.mono (iI.trans (f3.trans nK)) _ _ re,fun m hm=>?_⟩
      refine⟨_,_,rfl,rfl,_,rfl,_,_,rfl,rfl,_,rfl,bx (by omega) ?_⟩
      have i8:=f3.trans nK
      refine wV _ _ _ _ _ _ _ _ _ _ _ _ _ _ _ _ (Rep.mono (iI.trans i8) _ _ re) ?_
      exact⟨iX,gr,hl,ys,_,_,by rw[nd],(h7.same i8).of lA.ak lA.pu,iI.trans i8,jG,i8 _ _ nS,rz,i8 _ _ uW,r4.mono fun _ _ q=>q.mono i8.et,gK⟩
     ·obtain⟨c,b6,ck,j8,qs,rfl,aj,a4,bH,hq,jK⟩:=qS qa
      cases a4.str_inv
      refine⟨_,rfl,c,_,_,_,rfl,rfl,aF.of aj,rfl,rfl,_,rfl,nF (by decide +kernel) ?_⟩
      refine⟨_,rfl,c,_,_,_,rfl,rfl,aF.of aj,rfl,rfl,_,rfl,mJ rfl ?_⟩
      refine⟨_,rfl,_,rfl,iX,cB,x.aB,rfl,rfl,by rw[←lA.ce];exact nS,h7.hd,_,rfl,cU ?_⟩
      refine⟨_,rfl,_,rfl,_,rfl,_,rfl,iX,cB,gr,pu,_,_,ys,_,_,x.isOpen,rfl,nS,h7.hd,by rw[lA.ce],uW,r4,MA,qe,h7.aI,h7.isOpen,fun pH f3=>?_⟩
      rw[pf]
      refine⟨_,_,rfl,rfl,_,rfl,bx (by decide) ?_⟩
      refine⟨_,rfl,gr,ys,rfl,.inl (aR.of (f3 _ _ uW)),_,rfl,cB,cB,cB,cB,pu,cB,hl,x,rfl,h7.same f3,by have:=gF.pl;omega,fun xG nK=>?_⟩
      refine⟨_,_,rfl,rfl,_,rfl,_,_,rfl,Rep.mono (iI.trans (f3.trans nK)) _ _ re,fun m hm=>?_⟩
      refine⟨_,_,rfl,rfl,_,rfl,_,_,rfl,rfl,_,rfl,bx (by omega) ?_⟩
      have i8:=f3.trans nK
      refine wV _ _ _ _ _ _ _ _ _ _ _ _ _ _ _ _ (Rep.mono (iI.trans i8) _ _ re) ?_
      exact⟨iX,gr,hl,ys,_,_,by rw[nd],(h7.same i8).of lA.ak lA.pu,iI.trans i8,jG,i8 _ _ nS,rz,i8 _ _ uW,r4.mono fun _ _ q=>q.mono i8.et,gK⟩
    ·cases FF:(x.a_ e).2 with
     | num pe =>
      have jX:(((c_ ps room).says aE).map dp.v)[i]?=some (V.int pe):=by rw[jX,FF];rfl
      refine⟨_,rfl,_,rfl,fT,_,_,_,rfl,rfl,aR.of (iI _ _ rI),k4 jX,_,_,_,_,rfl,.int _,HM K,_,rfl,cU ?_⟩
      refine⟨_,rfl,_,rfl,_,rfl,_,rfl,cB,cB,cB,cB,pu,cB,hl,x,v,e,i,rfl,h7,qa,c7,gF,by omega,fun wW hi G6 g_ gM=>?_⟩
      obtain⟨fs,eF⟩:=J5 c7 rF
      have yf:=G6.of (y:=(x.a_ e).1) fs eF
      have qe:hi gr=some (.lst ys):=g_ _ _ gK (e_ _ _ eN)
      have nS:hi iX=some (.lst ((x.a_ e).1.b0.map V.int)):=g_ _ _ rz (e_ _ _ fC)
      have EH:=h7.et g_
      refine⟨_,rfl,gr,ys,rfl,.inl (aR.of qe),_,rfl,cB,cB,cB,cB,pu,cB,wW,_,rfl,yf,by have:=jQ.pl;omega,fun pH f3=>?_⟩
      refine⟨_,_,rfl,rfl,_,rfl,_,_,rfl,rfl,_,rfl,bx (by omega) ?_⟩
      have yd:bI H1 pH:=fun b o z=>f3 _ _ (g_ b o (fun m=>by rw[jG b m]at z;cases z) ((iJ.trans e_) _ _ z))
      refine wV _ _ _ _ _ _ _ _ _ _ _ _ _ _ _ _ (Rep.mono yd _ _ re) ?_
      refine⟨iX,gr,wW,ys,_,_,by rw[nd],yf.same f3,yd,fun b aa=>?_,f3 _ _ nS,fun hm=>?_,f3 _ _ qe,uz.mono fun _ _ q=>(q.mono (e_.et)).mono (fun b xs z=>f3 _ _ (EH b xs z)),fun hm=>?_⟩
      ·rcases gM b aa with m | m
       ·exact jG b m
       ·exact (iJ.trans e_).free m
      ·rcases gM _ hm with m | m
       ·exact rz m
       ·rw[(e_ _ _ fC)]at m;cases m
      ·rcases gM _ hm with m | m
       ·exact gK m
       ·rw[(e_ _ _ eN)]at m;cases m
     | word ww =>
      have jX:(((c_ ps room).says aE).map dp.v)[i]?=some (V.str ww):=by rw[jX,FF];rfl
      refine⟨_,rfl,_,rfl,fT,_,_,_,rfl,rfl,aR.of (iI _ _ rI),k4 jX,_,_,_,_,rfl,.str _,oB K,_,rfl,fm ?_⟩
      refine⟨_,rfl,_,rfl,fT,_,_,_,rfl,rfl,aR.of (iI _ _ rI),k4 jX,rfl,_,rfl,bx (fun z=>rF (by rw[FF];cases z;rfl)) ?_⟩
      refine⟨_,rfl,_,rfl,_,rfl,_,rfl,cB,cB,cB,cB,pu,cB,hl,x,v,e,i,rfl,h7,qa,c7,gF,by omega,fun wW hi G6 g_ gM=>?_⟩
      obtain⟨fs,eF⟩:=J5 c7 rF
      have yf:=G6.of (y:=(x.a_ e).1) fs eF
      have qe:hi gr=some (.lst ys):=g_ _ _ gK (e_ _ _ eN)
      have nS:hi iX=some (.lst ((x.a_ e).1.b0.map V.int)):=g_ _ _ rz (e_ _ _ fC)
      have EH:=h7.et g_
      refine⟨_,rfl,gr,ys,rfl,.inl (aR.of qe),_,rfl,cB,cB,cB,cB,pu,cB,wW,_,rfl,yf,by have:=jQ.pl;omega,fun pH f3=>?_⟩
      refine⟨_,_,rfl,rfl,_,rfl,_,_,rfl,rfl,_,rfl,bx (by omega) ?_⟩
      have yd:bI H1 pH:=fun b o z=>f3 _ _ (g_ b o (fun m=>by rw[jG b m]at z;cases z) ((iJ.trans e_) _ _ z))
      refine wV _ _ _ _ _ _ _ _ _ _ _ _ _ _ _ _ (Rep.mono yd _ _ re) ?_
      refine⟨iX,gr,wW,ys,_,_,by rw[nd],yf.same f3,yd,fun b aa=>?_,f3 _ _ nS,fun hm=>?_,f3 _ _ qe,uz.mono fun _ _ q=>(q.mono (e_.et)).mono (fun b xs z=>f3 _ _ (EH b xs z)),fun hm=>?_⟩
      ·rcases gM b aa with m | m
       ·exact jG b m
       ·exact (iJ.trans e_).free m
      ·rcases gM _ hm with m | m
       ·exact rz m
       ·rw[(e_ _ _ fC)]at m;cases m
      ·rcases gM _ hm with m | m
       ·exact gK m
       ·rw[(e_ _ _ eN)]at m;cases m
  ·rintro σ d4 _
   exact q d4
 obtain⟨t3,ct,eV⟩:∃t,gW (fG bf P w K ai base zR "law" (bF jW) f b4 A outer s H E).k_ ((cR jW).drop 3) t∧∀(bU:Option V) (c room:Int) (au:ao),bI H au→1≤c→c≤40→0≤room →
   t { c4:=fun _ au=>Q .cE au,n6:=Q } [some (.ref a),bU,some (.int c),some (.int room),none,none,none,none,none,none,none,none,none,none] au:=by
  refine⟨_,(bh (dm (i:=4) i4.bl rfl (Or.inl rfl) (dt lH (b9 aC) rfl jN xU lF .nil cP (aq (dt vA (b9 aC) rfl d1 vd vq .nil cP (aq (af 0) (aq aW aK))) (aq (af 2) aK)))) (bh (dm (i:=5) i4.bl rfl (Or.inl rfl) (dt h9 (b9 aC) rfl ha ob h3 .nil cP (aq (nv pP (af 0) (ny aW) nA) (aq (af 2) aK)))) (bh (dm (i:=6) i4.bl rfl (Or.inl rfl) (dt pI (b9 aC) rfl mN xV pC .nil cP (aq (h_ nq rfl B.lst ic (aq (af 4) aK)) (aq (af 3) (aq (h_ nq rfl B.lst ic (aq (af 5) aK)) aK))))) (bh (dm (i:=7) i4.bl rfl (Or.inl rfl) (dt alq (b9 aC) rfl aku akD ak2 .nil cP (aq (h_ nq rfl B.lst ic (aq (af 4) aK)) (aq (af 3) (aq (h_ nq rfl B.lst ic (aq (af 5) aK)) aK))))) (bh (b_ (lQ (hM (gy (dP jt rfl B.i_ i6 (aq (af 6) (aq (iL (v:=.ty "list") rfl B.lst ic rfl) aK))))) (cn i5 (dP e8 rfl B.len PySem.boot_len (aq (af 6) aK)) (dP e8 rfl B.len PySem.boot_len (aq (af 5) aK)) (bY _))) (aZ (cF fF)) cZ) (bh (b_ (hM (gy (dt nj (b9 aC) rfl m5 r5 nf .nil cP (aq (af 7) (aq (af 2) (aq (dP e8 rfl B.len PySem.boot_len (aq (af 5) aK)) aK)))))) (aZ (cF fF)) cZ) (bh (b_ (hM (gy (dt alp (b9 aC) rfl akt akC ak1 .nil cP (aq (af 6) (aq (af 7) (aq (af 5) (aq (dt BX (b9 aC) rfl BH akI BR .nil cP (aq (af 4) (aq (af 3) aK))) aK))))))) (aZ (cF fF)) cZ) akQ))))))),?_⟩
  intro bU c room au gb rL cc n7
  refine⟨_,rfl,a,ns,1,rfl,gb.seq mq,by decide,fun cell=>⟨_,rfl,cell,c,rfl,rL,by omega,fun cp ps a9 s3 eL b2 qx=>?_⟩⟩
  have gw:=gb.trans s3
  refine⟨_,rfl,_,rfl,a,_,rfl,gw.seq mq,fun cL ay=>?_⟩
  have Ow:(upd a9 cL (.lst (eS (ns.map V.int) (some 2) none))) cL=some (.lst ((ns.drop 2).map V.int)):=by
   rw[aQ]
   exact congrArg (fun l=>some (fh.lst l)) (VZ ns 2)
  have s4:=bP ay (.lst (eS (ns.map V.int) (some 2) none))
  generalize upd a9 cL (.lst (eS (ns.map V.int) (some 2) none))=cO at s4 Ow ⊢
  have j2:(ns.drop 2).length≤63:=by rw[length_drop];omega
  refine⟨_,rfl,cL,ns.drop 2,c,rfl,Ow,j2,rL,cc,fun dl us aE fP s5 eE pd Gg gp=>?_⟩
  have ajA:=s4.trans s5
  have G_:yg fP cp dl ps us aE:=⟨ajA _ _ b2,by omega,by omega,eE,pd,by omega,gp⟩
  have nL:us.length=aE.length:=by rw[bk.length G_.iy,length_map]
  refine⟨_,rfl,cp,_,rfl,.inl (aR.of G_.aI),fun e7 Oh=>?_⟩
  have ly:=bP Oh (.lst (ps.map V.int))
  have pA:(upd fP e7 (.lst (ps.map V.int))) e7=some (.lst (ps.map V.int)):=aQ
  generalize upd fP e7 (.lst (ps.map V.int))=hi at ly pA ⊢
  have SR:=G_.mono ly
  refine⟨_,rfl,_,rfl,dl,_,rfl,.inl (aR.of SR.hd),fun fO o3=>?_⟩
  have f3:=bP o3 (.lst us)
  have x4:(upd hi fO (.lst us)) fO=some (.lst us):=aQ
  generalize upd hi fO (.lst us)=pH at f3 x4 ⊢
  have vy:=SR.mono f3
  refine⟨e7,fO,ps,room,us,aE,rfl,f3 _ _ pA,vy.hX,vy.fQ,x4,vy.iy,vy.xH,vy.Gl,fun fT xG nK aiB=>?_⟩
  have QU:=vy.mono nK
  refine⟨_,rfl,cp,_,rfl,.inl (aR.of QU.aI),fun i1 o2=>?_⟩
  have i8:=bP o2 (.lst (ps.map V.int))
  have nW:(upd xG i1 (.lst (ps.map V.int))) i1=some (.lst (ps.map V.int)):=aQ
  generalize upd xG i1 (.lst (ps.map V.int))=QX at i8 nW ⊢
  have QT:=QU.mono i8
  refine⟨_,rfl,_,rfl,dl,_,rfl,.inl (aR.of QT.hd),fun oq jG=>?_⟩
  have z6:=bP jG (.lst us)
  have uY:(upd QX oq (.lst us)) oq=some (.lst us):=aQ
  generalize upd QX oq (.lst us)=amq at z6 uY ⊢
  have u0:=QT.mono z6
  refine⟨i1,oq,ps,room,us,aE,rfl,z6 _ _ nW,u0.hX,u0.fQ,uY,u0.iy,u0.xH,u0.Gl,fun iw bad lZ amo Mu _ nV QM _=>?_⟩
  have F8:=u0.mono Mu
  have nR:=(i8.trans (z6.trans Mu)) _ _ aiB
  have ahj:(((c_ ps room).says aE).map dp.v).length=us.length:=by rw[length_map,B9,nL]
  refine⟨_,rfl,_,_,_,_,rfl,.lst nR,vC K,_,rfl,cU ?_⟩
  refine⟨_,rfl,fT,_,rfl,.inl (aR.of nR),_,rfl,dl,_,rfl,.inl (aR.of F8.hd),rfl,_,rfl,mJ (by rw[ahj]) ?_⟩
  have Sd:((c_ ps room).rows aE).length=us.length:=by rw[B_,nL]
  have akZ:c=((ps.length:Nat):Int):=by omega
  rw[akZ]
  refine⟨_,rfl,_,rfl,_,rfl,dl,_,rfl,.inl (aR.of F8.hd),iw,bad,lZ,(c_ ps room).rows aE,ps.length,by rw[Sd];rfl,nV,QM,?_,fun ajE z5=>⟨_,rfl,cU ?_⟩⟩
  ·exact Io aE (c_ ps room) (Ct ps room) (C7 n7)
  have uZ:=F8.mono z5
  have o7:=z5 _ _ nR
  have lq:=z5 _ _ nV
  have QL:=QM.same z5
  refine⟨_,rfl,_,rfl,_,rfl,_,rfl,_,rfl,cp,ps,room,rfl,uZ.aI,fun h ce ak lo pu st amn afY aj9 fr=>?_⟩
  refine⟨ajE,fT,iw,dl,h,ce,ak,lo,pu,st,bad,ps,room,us,lZ,aE,rfl,afY,o7,lq,QL,uZ.hd,uZ.iy,Gg,uZ.hX,uZ.fQ,aj9,fr,fun amm z4=>⟨_,rfl,cU ?_⟩⟩
  exact akq cp dl fT iw bad ps us lZ aE room _ _ _ (uZ.mono z4) Gg n7 (z4 _ _ o7) (z4 _ _ lq) (QL.same z4)
 refine⟨_,(bh (dm (i:=1) i4.bl rfl (Or.inl rfl) (dt vA (b9 aC) rfl d1 vd vq .nil cP (aq (af 0) (aq aW aK)))) (bh (dm (i:=2) i4.bl rfl (Or.inl rfl) (dt pK (b9 aC) rfl pg xX pD .nil cP (aq (af 1) aK))) (bh (dm (i:=3) i4.bl rfl (Or.inl rfl) (bA eH (fl (aq (c0 jv (c0 v5 (af 1) aW) aW) (aq (c0 jv (af 1) (c0 Dv aW aW)) aK))) (h_ vP rfl B.int ur (aq (hx dv (c0 jv (c0 v5 (af 1) aW) aW) aW (bY _)) aK)) (fun _ _=>rfl))) ct))),?_⟩
 refine⟨_,rfl,a,ns,0,rfl,mq,by decide,fun hd=>?_⟩
 refine⟨_,rfl,hd,rfl,fun c H1 rL cc s1=>?_⟩
 refine⟨_,rfl,_,_,rfl,rfl,⟨by decide,by decide⟩,_,_,rfl,rfl,(by decide:(0:Int)<16),_,rfl,_,_,rfl,rfl,⟨by decide,by decide,by decide⟩,_,_,rfl,rfl,(show (0:Int)<10 ^ (30:Int).toNat by decide),cS,fun t a6=>?_⟩
 refine⟨_,rfl,_,_,rfl,rfl,⟨by decide,by decide⟩,_,_,rfl,rfl,(by decide:(0:Int)<4),rfl,.inr ⟨_,rfl,C_ aQ ?_ ?_ _⟩⟩
 ·exact eV _ _ _ _ (s1.trans (bP a6 _)) rL cc (Int.emod_nonneg _ (by decide))
 ·exact eV _ _ _ _ (s1.trans (bP a6 _)) rL cc (Int.emod_nonneg _ (by decide))
end
theorem Xx {K:PySem.W.Frag}{ai:Str→Option Value}{a b c d:Addr}(E:rU K ai a b c d) (nW:exmOne K (.ref a) (.ref a)=some true) (uY:exmOne K (.ref a) (.ref b)=some false) (nV:exmOne K (.ref a) (.ref c)=some false) (lq:exmOne K (.ref a) (.ref d)=some false)
  (OE:exmOne K (.ref b) (.ref a)=some false) (uX:exmOne K (.ref b) (.ref b)=some true) (rP:exmOne K (.ref b) (.ref c)=some false) (nU:exmOne K (.ref b) (.ref d)=some false)
  (OC:exmOne K (.ref c) (.ref a)=some false) (OB:exmOne K (.ref c) (.ref b)=some false) (xy:exmOne K (.ref c) (.ref c)=some true) (nT:exmOne K (.ref c) (.ref d)=some false)
  (OA:exmOne K (.ref d) (.ref a)=some false) (Oz:exmOne K (.ref d) (.ref b)=some false) (Ox:exmOne K (.ref d) (.ref c)=some false) (Bh:exmOne K (.ref d) (.ref d)=some true):wO K ai a b c d:=by
 have ne:∀{x y:Addr},exmOne K (.ref x) (.ref x)=some true→exmOne K (.ref x) (.ref y)=some false→x≠y:=fun ay aG z=>by
  subst z
  rw[ay]at aG
  cases aG
 have t:∀{x:Addr},exmOne K (.ref x) (.ref x)=some true→exmOne K (.ref x) (.ref x)=some (x == x):=fun h=>by rw[h,beq_self_eq_true]
 have f:∀{x y:Addr},x≠y→exmOne K (.ref x) (.ref y)=some false→exmOne K (.ref x) (.ref y)=some (x == y):=fun n h=>by rw[h,beq_eq_false_iff_ne.mpr n]
 refine⟨E,fun p aI q bN=>?_,?_⟩
 ·simp only[mem_cons,not_mem_nil,or_false]at aI bN
  rcases aI with rfl | rfl | rfl | rfl <;> rcases bN with rfl | rfl | rfl | rfl
  ·exact t nW
  ·exact f (ne nW uY) uY
  ·exact f (ne nW nV) nV
  ·exact f (ne nW lq) lq
  ·exact f (ne uX OE) OE
  ·exact t uX
  ·exact f (ne uX rP) rP
  ·exact f (ne uX nU) nU
  ·exact f (ne xy OC) OC
  ·exact f (ne xy OB) OB
  ·exact t xy
  ·exact f (ne xy nT) nT
  ·exact f (ne Bh OA) OA
  ·exact f (ne Bh Oz) Oz
  ·exact f (ne Bh Ox) Ox
  ·exact t Bh
 ·simp[ne nW uY,ne nW nV,ne nW lq,ne uX rP,ne uX nU,ne xy nT]
theorem all_mk {l:PySem.W.OpenLaw}{w:World}{K:PySem.W.Frag}{h:Heap}{ai:Str→Option Value}{e5 fi cY iH h4 hh iG f1 f2 eL f4 e6 r9 vl f8 vj uU uT uS nR o7 uR uQ uP uO Bf Be Bd Bc Bb Ba A_ A9 A8 A7 A6 A5 A4 A3 A2 A1 A0 AZ AY AX AW AV AU AS AR AQ AP AO AN AM AL AK AJ AI AH AG FO:Addr}(X:K.In h) (G:h.Ns mainGlobals ai) (aih:ai "law"=some (.ref e5))
  {agn ajz agm ajy agl ajx agk ajw agj ajv agi aju agh ajt agg ajs agf ajr abh afy abg afx abf afw abe afv abd afu abc aft abb afs aba afr aa9 afq aa8 afp aa7 afo aa6 afn aa5 afm aa4 afl aa3 afk aa2 afj aa1 afi aa0 afh aaZ afg aaY afe aaX afd aaW afc aaV afb aaU afa aaT ae9 aaS ae8 aaR ae7 aaQ ae6 aaP ae5 aaO ae4 aaN ae3 aaM ae2 aaL ae1 aaK ae0 aaJ aeZ aaI aeY aaH aeX aaG aeW aaF aeV aaE aeU aaD aeT aaC aeS aaB aeR aaA aeQ aaz aeP aay Mk:Option Addr} {afV afU afT afS afR afQ afP afO afN Zq Zp Zo Zn Zm Zl Zk Zj Zi Zh Zg Zf Ze Zd Zc Zb Za Y_ Y9 Y8 Y7 Y6 Y5 Y4 Y3 Y0 YZ YY YX YW YV YU YT YS YR YQ YP YO YN YM YL YK YJ YI YH YG:Array (Option Value)} {agw ahz aiO age OP aiX agv ahy aiN agd OO aiW agu ahx aiM agc ON aiV agt ahw aiL agb OM aiU ags ahv aiK aga OL aiT agr ahu aiJ af9 OJ aiS agq aht aiI af8 OI aiR agp ahs aiH af7 OH aiQ ago ahr aiG af6 OG aiP ab2 acX ad3 aax Mi aeN ab1 acW ad2 aaw Mh aeM ab0 acV ad1 aav Mg aeL abZ acU ad0 aau Mf aeK abY acT adZ aat Me aeJ abX acS adY aas Mc aeI abW acR adX aar Mb aeH abV acQ adW aaq Ma aeG abU acP adV aap L_ aeF abT acO adU aao L9 aeE abS acN adT aan L8 aeD abR acM adS aam L7 aeC abQ acL adR aal L6 aeB abP acK adQ aak L5 aeA abO acJ adP aaj L4 aez abN acI adO aai L3 aey abM acH adN aah L1 aex abL acG adM aag L0 aew abK acF adL aaf LZ aev abJ acE adK aae LY aeu abI acD adJ aad LX aet abH acC adI aac LW aes abG acB adH aab LV aer abF acA adG aaa LU aeq abE acz adF Z_ LS aep abD acy adE Z9 LR aeo abC acw adD Z8 LQ aen abB acv adC Z7 LP aem abA acu adB Z6 LO ael abz acs adA Z5 LN aek aby acr adz Z4 LM aej abx acq ady Z3 LL aei abw acp adx Z2 LK aeh abv aco adw Z1 LJ aeg abu acn adv Z0 LI aef abt acm adu ZZ LH aee abr ack adt ZY LG aed abq acj ads ZX LF aec abp aci adq ZW LD aeb abo ach adp ZV LC aea abn acg ado ZU LB ad9 abm acf adn ZT LA ad8 abl ace adm ZS Lz ad7 abk acd adl ZR Ly ad6 abj ab9 adk ZQ Lx ad5 abi Lk Lv K3 D7 Lw:Value}
  (PX:PySem.W.nsIn K mainGlobals "Cellar"=some (some (.ref fi)))
  (PW:PySem.W.nsIn K mainGlobals "House"=some (some (.ref cY)))
  (PV:PySem.W.nsIn K mainGlobals "NoDealing"=some (some (.ref iH)))
  (PU:PySem.W.nsIn K mainGlobals "NoPage"=some (some (.ref h4)))
  (PT:PySem.W.nsIn K mainGlobals "Taken"=some (some (.ref hh)))
  (PS:PySem.W.nsIn K mainGlobals "NoRoom"=some (some (.ref iG)))
  (a1:findIn K (.ref fi) "__init__"=some (some (.ref f1)))
  (hb:PySem.W.isFn K (.ref f1)=true)
  (fN:K.lookup f1=some ⟨agw,agn,.func (PySem.W.fnOf "__init__" "Cellar.__init__" (dj tr) (cR tr) (bF tr) .none ahz aiO age ajz OP aiX),afV⟩)
  (cL:PySem.W.codeIn K OP "Cellar.__init__"=true)
  (k1:keepIn K (.ref f1)=true)
  (a2:findIn K (.ref fi) "do_stroke"=some (some (.ref f2)))
  (kc:PySem.W.isFn K (.ref f2)=true)
  (hY:K.lookup f2=some ⟨agv,agm,.func (PySem.W.fnOf "do_stroke" "Cellar.do_stroke" (dj uw) (cR uw) (bF uw) .none ahy aiN agd ajy OO aiW),afU⟩)
  (dV:PySem.W.codeIn K OO "Cellar.do_stroke"=true)
  (k2:keepIn K (.ref f2)=true)
  (kU:findIn K (.ref cY) "__init__"=some (some (.ref eL)))
  (mj:PySem.W.isFn K (.ref eL)=true)
  (qy:K.lookup eL=some ⟨agu,agl,.func (PySem.W.fnOf "__init__" "House.__init__" (dj ti) (cR ti) (bF ti) .none ahx aiM agc ajx ON aiV),afT⟩)
  (ep:PySem.W.codeIn K ON "House.__init__"=true)
  (k3:keepIn K (.ref eL)=true)
  (qE:findIn K (.ref cY) "begin"=some (some (.ref f4)))
  (qA:PySem.W.isFn K (.ref f4)=true)
  (m6:K.lookup f4=some ⟨agt,agk,.func (PySem.W.fnOf "begin" "House.begin" (dj tu) (cR tu) (bF tu) .none ahw aiL agb ajw OM aiU),afS⟩)
  (f_:PySem.W.codeIn K OM "House.begin"=true)
  (jP:keepIn K (.ref f4)=true)
  (pF:findIn K (.ref cY) "put"=some (some (.ref e6)))
  (xZ:PySem.W.isFn K (.ref e6)=true)
  (gr:K.lookup e6=some ⟨ags,agj,.func (PySem.W.fnOf "put" "House.put" (dj tZ) (cR tZ) (bF tZ) .none ahv aiK aga ajv OL aiT),afR⟩)
  (kT:PySem.W.codeIn K OL "House.put"=true)
  (k5:keepIn K (.ref e6)=true)
  (SK:findIn K (.ref cY) "end"=some (some (.ref r9)))
  (Sl:PySem.W.isFn K (.ref r9)=true)
  (BK:K.lookup r9=some ⟨agr,agi,.func (PySem.W.fnOf "end" "House.end" (dj t4) (cR t4) (bF t4) .none ahu aiJ af9 aju OJ aiS),afQ⟩)
  (GY:PySem.W.codeIn K OJ "House.end"=true)
  (xY:keepIn K (.ref r9)=true)
  (SJ:findIn K (.ref cY) "drop"=some (some (.ref vl)))
  (Sk:PySem.W.isFn K (.ref vl)=true)
  (Sf:K.lookup vl=some ⟨agq,agh,.func (PySem.W.fnOf "drop" "House.drop" (dj tK) (cR tK) (bF tK) .none aht aiI af8 ajt OI aiR),afP⟩)
  (SD:PySem.W.codeIn K OI "House.drop"=true)
  (GD:keepIn K (.ref vl)=true)
  (SI:findIn K (.ref cY) "look"=some (some (.ref f8)))
  (Sj:PySem.W.isFn K (.ref f8)=true)
  (r4:K.lookup f8=some ⟨agp,agg,.func (PySem.W.fnOf "look" "House.look" (dj tF) (cR tF) (bF tF) .none ahs aiH af7 ajs OH aiQ),afO⟩)
  (SA:PySem.W.codeIn K OH "House.look"=true)
  (GC:keepIn K (.ref f8)=true)
  (SH:findIn K (.ref cY) "carry"=some (some (.ref vj)))
  (Si:PySem.W.isFn K (.ref vj)=true)
  (Se:K.lookup vj=some ⟨ago,agf,.func (PySem.W.fnOf "carry" "House.carry" (dj tp) (cR tp) (bF tp) .none ahr aiG af6 ajr OG aiP),afN⟩)
  (Sz:PySem.W.codeIn K OG "House.carry"=true)
  (GB:keepIn K (.ref vj)=true)
  (QK:findIn K (.ref cY) "cut"=some (some (.ref uU)))
  (NV:PySem.W.isFn K (.ref uU)=true)
  (NK:K.lookup uU=some ⟨ab2,abh,.func (PySem.W.fnOf "cut" "House.cut" (dj t6) (cR t6) (bF t6) .none acX ad3 aax afy Mi aeN),Zq⟩)
  (PE:PySem.W.codeIn K Mi "House.cut"=true)
  (Ff:keepIn K (.ref uU)=true)
  (QJ:findIn K (.ref cY) "ask_dealing"=some (some (.ref uT)))
  (NU:PySem.W.isFn K (.ref uT)=true)
  (NJ:K.lookup uT=some ⟨ab1,abg,.func (PySem.W.fnOf "ask_dealing" "House.ask_dealing" (dj tP) (cR tP) (bF tP) .none acW ad2 aaw afx Mh aeM),Zp⟩)
  (PD:PySem.W.codeIn K Mh "House.ask_dealing"=true)
  (Fe:keepIn K (.ref uT)=true)
  (QI:findIn K (.ref cY) "ask_page"=some (some (.ref uS)))
  (i12:PySem.W.isFn K (.ref uS)=true)
  (NI:K.lookup uS=some ⟨ab0,abf,.func (PySem.W.fnOf "ask_page" "House.ask_page" (dj tN) (cR tN) (bF tN) .none acV ad1 aav afw Mg aeL),Zo⟩)
  (PC:PySem.W.codeIn K Mg "House.ask_page"=true)
  (Fd:keepIn K (.ref uS)=true)
  (QH:findIn K (.ref cY) "ask_free"=some (some (.ref nR)))
  (NT:PySem.W.isFn K (.ref nR)=true)
  (NH:K.lookup nR=some ⟨abZ,abe,.func (PySem.W.fnOf "ask_free" "House.ask_free" (dj tO) (cR tO) (bF tO) .none acU ad0 aau afv Mf aeK),Zn⟩)
  (PB:PySem.W.codeIn K Mf "House.ask_free"=true)
  (uD:keepIn K (.ref nR)=true)
  (QG:findIn K (.ref cY) "ask_room"=some (some (.ref o7)))
  (NS:PySem.W.isFn K (.ref o7)=true)
  (NG:K.lookup o7=some ⟨abY,abd,.func (PySem.W.fnOf "ask_room" "House.ask_room" (dj tM) (cR tM) (bF tM) .none acT adZ aat afu Me aeJ),Zm⟩)
  (PA:PySem.W.codeIn K Me "House.ask_room"=true)
  (uC:keepIn K (.ref o7)=true)
  (QF:findIn K (.ref cY) "has_room"=some (some (.ref uR)))
  (NR:PySem.W.isFn K (.ref uR)=true)
  (NF:K.lookup uR=some ⟨abX,abc,.func (PySem.W.fnOf "has_room" "House.has_room" (dj tG) (cR tG) (bF tG) .none acS adY aas aft Mc aeI),Zl⟩)
  (Pz:PySem.W.codeIn K Mc "House.has_room"=true)
  (Fc:keepIn K (.ref uR)=true)
  (QE:findIn K (.ref cY) "make_room"=some (some (.ref uQ)))
  (NQ:PySem.W.isFn K (.ref uQ)=true)
  (ND:K.lookup uQ=some ⟨abW,abb,.func (PySem.W.fnOf "make_room" "House.make_room" (dj te) (cR te) (bF te) .none acR adX aar afs Mb aeH),Zk⟩)
  (Py:PySem.W.codeIn K Mb "House.make_room"=true)
  (Fb:keepIn K (.ref uQ)=true)
  (QD:findIn K (.ref cY) "write_put"=some (some (.ref uP)))
  (NP:PySem.W.isFn K (.ref uP)=true)
  (NC:K.lookup uP=some ⟨abV,aba,.func (PySem.W.fnOf "write_put" "House.write_put" (dj sP) (cR sP) (bF sP) .none acQ adW aaq afr Ma aeG),Zj⟩)
  (Px:PySem.W.codeIn K Ma "House.write_put"=true)
  (E_:keepIn K (.ref uP)=true)
  (QC:findIn K (.ref cY) "make_stroke"=some (some (.ref uO)))
  (NO:PySem.W.isFn K (.ref uO)=true)
  (NB:K.lookup uO=some ⟨abU,aa9,.func (PySem.W.fnOf "make_stroke" "House.make_stroke" (dj td) (cR td) (bF td) .none acP adV aap afq L_ aeF),Zi⟩)
  (Pw:PySem.W.codeIn K L_ "House.make_stroke"=true)
  (E9:keepIn K (.ref uO)=true)
  (QB:PySem.W.nsIn K mainGlobals "needed_from"=some (some (.ref Bf)))
  (Nz:K.lookup Bf=some ⟨abT,aa8,.func (PySem.W.fnOf "needed_from" "needed_from" (dj tc) (cR tc) (bF tc) .none acO adU aao afp L9 aeE),Zh⟩)
  (Pu:PySem.W.codeIn K L9 "needed_from"=true)
  (E8:keepIn K (.ref Bf)=true)
  (QA:PySem.W.nsIn K mainGlobals "last_put_places"=some (some (.ref Be)))
  (Ny:K.lookup Be=some ⟨abS,aa7,.func (PySem.W.fnOf "last_put_places" "last_put_places" (dj tf) (cR tf) (bF tf) .none acN adT aan afo L8 aeD),Zg⟩)
  (Pr:PySem.W.codeIn K L8 "last_put_places"=true)
  (E7:keepIn K (.ref Be)=true)
  (Qz:PySem.W.nsIn K mainGlobals "answers"=some (some (.ref Bd)))
  (Nx:K.lookup Bd=some ⟨abR,aa6,.func (PySem.W.fnOf "answers" "answers" (dj sM) (cR sM) (bF sM) .none acM adS aam afn L7 aeC),Zf⟩)
  (Pq:PySem.W.codeIn K L7 "answers"=true)
  (E6:keepIn K (.ref Bd)=true)
  (Qy:PySem.W.nsIn K mainGlobals "strokes_of"=some (some (.ref Bc)))
  (Nv:K.lookup Bc=some ⟨abQ,aa5,.func (PySem.W.fnOf "strokes_of" "strokes_of" (dj sA) (cR sA) (bF sA) .none acL adR aal afm L6 aeB),Ze⟩)
  (Pp:PySem.W.codeIn K L6 "strokes_of"=true)
  (E5:keepIn K (.ref Bc)=true)
  (Qx:PySem.W.nsIn K mainGlobals "answer"=some (some (.ref Bb)))
  (Nu:K.lookup Bb=some ⟨abP,aa4,.func (PySem.W.fnOf "answer" "answer" (dj qV) (cR qV) (bF qV) .none acK adQ aak afl L5 aeA),Zd⟩)
  (Po:PySem.W.codeIn K L5 "answer"=true)
  (Ax:keepIn K (.ref Bb)=true)
  (Qw:PySem.W.nsIn K mainGlobals "do_deed"=some (some (.ref Ba)))
  (Nt:K.lookup Ba=some ⟨abO,aa3,.func (PySem.W.fnOf "do_deed" "do_deed" (dj sU) (cR sU) (bF sU) .none acJ adP aaj afk L4 aez),Zc⟩)
  (Pn:PySem.W.codeIn K L4 "do_deed"=true)
  (E4:keepIn K (.ref Ba)=true)
  (Qv:PySem.W.nsIn K mainGlobals "_law_draw"=some (some (.ref A_)))
  (Nr:K.lookup A_=some ⟨abN,aa2,.func (PySem.W.fnOf "_law_draw" "_law_draw" (dj tL) (cR tL) (bF tL) .none acI adO aai afj L3 aey),Zb⟩)
  (Pk:PySem.W.codeIn K L3 "_law_draw"=true)
  (E3:keepIn K (.ref A_)=true)
  (Qu:PySem.W.nsIn K mainGlobals "_law_whole"=some (some (.ref A9)))
  (Nq:K.lookup A9=some ⟨abM,aa1,.func (PySem.W.fnOf "_law_whole" "_law_whole" (dj s9) (cR s9) (bF s9) .none acH adN aah afi L1 aex),Za⟩)
  (Pj:PySem.W.codeIn K L1 "_law_whole"=true)
  (w3:keepIn K (.ref A9)=true)
  (Qt:PySem.W.nsIn K mainGlobals "_law_at"=some (some (.ref A8)))
  (Np:K.lookup A8=some ⟨abL,aa0,.func (PySem.W.fnOf "_law_at" "_law_at" (dj ux) (cR ux) (bF ux) .none acG adM aag afh L0 aew),Y_⟩)
  (Ph:PySem.W.codeIn K L0 "_law_at"=true)
  (E2:keepIn K (.ref A8)=true)
  (Qs:PySem.W.nsIn K mainGlobals "_law_one_stroke"=some (some (.ref A7)))
  (Nn:K.lookup A7=some ⟨abK,aaZ,.func (PySem.W.fnOf "_law_one_stroke" "_law_one_stroke" (dj t2) (cR t2) (bF t2) .none acF adL aaf afg LZ aev),Y9⟩)
  (Pg:PySem.W.codeIn K LZ "_law_one_stroke"=true)
  (Aw:keepIn K (.ref A7)=true)
  (Qq:PySem.W.nsIn K mainGlobals "_law_replayed"=some (some (.ref A6)))
  (Nm:K.lookup A6=some ⟨abJ,aaY,.func (PySem.W.fnOf "_law_replayed" "_law_replayed" (dj tY) (cR tY) (bF tY) .none acE adK aae afe LY aeu),Y8⟩)
  (Pf:PySem.W.codeIn K LY "_law_replayed"=true)
  (E1:keepIn K (.ref A6)=true)
  (Qp:PySem.W.nsIn K mainGlobals "_law_is_line"=some (some (.ref A5)))
  (Nl:K.lookup A5=some ⟨abI,aaX,.func (PySem.W.fnOf "_law_is_line" "_law_is_line" (dj sS) (cR sS) (bF sS) .none acD adJ aad afd LX aet),Y7⟩)
  (Pe:PySem.W.codeIn K LX "_law_is_line"=true)
  (E0:keepIn K (.ref A5)=true)
  (Qo:PySem.W.nsIn K mainGlobals "_law_is_stroke"=some (some (.ref A4)))
  (Nk:K.lookup A4=some ⟨abH,aaW,.func (PySem.W.fnOf "_law_is_stroke" "_law_is_stroke" (dj sE) (cR sE) (bF sE) .none acC adI aac afc LW aes),Y6⟩)
  (Pd:PySem.W.codeIn K LW "_law_is_stroke"=true)
  (EZ:keepIn K (.ref A4)=true)
  (Qn:PySem.W.nsIn K mainGlobals "_law_are_strokes"=some (some (.ref A3)))
  (Nj:K.lookup A3=some ⟨abG,aaV,.func (PySem.W.fnOf "_law_are_strokes" "_law_are_strokes" (dj t7) (cR t7) (bF t7) .none acB adH aab afb LV aer),Y5⟩)
  (Pc:PySem.W.codeIn K LV "_law_are_strokes"=true)
  (EY:keepIn K (.ref A3)=true)
  (Qm:PySem.W.nsIn K mainGlobals "_law_are_rows"=some (some (.ref A2)))
  (Ni:K.lookup A2=some ⟨abF,aaU,.func (PySem.W.fnOf "_law_are_rows" "_law_are_rows" (dj tD) (cR tD) (bF tD) .none acA adG aaa afa LU aeq),Y4⟩)
  (Pb:PySem.W.codeIn K LU "_law_are_rows"=true)
  (EX:keepIn K (.ref A2)=true)
  (Ql:PySem.W.nsIn K mainGlobals "_law_deeds"=some (some (.ref A1)))
  (Nh:K.lookup A1=some ⟨abE,aaT,.func (PySem.W.fnOf "_law_deeds" "_law_deeds" (dj iM) (cR iM) (bF iM) .none acz adF Z_ ae9 LS aep),Y3⟩)
  (Pa:PySem.W.codeIn K LS "_law_deeds"=true)
  (EW:keepIn K (.ref A1)=true)
  (Qk:PySem.W.nsIn K mainGlobals "_law_taker"=some (some (.ref A0)))
  (Ng:K.lookup A0=some ⟨abD,aaS,.func (PySem.W.fnOf "_law_taker" "_law_taker" (dj s_) (cR s_) (bF s_) .none acy adE Z9 ae8 LR aeo),Y0⟩)
  (O_:PySem.W.codeIn K LR "_law_taker"=true)
  (EV:keepIn K (.ref A0)=true)
  (Qj:PySem.W.nsIn K mainGlobals "_law_refusal"=some (some (.ref AZ)))
  (Nf:K.lookup AZ=some ⟨abC,aaR,.func (PySem.W.fnOf "_law_refusal" "_law_refusal" (dj sJ) (cR sJ) (bF sJ) .none acw adD Z8 ae7 LQ aen),YZ⟩)
  (O9:PySem.W.codeIn K LQ "_law_refusal"=true)
  (Av:keepIn K (.ref AZ)=true)
  (Qi:PySem.W.nsIn K mainGlobals "_law_did"=some (some (.ref AY)))
  (Nd:K.lookup AY=some ⟨abB,aaQ,.func (PySem.W.fnOf "_law_did" "_law_did" (dj t5) (cR t5) (bF t5) .none acv adC Z7 ae6 LP aem),YY⟩)
  (O8:PySem.W.codeIn K LP "_law_did"=true)
  (EU:keepIn K (.ref AY)=true)
  (Qh:PySem.W.nsIn K mainGlobals "_law_bound"=some (some (.ref AX)))
  (Nc:K.lookup AX=some ⟨abA,aaP,.func (PySem.W.fnOf "_law_bound" "_law_bound" (dj ts) (cR ts) (bF ts) .none acu adB Z6 ae5 LO ael),YX⟩)
  (O7:PySem.W.codeIn K LO "_law_bound"=true)
  (Au:keepIn K (.ref AX)=true)
  (Qg:PySem.W.nsIn K mainGlobals "_law_put_again"=some (some (.ref AW)))
  (Nb:K.lookup AW=some ⟨abz,aaO,.func (PySem.W.fnOf "_law_put_again" "_law_put_again" (dj tw) (cR tw) (bF tw) .none acs adA Z5 ae4 LN aek),YW⟩)
  (O6:PySem.W.codeIn K LN "_law_put_again"=true)
  (ET:keepIn K (.ref AW)=true)
  (Qf:PySem.W.nsIn K mainGlobals "_law_needed"=some (some (.ref AV)))
  (Na:K.lookup AV=some ⟨aby,aaN,.func (PySem.W.fnOf "_law_needed" "_law_needed" (dj sR) (cR sR) (bF sR) .none acr adz Z4 ae3 LM aej),YV⟩)
  (O5:PySem.W.codeIn K LM "_law_needed"=true)
  (As:keepIn K (.ref AV)=true)
  (Qe:PySem.W.nsIn K mainGlobals "_law_pages_of"=some (some (.ref AU)))
  (M_:K.lookup AU=some ⟨abx,aaM,.func (PySem.W.fnOf "_law_pages_of" "_law_pages_of" (dj tb) (cR tb) (bF tb) .none acq ady Z3 ae2 LL aei),YU⟩)
  (O4:PySem.W.codeIn K LL "_law_pages_of"=true)
  (ES:keepIn K (.ref AU)=true)
  (Qd:PySem.W.nsIn K mainGlobals "_law_log_holds"=some (some (.ref AS)))
  (M9:K.lookup AS=some ⟨abw,aaL,.func (PySem.W.fnOf "_law_log_holds" "_law_log_holds" (dj th) (cR th) (bF th) .none acp adx Z2 ae1 LK aeh),YT⟩)
  (O3:PySem.W.codeIn K LK "_law_log_holds"=true)
  (ER:keepIn K (.ref AS)=true)
  (Qc:PySem.W.nsIn K mainGlobals "_law_more"=some (some (.ref AR)))
  (M8:K.lookup AR=some ⟨abv,aaK,.func (PySem.W.fnOf "_law_more" "_law_more" (dj tE) (cR tE) (bF tE) .none aco adw Z1 ae0 LJ aeg),YS⟩)
  (O2:PySem.W.codeIn K LJ "_law_more"=true)
  (EP:keepIn K (.ref AR)=true)
  (Qa:PySem.W.nsIn K mainGlobals "_law_count_by"=some (some (.ref AQ)))
  (M7:K.lookup AQ=some ⟨abu,aaJ,.func (PySem.W.fnOf "_law_count_by" "_law_count_by" (dj tn) (cR tn) (bF tn) .none acn adv Z0 aeZ LI aef),YR⟩)
  (O1:PySem.W.codeIn K LI "_law_count_by"=true)
  (EO:keepIn K (.ref AQ)=true)
  (P_:PySem.W.nsIn K mainGlobals "_law_alike"=some (some (.ref AP)))
  (M6:K.lookup AP=some ⟨abt,aaI,.func (PySem.W.fnOf "_law_alike" "_law_alike" (dj tv) (cR tv) (bF tv) .none acm adu ZZ aeY LH aee),YQ⟩)
  (O0:PySem.W.codeIn K LH "_law_alike"=true)
  (EN:keepIn K (.ref AP)=true)
  (P9:PySem.W.nsIn K mainGlobals "_law_house_of"=some (some (.ref AO)))
  (M5:K.lookup AO=some ⟨abr,aaH,.func (PySem.W.fnOf "_law_house_of" "_law_house_of" (dj tg) (cR tg) (bF tg) .none ack adt ZY aeX LG aed),YP⟩)
  (OZ:PySem.W.codeIn K LG "_law_house_of"=true)
  (EM:keepIn K (.ref AO)=true)
  (P8:PySem.W.nsIn K mainGlobals "_law_stroke_in"=some (some (.ref AN)))
  (M4:K.lookup AN=some ⟨abq,aaG,.func (PySem.W.fnOf "_law_stroke_in" "_law_stroke_in" (dj sQ) (cR sQ) (bF sQ) .none acj ads ZX aeW LF aec),YO⟩)
  (OY:PySem.W.codeIn K LF "_law_stroke_in"=true)
  (uB:keepIn K (.ref AN)=true)
  (P7:PySem.W.nsIn K mainGlobals "_law_cut_in"=some (some (.ref AM)))
  (M3:K.lookup AM=some ⟨abp,aaF,.func (PySem.W.fnOf "_law_cut_in" "_law_cut_in" (dj tl) (cR tl) (bF tl) .none aci adq ZW aeV LD aeb),YN⟩)
  (OX:PySem.W.codeIn K LD "_law_cut_in"=true)
  (Ar:keepIn K (.ref AM)=true)
  (P6:PySem.W.nsIn K mainGlobals "_law_carry_in"=some (some (.ref AL)))
  (M1:K.lookup AL=some ⟨abo,aaE,.func (PySem.W.fnOf "_law_carry_in" "_law_carry_in" (dj sL) (cR sL) (bF sL) .none ach adp ZV aeU LC aea),YM⟩)
  (OW:PySem.W.codeIn K LC "_law_carry_in"=true)
  (Aq:keepIn K (.ref AL)=true)
  (P5:PySem.W.nsIn K mainGlobals "_law_full"=some (some (.ref AK)))
  (M0:K.lookup AK=some ⟨abn,aaD,.func (PySem.W.fnOf "_law_full" "_law_full" (dj tH) (cR tH) (bF tH) .none acg ado ZU aeT LB ad9),YL⟩)
  (OV:PySem.W.codeIn K LB "_law_full"=true)
  (EL:keepIn K (.ref AK)=true)
  (P4:PySem.W.nsIn K mainGlobals "_law_put_in"=some (some (.ref AJ)))
  (MZ:K.lookup AJ=some ⟨abm,aaC,.func (PySem.W.fnOf "_law_put_in" "_law_put_in" (dj ta) (cR ta) (bF ta) .none acf adn ZT aeS LA ad8),YK⟩)
  (OU:PySem.W.codeIn K LA "_law_put_in"=true)
  (Ao:keepIn K (.ref AJ)=true)
  (P1:PySem.W.nsIn K mainGlobals "_law_end_in"=some (some (.ref AI)))
  (MY:K.lookup AI=some ⟨abl,aaB,.func (PySem.W.fnOf "_law_end_in" "_law_end_in" (dj tk) (cR tk) (bF tk) .none ace adm ZS aeR Lz ad7),YJ⟩)
  (OT:PySem.W.codeIn K Lz "_law_end_in"=true)
  (EK:keepIn K (.ref AI)=true)
  (P0:PySem.W.nsIn K mainGlobals "_law_answered"=some (some (.ref AH)))
  (MX:K.lookup AH=some ⟨abk,aaA,.func (PySem.W.fnOf "_law_answered" "_law_answered" (dj sF) (cR sF) (bF sF) .none acd adl ZR aeQ Ly ad6),YI⟩)
  (OS:PySem.W.codeIn K Ly "_law_answered"=true)
  (EJ:keepIn K (.ref AH)=true)
  (PZ:PySem.W.nsIn K mainGlobals "_law_as_kept"=some (some (.ref AG)))
  (MW:K.lookup AG=some ⟨abj,aaz,.func (PySem.W.fnOf "_law_as_kept" "_law_as_kept" (dj sV) (cR sV) (bF sV) .none ab9 adk ZQ aeP Lx ad5),YH⟩)
  (OR:PySem.W.codeIn K Lx "_law_as_kept"=true)
  (EI:keepIn K (.ref AG)=true)
  (PY:PySem.W.nsIn K mainGlobals "law"=some (some (.ref FO)))
  (MV:K.lookup FO=some ⟨abi,aay,.func (PySem.W.fnOf "law" "law" (dj jW) (cR jW) (bF jW) .none Lk Lv K3 Mk D7 Lw),YG⟩)
  (OQ:PySem.W.codeIn K D7 "law"=true)
  (NL:keepIn K (.ref FO)=true)
  (K6:PySem.W.plainGet K fi Str.empty=true)
  (Lp:PySem.W.hasDictIn K fi=true)
  (K2:PySem.W.plainOver K fi=true)
  (KY:findIn K (.ref fi) "__setattr__"=some (some (.builtin "object.__setattr__")))
  (Lg:PySem.W.makesIn K fi=true)
  (Lj:keepIn K (.ref fi)=true)
  (IA:findIn K (.ref fi) "pages"=some none)
  (Jz:findIn K (.ref fi) "log"=some none)
  (K5:PySem.W.plainGet K cY Str.empty=true)
  (Lo:PySem.W.hasDictIn K cY=true)
  (K1:PySem.W.plainOver K cY=true)
  (KX:findIn K (.ref cY) "__setattr__"=some (some (.builtin "object.__setattr__")))
  (Lf:PySem.W.makesIn K cY=true)
  (Li:keepIn K (.ref cY)=true)
  (HZ:findIn K (.ref cY) "cellar"=some none)
  (I9:findIn K (.ref cY) "desk"=some none)
  (I7:findIn K (.ref cY) "room"=some none)
  (HK:findIn K (.ref cY) "strokes"=some none)
  (H0:findIn K (.ref cY) "begins"=some none)
  (I8:findIn K (.ref cY) "puts"=some none)
  (HY:findIn K (.ref cY) "takers"=some none)
  (Iz:findIn K (.ref cY) "bound"=some none)
  (Ej:excIn K iH qo "ValueError.__new__"=true)
  (Ei:excIn K h4 qo "ValueError.__new__"=true)
  (Eh:excIn K hh qo "ValueError.__new__"=true)
  (Eg:excIn K iG qo "ValueError.__new__"=true)
  (KJ:exmOne K (.ref iH) (.ref iH)=some true)
  (KI:exmOne K (.ref iH) (.ref h4)=some false)
  (KH:exmOne K (.ref iH) (.ref hh)=some false)
  (KG:exmOne K (.ref iH) (.ref iG)=some false)
  (KD:exmOne K (.ref h4) (.ref iH)=some false)
  (KC:exmOne K (.ref h4) (.ref h4)=some true)
  (KA:exmOne K (.ref h4) (.ref hh)=some false)
  (Kz:exmOne K (.ref h4) (.ref iG)=some false)
  (Ky:exmOne K (.ref hh) (.ref iH)=some false)
  (Kx:exmOne K (.ref hh) (.ref h4)=some false)
  (Kw:exmOne K (.ref hh) (.ref hh)=some true)
  (Kv:exmOne K (.ref hh) (.ref iG)=some false)
  (Ku:exmOne K (.ref iG) (.ref iH)=some false)
  (Ks:exmOne K (.ref iG) (.ref h4)=some false)
  (Kr:exmOne K (.ref iG) (.ref hh)=some false)
  (Kq:exmOne K (.ref iG) (.ref iG)=some true)
  (JK:PySem.W.nsIn K mainGlobals "list"=some none)
  (Ji:PySem.W.nsIn K mainGlobals "tuple"=some none)
  (Kc:PySem.W.nsIn K mainGlobals "int"=some none)
  (J_:PySem.W.nsIn K mainGlobals "str"=some none)
  (JM:PySem.W.nsIn K mainGlobals "bool"=some none)
  (Hv:PySem.W.nsIn K mainGlobals "isinstance"=some none)
  (Ka:PySem.W.nsIn K mainGlobals "len"=some none)
  (Jj:PySem.W.nsIn K mainGlobals "range"=some none)
  (HB:PySem.W.nsIn K mainGlobals "enumerate"=some none)
  (JL:PySem.W.nsIn K mainGlobals "dict"=some none)
  (J9:PySem.W.nsIn K mainGlobals "sum"=some none)
  (Ce:PySem.W.nsIn K mainGlobals "reversed"=some none)
  : ∃fd:FuncData,(∀(s:Shared) (v:Value),BindsTo s fd ⟨[v],[]⟩ [("_law_script",v)])∧∀base:Heap,K.In base→base.Ns mainGlobals ai→aU l.prog w K ai base bf 10 e5 fd zQ (zw K):=by
 have e:=aih.symm.trans (PySem.W.mg_of X G PY)
 cases e
 have S6:=dJ (st:=tr) fN cL k1
 have S5:=dJ (st:=uw) hY dV k2
 have S4:=dJ (st:=ti) qy ep k3
 have S3:=dJ (st:=tu) m6 f_ jP
 have S2:=dJ (st:=tZ) gr kT k5
 have S1:=dJ (st:=t4) BK GY xY
 have S0:=dJ (st:=tK) Sf SD GD
 have SY:=dJ (st:=tF) r4 SA GC
 have SX:=dJ (st:=tp) Se Sz GB
 have RV:=dJ (st:=t6) NK PE Ff
 have RU:=dJ (st:=tP) NJ PD Fe
 have RT:=dJ (st:=tN) NI PC Fd
 have RS:=dJ (st:=tO) NH PB uD
 have RQ:=dJ (st:=tM) NG PA uC
 have RP:=dJ (st:=tG) NF Pz Fc
 have RO:=dJ (st:=te) ND Py Fb
 have RN:=dJ (st:=sP) NC Px E_
 have RM:=dJ (st:=td) NB Pw E9
 have RL:=dJ (st:=tc) Nz Pu E8
 have RK:=dJ (st:=tf) Ny Pr E7
 have RJ:=dJ (st:=sM) Nx Pq E6
 have RI:=dJ (st:=sA) Nv Pp E5
 have RH:=dJ (st:=qV) Nu Po Ax
 have RG:=dJ (st:=sU) Nt Pn E4
 have RE:=dJ (st:=tL) Nr Pk E3
 have RD:=dJ (st:=s9) Nq Pj w3
 have RC:=dJ (st:=ux) Np Ph E2
 have RB:=dJ (st:=t2) Nn Pg Aw
 have RA:=dJ (st:=tY) Nm Pf E1
 have Rz:=dJ (st:=sS) Nl Pe E0
 have Ry:=dJ (st:=sE) Nk Pd EZ
 have Rx:=dJ (st:=t7) Nj Pc EY
 have Rw:=dJ (st:=tD) Ni Pb EX
 have Rv:=dJ (st:=iM) Nh Pa EW
 have Ru:=dJ (st:=s_) Ng O_ EV
 have Rt:=dJ (st:=sJ) Nf O9 Av
 have Rr:=dJ (st:=t5) Nd O8 EU
 have Rq:=dJ (st:=ts) Nc O7 Au
 have Rp:=dJ (st:=tw) Nb O6 ET
 have Ro:=dJ (st:=sR) Na O5 As
 have Rn:=dJ (st:=tb) M_ O4 ES
 have Rm:=dJ (st:=th) M9 O3 ER
 have Rl:=dJ (st:=tE) M8 O2 EP
 have Rk:=dJ (st:=tn) M7 O1 EO
 have Rj:=dJ (st:=tv) M6 O0 EN
 have Ri:=dJ (st:=tg) M5 OZ EM
 have Rh:=dJ (st:=sQ) M4 OY uB
 have Rg:=dJ (st:=tl) M3 OX Ar
 have Rf:=dJ (st:=sL) M1 OW Aq
 have Rd:=dJ (st:=tH) M0 OV EL
 have Rc:=dJ (st:=ta) MZ OU Ao
 have Rb:=dJ (st:=tk) MY OT EK
 have Ra:=dJ (st:=sF) MX OS EJ
 have Q_:=dJ (st:=sV) MW OR EI
 have aj8:=dJ (st:=jW) MV OQ NL
 have e7:=S6.binds (ps:=rg) fun _ _ _ _ _ _ us az=>match us,az with | [_,_,_],_=>rfl
 have fM:Meth K fi "__init__" f1:=⟨a1,hb,k1⟩
 have fO:=S5.binds (ps:=hP) fun _ _ _ _ _ _ us az=>match us,az with | [_,_],_=>rfl
 have fb:Meth K fi "do_stroke" f2:=⟨a2,kc,k2⟩
 have i1:=S4.binds (ps:=oR) fun _ _ _ _ _ _ us az=>match us,az with | [_,_,_],_=>rfl
 have eW:Meth K cY "__init__" eL:=⟨kU,mj,k3⟩
 have oq:=S3.binds (ps:=hO) fun _ _ _ _ _ _ us az=>match us,az with | [_],_=>rfl
 have f7:Meth K cY "begin" f4:=⟨qE,qA,jP⟩
 have G2:=S2.binds (ps:=jD) fun _ _ _ _ _ _ us az=>match us,az with | [_,_,_,_],_=>rfl
 have iZ:Meth K cY "put" e6:=⟨pF,xZ,k5⟩
 have SG:=S1.binds (ps:=gm) fun _ _ _ _ _ _ us az=>match us,az with | [_,_],_=>rfl
 have BJ:Meth K cY "end" r9:=⟨SK,Sl,xY⟩
 have ak7:=S0.binds (ps:=gm) fun _ _ _ _ _ _ us az=>match us,az with | [_,_],_=>rfl
 have akz:Meth K cY "drop" vl:=⟨SJ,Sk,GD⟩
 have ak6:=SY.binds (ps:=gf) fun _ _ _ _ _ _ us az=>match us,az with | [_,_],_=>rfl
 have aky:Meth K cY "look" f8:=⟨SI,Sj,GC⟩
 have SE:=SX.binds (ps:=gf) fun _ _ _ _ _ _ us az=>match us,az with | [_,_],_=>rfl
 have R_:Meth K cY "carry" vj:=⟨SH,Si,GB⟩
 have PR:=RV.binds (ps:=hO) fun _ _ _ _ _ _ us az=>match us,az with | [_],_=>rfl
 have MS:Meth K cY "cut" uU:=⟨QK,NV,Ff⟩
 have F2:=RU.binds (ps:=gm) fun _ _ _ _ _ _ us az=>match us,az with | [_,_],_=>rfl
 have ED:Meth K cY "ask_dealing" uT:=⟨QJ,NU,Fe⟩
 have F1:=RT.binds (ps:=gf) fun _ _ _ _ _ _ us az=>match us,az with | [_,_],_=>rfl
 have EC:Meth K cY "ask_page" uS:=⟨QI,i12,Fd⟩
 have ajq:=RS.binds (ps:=uf) fun _ _ _ _ _ _ us az=>match us,az with | [_,_,_],_=>rfl
 have ahf:Meth K cY "ask_free" nR:=⟨QH,NT,uD⟩
 have PO:=RQ.binds (ps:=jC) fun _ _ _ _ _ _ us az=>match us,az with | [_,_],_=>rfl
 have MR:Meth K cY "ask_room" o7:=⟨QG,NS,uC⟩
 have ajp:=RP.binds (ps:=jC) fun _ _ _ _ _ _ us az=>match us,az with | [_,_],_=>rfl
 have ahe:Meth K cY "has_room" uR:=⟨QF,NR,Fc⟩
 have ajo:=RO.binds (ps:=hO) fun _ _ _ _ _ _ us az=>match us,az with | [_],_=>rfl
 have ahd:Meth K cY "make_room" uQ:=⟨QE,NQ,Fb⟩
 have PN:=RN.binds (ps:=jD) fun _ _ _ _ _ _ us az=>match us,az with | [_,_,_,_],_=>rfl
 have MQ:Meth K cY "write_put" uP:=⟨QD,NP,E_⟩
 have Bk:=RM.binds (ps:=hP) fun _ _ _ _ _ _ us az=>match us,az with | [_,_],_=>rfl
 have An:Meth K cY "make_stroke" uO:=⟨QC,NO,E9⟩
 have ajn:=RL.binds (ps:=ue) fun _ _ _ _ _ _ us az=>match us,az with | [_,_,_,_],_=>rfl
 have ahc:=PySem.W.mg_of X G QB
 have ajm:=RK.binds (ps:=["log"]) fun _ _ _ _ _ _ us az=>match us,az with | [_],_=>rfl
 have ahb:=PySem.W.mg_of X G QA
 have ajl:=RJ.binds (ps:=lV) fun _ _ _ _ _ _ us az=>match us,az with | [_,_,_],_=>rfl
 have aha:=PySem.W.mg_of X G Qz
 have ajk:=RI.binds (ps:=lV) fun _ _ _ _ _ _ us az=>match us,az with | [_,_,_],_=>rfl
 have ag9:=PySem.W.mg_of X G Qy
 have PM:=RH.binds (ps:=gK) fun _ _ _ _ _ _ us az=>match us,az with | [_,_],_=>rfl
 have MP:=PySem.W.mg_of X G Qx
 have ajj:=RG.binds (ps:=gK) fun _ _ _ _ _ _ us az=>match us,az with | [_,_],_=>rfl
 have ag8:=PySem.W.mg_of X G Qw
 have aji:=RE.binds (ps:=rk) fun _ _ _ _ _ _ us az=>match us,az with | [_,_,_],_=>rfl
 have ag7:=PySem.W.mg_of X G Qv
 have F0:=RD.binds (ps:=mI) fun _ _ _ _ _ _ us az=>match us,az with | [_],_=>rfl
 have EB:=PySem.W.mg_of X G Qu
 have ajh:=RC.binds (ps:=rj) fun _ _ _ _ _ _ us az=>match us,az with | [_,_],_=>rfl
 have ag6:=PySem.W.mg_of X G Qt
 have PL:=RB.binds (ps:=oQ) fun _ _ _ _ _ _ us az=>match us,az with | [_,_,_],_=>rfl
 have MO:=PySem.W.mg_of X G Qs
 have ajg:=RA.binds (ps:=ua) fun _ _ _ _ _ _ us az=>match us,az with | [_,_,_],_=>rfl
 have ag5:=PySem.W.mg_of X G Qq
 have ajf:=Rz.binds (ps:=iQ) fun _ _ _ _ _ _ us az=>match us,az with | [_,_],_=>rfl
 have ag4:=PySem.W.mg_of X G Qp
 have aje:=Ry.binds (ps:=iQ) fun _ _ _ _ _ _ us az=>match us,az with | [_,_],_=>rfl
 have ag3:=PySem.W.mg_of X G Qo
 have ajd:=Rx.binds (ps:=iQ) fun _ _ _ _ _ _ us az=>match us,az with | [_,_],_=>rfl
 have ag2:=PySem.W.mg_of X G Qn
 have ajc:=Rw.binds (ps:=uc) fun _ _ _ _ _ _ us az=>match us,az with | [_,_,_],_=>rfl
 have ag1:=PySem.W.mg_of X G Qm
 have ajb:=Rv.binds (ps:=ud) fun _ _ _ _ _ _ us az=>match us,az with | [_,_],_=>rfl
 have ag0:=PySem.W.mg_of X G Ql
 have aja:=Ru.binds (ps:=uk) fun _ _ _ _ _ _ us az=>match us,az with | [_,_],_=>rfl
 have agZ:=PySem.W.mg_of X G Qk
 have PK:=Rt.binds (ps:=pZ) fun _ _ _ _ _ _ us az=>match us,az with | [_,_,_],_=>rfl
 have MN:=PySem.W.mg_of X G Qj
 have ai9:=Rr.binds (ps:=t9) fun _ _ _ _ _ _ us az=>match us,az with | [_,_,_,_],_=>rfl
 have agY:=PySem.W.mg_of X G Qi
 have PJ:=Rq.binds (ps:=oS) fun _ _ _ _ _ _ us az=>match us,az with | [_],_=>rfl
 have MM:=PySem.W.mg_of X G Qh
 have ai8:=Rp.binds (ps:=um) fun _ _ _ _ _ _ us az=>match us,az with | [_,_],_=>rfl
 have agX:=PySem.W.mg_of X G Qg
 have PI:=Ro.binds (ps:=p3) fun _ _ _ _ _ _ us az=>match us,az with | [_,_,_,_],_=>rfl
 have ML:=PySem.W.mg_of X G Qf
 have ai7:=Rn.binds (ps:=ri) fun _ _ _ _ _ _ us az=>match us,az with | [_,_],_=>rfl
 have agW:=PySem.W.mg_of X G Qe
 have ai6:=Rm.binds (ps:=t_) fun _ _ _ _ _ _ us az=>match us,az with | [_,_,_,_],_=>rfl
 have agV:=PySem.W.mg_of X G Qd
 have ai5:=Rl.binds (ps:=rd) fun _ _ _ _ _ _ us az=>match us,az with | [_],_=>rfl
 have agU:=PySem.W.mg_of X G Qc
 have ai4:=Rk.binds (ps:=rb) fun _ _ _ _ _ _ us az=>match us,az with | [_],_=>rfl
 have agT:=PySem.W.mg_of X G Qa
 have ai3:=Rj.binds (ps:=uo) fun _ _ _ _ _ _ us az=>match us,az with | [_,_],_=>rfl
 have agS:=PySem.W.mg_of X G P_
 have ai2:=Ri.binds (ps:=ug) fun _ _ _ _ _ _ us az=>match us,az with | [_,_],_=>rfl
 have agR:=PySem.W.mg_of X G P9
 have Bj:=Rh.binds (ps:=la) fun _ _ _ _ _ _ us az=>match us,az with | [_,_],_=>rfl
 have Am:=PySem.W.mg_of X G P8
 have PH:=Rg.binds (ps:=p2) fun _ _ _ _ _ _ us az=>match us,az with | [_],_=>rfl
 have MK:=PySem.W.mg_of X G P7
 have PG:=Rf.binds (ps:=p1) fun _ _ _ _ _ _ us az=>match us,az with | [_,_],_=>rfl
 have MJ:=PySem.W.mg_of X G P6
 have ai1:=Rd.binds (ps:=uh) fun _ _ _ _ _ _ us az=>match us,az with | [_,_],_=>rfl
 have agQ:=PySem.W.mg_of X G P5
 have PF:=Rc.binds (ps:=p0) fun _ _ _ _ _ _ us az=>match us,az with | [_,_,_,_],_=>rfl
 have MI:=PySem.W.mg_of X G P4
 have ai0:=Rb.binds (ps:=l1) fun _ _ _ _ _ _ us az=>match us,az with | [_,_],_=>rfl
 have agP:=PySem.W.mg_of X G P1
 have aiZ:=Ra.binds (ps:=l1) fun _ _ _ _ _ _ us az=>match us,az with | [_,_],_=>rfl
 have agO:=PySem.W.mg_of X G P0
 have aiY:=Q_.binds (ps:=t8) fun _ _ _ _ _ _ us az=>match us,az with | [_,_,_,_],_=>rfl
 have agN:=PySem.W.mg_of X G PZ
 have rS:pN K ai fi:=⟨⟨K6,Lp,K2,KY⟩,IA,Jz,  PySem.W.mg_of X G PX⟩
 have ajC:sm K fi f1:=⟨Lg,a1,hb,Lj⟩
 have iu:hK K ai cY:=⟨⟨K5,Lo,K1,KX⟩,HZ,I9,I7,HK,H0,I8,HY,Iz,  PySem.W.mg_of X G PW⟩
 have QS:sm K cY eL:=⟨Lf,kU,mj,Li⟩
 have ya:rU K ai iH h4 hh iG:=⟨PySem.W.mg_of X G PV,PySem.W.mg_of X G PU,PySem.W.mg_of X G PT,PySem.W.mg_of X G PS,Ej,Ei,Eh,Eg⟩
 have ak9:wO K ai iH h4 hh iG:=Xx ya KJ KI KH KG KD KC KA Kz Ky Kx Kw Kv Ku Ks Kr Kq
 have B:ew ai:=⟨PySem.W.mg_none_of X G JK,PySem.W.mg_none_of X G Ji,PySem.W.mg_none_of X G Kc,PySem.W.mg_none_of X G J_,PySem.W.mg_none_of X G JM,PySem.W.mg_none_of X G Hv,PySem.W.mg_none_of X G Ka,PySem.W.mg_none_of X G Jj,PySem.W.mg_none_of X G HB,PySem.W.mg_none_of X G JL⟩
 have nk:zZ ai:=⟨PySem.W.mg_none_of X G J9,PySem.W.mg_none_of X G Ce⟩
 refine⟨PySem.W.fnOf "law" "law" (dj jW) (cR jW) (bF jW) .none Lk Lv K3 Mk D7 Lw,fun s v=>.of_eq rfl,fun base _ _=>?_⟩
 have ajZ:aU l.prog w K ai base bf 1 A_ _ rk Dn:=Ws RE
 have Ga:aU l.prog w K ai base bf 1 A9 _ mI vY:=Vu RD B
 have ajY:aU l.prog w K ai base bf 1 A8 _ rj (DR K):=X5 RC B
 have ajP:aU l.prog w K ai base bf 1 AW _ um CW:=VK Rp
 have Bq:aU l.prog w K ai base bf 1 AN _ la sI:=UE Rh B
 have Q3:aU l.prog w K ai base bf 1 AX _ oS y4:=VH Rq B nk
 have ajR:aU l.prog w K ai base bf 1 A0 _ uk CL:=Vv Ru B
 have ajJ:aU l.prog w K ai base bf 1 AO _ ug CO:=Vy Ri B
 have ajO:aU l.prog w K ai base bf 1 AU _ ri CM:=Vx Rn B
 have alz:aU l.prog w K ai base bf 1 f1 _ rg (CT fi):=VF S6 B rS
 have aly:aU l.prog w K ai base bf 1 f2 _ hP (DQ fi):=X3 S5 rS
 have aj6:aU l.prog w K ai base bf 1 uR _ jC (Dk fi cY):=X2 RP B iu rS
 have Gb:aU l.prog w K ai base (di l.prog w) 1 uS _ gf (wc fi cY h4):=X7 RT B iu ya
 have Gd:aU l.prog w K ai base (di l.prog w) 1 uT _ gm (wd fi cY iH):=X9 RU iu ya
 have aj7:aU l.prog w K ai base (di l.prog w) 1 nR _ uf (Dp fi cY hh):=X8 RS iu ya
 have aj3:aU l.prog w K ai base bf 1 Be _ ["log"] Dj:=Wn RK B
 have Q5:aU l.prog w K ai base bf 1 A7 _ oQ zc:=Xc RB
 have ajM:aU l.prog w K ai base bf 1 AR _ rd Dh:=Wl Rl B
 have ajQ:aU l.prog w K ai base bf 1 AY _ t9 DD:=Xf Rr B nk
 have ajL:aU l.prog w K ai base bf 1 AQ _ rb CS:=VE Rk B
 have ajK:aU l.prog w K ai base bf 2 AP _ uo CV:=VJ Rj B Ga F0 w3 EB
 have Q2:aU l.prog w K ai base bf 2 AV _ p3 yL:=UG Ro B ajP ai8 ET agX
 have QZ:aU l.prog w K ai base bf 2 AL _ p1 yD:=T9 Rf B Bq Bj uB Am
 have QY:aU l.prog w K ai base bf 2 AJ _ p0 y0:=Vw Rc B Bq Bj uB Am
 have Q4:aU l.prog w K ai base bf 2 AZ _ pZ yC:=T8 Rt B ajR aja EV agZ
 have Br:aU l.prog w K ai base bf 2 uO _ hP (tX fi cY):=X0 RM iu rS aly fO fb
 have aj4:aU l.prog w K ai base bf 2 Bf _ ue Dg:=Wq RL B aj3 ajm E7 ahb
 have alu:aU l.prog w K ai base (di l.prog w) 2 f8 _ gf (Di fi cY iH h4 hh iG):=Wm SY iu Gb F1 EC
 have ajS:aU l.prog w K ai base bf 2 A1 _ ud CR:=VC Rv B ajZ aji E3 ag7
 have ajW:aU l.prog w K ai base bf 2 A5 _ iQ Cw:=UH Rz B Ga F0 w3 EB
 have ajX:aU l.prog w K ai base bf 2 A6 _ ua Df:=Xa RA Q5 PL Aw MO
 have ajN:aU l.prog w K ai base bf 2 AS _ t_ CP:=Vz Rm B Q5 PL Aw MO
 have Q0:aU l.prog w K ai base bf 3 AM _ p2 y2:=VD Rg B Q2 PI As ML Bq Bj uB Am
 have ajH:aU l.prog w K ai base bf 3 AI _ l1 CQ:=VB Rb B nk Bq Bj uB Am QY PF Ao MI
 have Q7:aU l.prog w K ai base bf 3 uP _ jD (zN fi cY):=XZ RN iu Br Bk An
 have Q9:aU l.prog w K ai base bf 3 uU _ hO (zy fi cY):=Xg RV B iu rS Br Bk An aj4 ajn E8 ahc
 have SS:aU l.prog w K ai base (di l.prog w) 3 vj _ gf (y3 fi cY h4):=VG SX iu rS Br Bk An Gb F1 EC
 have SV:aU l.prog w K ai base (di l.prog w) 3 r9 _ gm (zx fi cY iH h4 hh iG):=Xe S1 B iu Gd F2 ED Br Bk An
 have SW:aU l.prog w K ai base bf 3 eL _ oR (y1 fi cY):=VA S4 B iu rS ajC alz e7
 have ajV:aU l.prog w K ai base bf 3 A4 _ iQ Ci:=TP Ry B Ga F0 w3 EB ajW ajf E0 ag4
 have ajI:aU l.prog w K ai base bf 4 AK _ uh Dl:=Wo Rd B Q3 PJ Au MM QZ PG Aq MJ Q0 PH Ar MK
 have aj5:aU l.prog w K ai base bf 4 uQ _ hO (CN fi cY):=X1 RO B iu SS SE R_ Q9 PR MS
 have alv:aU l.prog w K ai base (di l.prog w) 4 vl _ gm (Dm fi cY iH h4 hh iG):=Wr S0 B (PySem.W.mg_none_of X G Ce) iu Gd F2 ED Q7 PN MQ SV SG BJ
 have ajU:aU l.prog w K ai base bf 4 A3 _ iQ DE:=Xh Rx B ajV aje EZ ag3
 have ajG:aU l.prog w K ai base bf 5 AH _ l1 Cj:=TQ Ra B ajI ai1 EL agQ Q4 PK Av MN QY PF Ao MI ajH ai0 EK agP QZ PG Aq MJ Q0 PH Ar MK
 have Q8:aU l.prog w K ai base (di l.prog w) 5 o7 _ jC (zd fi cY iG):=X6 RQ iu ya aj6 ajp ahe aj5 ajo ahd
 have ajT:aU l.prog w K ai base bf 5 A2 _ uc De:=Wk Rw B ajU ajd EY ag2
 have alx:aU l.prog w K ai base (di l.prog w) 6 f4 _ hO (CU fi cY iH h4 hh iG):=VI S3 iu Q8 PO MR
 have alw:aU l.prog w K ai base (di l.prog w) 6 e6 _ jD (DC fi cY iH h4 hh iG):=Xb S2 iu Gd F2 ED Gb F1 EC aj7 ajq ahf Q8 PO MR Q7 PN MQ
 have ajF:aU l.prog w K ai base bf 6 AG _ t8 Cy:=UI Q_ B ajG aiZ EJ agO ajK ai3 EN agS
 have aj0:aU l.prog w K ai base (di l.prog w) 7 Ba _ gK (Cx fi cY iH h4 hh iG):=X4 RG iu alx oq f7 alu ak6 aky alw G2 iZ SV SG BJ alv ak7 akz SS SE R_ Q9 PR MS
 have Q6:aU l.prog w K ai base bf 8 Bb _ gK (yM fi cY):=UJ RH ak9 aj0 ajj E4 ag8
 have aj2:aU l.prog w K ai base bf 9 Bd _ lV Cq:=T_ RJ iu QS SW i1 Q6 PM Ax MP
 have aj1:aU l.prog w K ai base bf 9 Bc _ lV B8:=TA RI B iu QS SW i1 Q6 PM Ax MP
 exact Xd aj8 B ajY ajh E2 ag6 ajL ai4 EO agT ajO ai7 ES agW ajS ajb EW ag0 aj2 ajl E6 aha aj1 ajk E5 ag9 ajT ajc EX ag1 ajJ ai2 EM agR ajF aiY EI agN ajN ai6 ER agV ajX ajg E1 ag5 Q4 PK Av MN Q2 PI As ML Q3 PJ Au MM ajM ai5 EP agU ajQ ai9 EU agY
theorem walk {l:PySem.W.OpenLaw}{q:Program}{loose:List Str}{vr:(Str→Option Value)→Heap→Prop}{qF:World→Heap→Prop}{d:DefRec}{K:Params→PySem.W.Frag}(aS:l.most=some 63) (xj:d.params.defaults=[])
  (GH:∀(w:World) (h:Heap),qF w h→(K w.params).In h)
  (F:∀(w:World) (ai:Str→Option Value) (e5:Addr) (h:Heap),(K w.params).In h→h.Ns mainGlobals ai→ai d.name=some (.ref e5) →
   ∃fd:FuncData,(∀(s:Shared) (u:Value),BindsTo s fd ⟨[u],[]⟩ [("_law_script",u)])∧∀base:Heap,(K w.params).In base→base.Ns mainGlobals ai→aU l.prog w (K w.params) ai base bf 10 e5 fd zQ (zw (K w.params))) :
  PySem.W.WalkO q loose vr qF l.row.toRowW d [] (fun f vs=>PySem.call f vs) :=
 L2.V3 (n:=63) (k:=10) (x:="_law_script") (eY:=fun _=>bf) (sp:=fun w=>zw (K w.params)) aS (by decide) xj ⟨rfl,by decide,by decide⟩ GH F (fun _ _ a ns az x2 mq=>⟨a,ns,rfl,mq,az,fun _=>rfl⟩) fun _ _ _ _ _ z=>z
end F9
open PySem PySem.W PyProof.Rows
namespace PySem.W.Fast
def tw15642366630684857087:=0
def tw13977879688728584408:=0
def tw11523353204934776410:=0
def tw5111691510396678661:=0
def tw16545217797361254817:=0
def tw9923535444355773694:=0
def tw17646620189823278491:=0
def tw15390203938832745369:=0
def tw16199579024420651242:=0
def tw570647908254658350:=0
def tw17779126117926067375:=0
def tw17638890904297868217:=0
def tw8228093516478513676:=0
def tw11489851502092744282:=0
def tw7589262815949356757:=0
def tw8129462215384337968:=0
def tw11164491177058018790:=0
def tw2494877108657421515:=0
def tw14495503095501387809:=0
def tw13488800390370624519:=0
def tw638246029117132401:=0
def tw12208267665122446937:=0
def tw13316917382165555962:=0
def tw11180177505302685599:=0
def tw5237761701624294893:=0
def tw5544995032684475999:=0
def tw11073153554038872562:=0
def tw3627275457879957983:=0
def tw8975377854504343149:=0
def tw8423199523945094905:=0
def tw6484535762776698333:=0
def tw11641660994560113154:=0
def tw11835370047682412500:=0
def tw2205298950119953834:=0
def tw7219452406487905035:=0
def tw16323115485336391239:=0
def tw16344877751093206111:=0
def tw10628976549607057740:=0
def tw1152278571049471065:=0
def tw8003522071871542046:=0
def tw12089189827954658854:=0
def tw1645215042736409274:=0
def tw10557947426463182217:=0
def tw14859187715908904716:=0
def tw18423840317877500174:=0
def tw13207014328465651682:=0
def tw11342616063972456368:=0
def tw11161525274674151136:=0
def tw14772796812996960932:=0
def tw11860203855289721316:=0
def tw3574697871413925747:=0
def tw2177778587970869756:=0
def tw17258521268996629382:=0
def tw2278806455311834789:=0
def tw16725410224597934938:=0
def tw14488924307117996668:=0
def tw8207744182720919111:=0
def tw4769761425744426323:=0
def tw9786457098403416574:=0
def tw12440129717312579150:=0
def tw2457508431385438492:=0
def tw5603032079394220140:=0
def tw16013115003819094123:=0
def tw14046495782103746373:=0
def tw10289035504762839185:=0
def tw7075213308253859282:=0
def tw15478151361947131959:=0
def tw4953482143124383341:=0
def tw14912789593440030310:=0
def tw4129771240000641944:=0
def tw12057850095815153925:=0
def tw7019111341133757565:=0
def tw5808385468446403422:=0
def tw9249589500189311237:=0
def tw13070559715235479483:=0
def tw14664983711316603247:=0
def tw747366487300783293:=0
def tw5486781974419387255:=0
def tw6203420477920764254:=0
def tw10776709015333742325:=0
def tw1559008216128098205:=0
def tw8324791168501768858:=0
def tw12220783329224465524:=0
def tw8021398235596642157:=0
def tw5439602133611934125:=0
def tw10041283787055623018:=0
def tw6786440686946948641:=0
def tw10319011413576949240:=0
def tw4436464793766418706:=0
def tw16530181915455978564:=0
def tw11837781719818631266:=0
def tw12671080155754628892:=0
def tw12171198051879677128:=0
def tw8751046745552426787:=0
def tw5578248918903400383:=0
def tw2891054886072852261:=0
def tw9439364000502489891:=0
def tw13472682581094830309:=0
def tw15252258127780507038:=0
def tw10524634763170920865:=0
def tw10062526817440647621:=0
def tw8402861422084840388:=0
def tw5350851911570149441:=0
def tw1853079192054621238:=0
def tw6359896350637869322:=0
def tw7271545358668216922:=0
def tw2901912394798765050:=0
def tw3833532703352460331:=0
def tw3347018713893662323:=0
def tw18206335319246879700:=0
def tw8090465849600085908:=0
def tw16986818244686860841:=0
def tw17011095421050719817:=0
def tw6630558380707707128:=0
def tw3274734000764163909:=0
def tw15325041549067213470:=0
def tw1902330675756356973:=0
def tw9488851595272086405:=0
def tw15620562998835106233:=0
def tw13524001329870079643:=0
def tw877946258101459382:=0
def tw4922933857867111870:=0
def tw4364165326474911096:=0
def tw14759529375212117304:=0
def tw16521437141580484674:=0
def tw7626107933895192334:=0
def tw8538577024507837063:=0
def tw15572078758677331182:=0
def tw11513019643724631007:=0
def tw12797150376385156000:=0
def tw332487548507395553:=0
def tw2367844777278222226:=0
def tw15213280041816870668:=0
def tw2931898224165351445:=0
def tw8550691708660047789:=0
def tw12232388125930112332:=0
def tw11348606905747848304:=0
def tw10858205225754774933:=0
def tw14515810226627125887:=0
def tw2888927053725758116:=0
def tw16356633152626605034:=0
def tw5930094489898319026:=0
def tw11060256266846719524:=0
def tw5852045784253553117:=0
def tw5337688486661757043:=0
def tw1327267414828829098:=0
def tw1128014849706236627:=0
def tw16164257163787682280:=0
def tw12341172203812159477:=0
def tw1158049956234197355:=0
def tw11694760179965608995:=0
def tw7466344511717545415:=0
def tw13200766113701610986:=0
def tw17488687063898228537:=0
def tw8248903949205148437:=0
def tw9249667642855355625:=0
def tw5021269463615040611:=0
def tw875339921769145727:=0
def tw15412957061095647563:=0
def tw10296369060286295618:=0
def tw13364751909960122466:=0
def tw11494775297222114679:=0
def tw3192004700537934571:=0
def tw7801699953191776244:=0
def tw11561737752397746397:=0
def tw12015891782205297746:=0
def tw469720552399009540:=0
def tw15604931099091611105:=0
def tw4133999962883755219:=0
def tw9652675435761641447:=0
def tw15611803857247388483:=0
def tw14557000110477270191:=0
def tw5581048229521046579:=0
def tw3035517988134062121:=0
def tw10492069325395608943:=0
def tw8364121212360809796:=0
def tw6123229345147776672:=0
def tw2387645107912387045:=0
def tw4860365267001264159:=0
def tw16614455603398719592:=0
def tw5032314450997711328:=0
def tw12080667584843025324:=0
def tw2706782319692138334:=0
def tw9570343881847169545:=0
def tw1045293826441967818:=0
def tw5642292816188555613:=0
def tw7072151220609992212:=0
def tw6024565263018137470:=0
def tw11079614186824177572:=0
def tw8964976115905628516:=0
def tw17796820116315567931:=0
def tw9698947766901412712:=0
def tw8058420909042846883:=0
def tw15367354470185698939:=0
def tw6541459278620538396:=0
def tw16896235558956310977:=0
def tw4985219507248678270:=0
def tw11924182039191250712:=0
def tw6404481720152154978:=0
def tw9311527272909547522:=0
def tw11313350958569300722:=0
def tw914711852532678627:=0
def tw2671928794943597336:=0
def tw7000394618555866445:=0
def tw6085345841254554937:=0
def tw27512424128060666:=0
def tw1968433695635250657:=0
def tw17167129677584422068:=0
def tw18084615850830412066:=0
def tw10375165872301145005:=0
def tw12744273145521952465:=0
def tw15621017113076056045:=0
def tw8372792366276136555:=0
def tw9260441881654194862:=0
def tw14729848105615365391:=0
def tw13542835137432760991:=0
def tw10227285910919721314:=0
def tw1952530493427605770:=0
def tw17377314488194984915:=0
def tw7951211084213351514:=0
def tw1201791294832570232:=0
def tw18038907619422965670:=0
def tw16630600718996142707:=0
def tw16677692366423369047:=0
def tw7148524099576534590:=0
def tw2512731877919257219:=0
def tw7221168515718201194:=0
def tw8761180566194799541:=0
def tw3595090086430314803:=0
def tw86370045006747149:=0
def tw5002704774442517026:=0
def tw3250306265264196801:=0
def tw4943247739474546861:=0
def tw3970249390232116258:=0
def tw8105725733937286200:=0
def tw8430565035484315326:=0
def tw6741975299821558031:=0
def tw13369644870161428326:=0
def tw7790286706819571624:=0
def tw949774782948683244:=0
def tw11112131894908073369:=0
def tw16067393614567691314:=0
def tw8396386814417178866:=0
def tw9125041588821928062:=0
def tw14280733358570108886:=0
def tw5349573884421647868:=0
def tw9685994664145910104:=0
def tw8466951404579012808:=0
def tw6279020181120485054:=0
def tw5240040531246939480:=0
def tw1100452331076229506:=0
def tw14005769399835747980:=0
def tw17803255312498329605:=0
def tw9036431782766691099:=0
def tw7401196730045582769:=0
def tw4450416532026821960:=0
def tw10167013496790444225:=0
def tw10843545740048803876:=0
def tw17934864911247754354:=0
def tw12331559186889184585:=0
def tw11413145497082509587:=0
def tw5217184021878642967:=0
def tw17793276133276388070:=0
def tw8616705169619751702:=0
def tw16224822457994192246:=0
def tw1343339615485811214:=0
def tw14772392875883860666:=0
def tw5631361635144897327:=0
def tw16554670269424168251:=0
def tw9315319073254037588:=0
def tw17715483496663077669:=0
def tw3869822260318203343:=0
def tw12051750415632811530:=0
def tw9966506990282079868:=0
def tw3050698054569507407:=0
def tw15402418664796576454:=0
def tw2896757364147190656:=0
def tw13769073048191633554:=0
def tw2695861706952793078:=0
def tw7609046952872133612:=0
def tw17818084863559762359:=0
def tw17729515085778191564:=0
def tw15685915016489000393:=0
def tw9343194436760090159:=0
def tw2258021104855932905:=0
def tw4158803271963294235:=0
def tw9548543174406479827:=0
def tw8488476177732752432:=0
def tw2443550077749061037:=0
def tw5934644195398873538:=0
def tw6109657386393561609:=0
def tw13093931333747725475:=0
def tw12247663479309997318:=0
def tw15477826001099574845:=0
def tw8852561529029388623:=0
def tw15985238779730024759:=0
def tw587421905769866377:=0
def tw11044865156289635816:=0
def tw8270807235768778777:=0
def tw16331005102587150047:=0
def tw15930440122331896972:=0
def tw1490495402605304994:=0
def tw17003848554735929917:=0
def tw1945645639210461482:=0
def tw13621857659614805863:=0
def tw14310424349956581379:=0
def tw11677294394518698555:=0
def tw7935150486324961520:=0
def tw5598031340740428752:=0
def tw15015416065219677177:=0
def tw12015635212183571399:=0
def tw13441815164594508785:=0
def tw11555356991993785199:=0
def tw12801642673086506497:=0
def tw2134832706565110255:=0
def tw17327929352003854591:=0
def tw923690840760283984:=0
def tw4131318684974228387:=0
def tw7253042241152068670:=0
def tw322868489122829264:=0
def tw11865109433715575904:=0
def tw17212404565095880332:=0
def tw6837070897794693722:=0
def tw12369060113392864766:=0
def tw1759478574392219382:=0
def tw15466331264057734311:=0
def tw5452916506539925311:=0
def tw2111354568993104766:=0
def tw5378581757565527216:=0
def tw7969877174058232903:=0
def tw8719363917998563834:=0
def tw13363315853071838061:=0
def tw14291447733480313876:=0
def tw4176220728724066327:=0
def tw2554425222725174326:=0
def tw15684461076380567935:=0
def tw4721895909894197603:=0
def tw8218698005124882058:=0
def tw14728752897716374949:=0
def tw10711543518305007974:=0
def tw3931334038518265428:=0
def tw5967693776241505689:=0
def tw657037101977402570:=0
def tw17396085499161526299:=0
def tw17751342803679572917:=0
def tw9895556385589544102:=0
def tw10530392549616847636:=0
def tw11269826083833809559:=0
def tw17240998845028964977:=0
def tw5278361315936982911:=0
def tw8982515218023584763:=0
def tw2320682332078244946:=0
def tw13974562636227509116:=0
def tw11716908206382248074:=0
def tw13342667872911837363:=0
def tw3533247596696544357:=0
def tw6943448322687779874:=0
def tw7641722256934972467:=0
def tw16711974119720071924:=0
def tw6674416810767879220:=0
def tw3658753091393526237:=0
def tw6064653772762144012:=0
def tw2455779220641306219:=0
def tw1451513904410222391:=0
def tw9552629778996540169:=0
def tw16395480126968579650:=0
def tw13227155241983840601:=0
def tw16183774098598923335:=0
def tw17701544484859916242:=0
def tw17251681447773617241:=0
def tw7548443249624132268:=0
def tw12061125087368271795:=0
def tw1849522305340008275:=0
def tw11912758662368296120:=0
def tw8217389373158698298:=0
def tw6336746890869952849:=0
def tw558664954183358178:=0
def tw12445733358982596969:=0
def tw37651152382046696:=0
def tw12597472833968887779:=0
def tw16165172989629670538:=0
def tw8446684692707055673:=0
def tw16571963405730252354:=0
def tw15887307303990177196:=0
def tw10816228852825999176:=0
def tw9193340498041662968:=0
def tw13795910679745267295:=0
def tw179193659853321471:=0
def tw1315053715999283105:=0
def tw791752203046474859:=0
def tw465630982104755830:=0
def tw12688851806468406921:=0
def tw370845833892237691:=0
def tw13024185677518464953:=0
def tw4466626615167272801:=0
def tw488420087576580116:=0
def tw8642049043985518827:=0
def tw29501233414369572:=0
def tw16596112318773338949:=0
def tw4360787269405830580:=0
def tw6589087545201668560:=0
def tw17581361062608842392:=0
def tw10437864162283596202:=0
def tw5154512177551401916:=0
def tw9653758475890028955:=0
def tw3206864894705490285:=0
def tw13407031262207035444:=0
def tw4766986749399186907:=0
def tw17464266294839251506:=0
def tw10584230728798612773:=0
def tw16670583153892243614:=0
def tw4402319623413710761:=0
def tw2744106283644697032:=0
def tw18294059202017055777:=0
def tw1398283800445651804:=0
def tw8795294790361527926:=0
def tw15943458415613190816:=0
def tw15944760610069247922:=0
def tw12879341723914117446:=0
def tw14321375074345893327:=0
def tw9271490795760556789:=0
def tw911710472197416846:=0
def tw8849097049992434618:=0
def tw13055892356006389738:=0
def tw5731725493925753705:=0
def tw4610832711619142920:=0
def tw12569824554577293195:=0
def tw2132523438614570396:=0
def tw8234856541076376687:=0
def tw18390085438979046204:=0
def tw1925306920151719901:=0
def tw874551286557797167:=0
def tw26277492066648263:=0
def tw14775652919665220561:=0
def tw12208088616692127502:=0
def tw14713149717783717766:=0
def tw2472872032878588907:=0
def tw9328144745421719389:=0
def tw17039413176620590283:=0
def tw14764968798067737764:=0
def tw9206121185022965103:=0
def tw15642764413108471520:=0
def tw10367629081168377035:=0
def tw10937296184048491236:=0
def tw11225447948889884031:=0
def tw12304773139657715890:=0
def tw16841866193117092068:=0
def tw6981075802994658027:=0
def tw12842720846365110589:=0
def tw5232506823062269312:=0
def tw9846821510939852656:=0
def tw3301103303731957720:=0
def tw1912326232888019732:=0
def tw9996446842130735958:=0
def tw6010180201626070147:=0
def tw17663699439395158526:=0
def tw4475214450924877644:=0
def tw414559286042871147:=0
def tw15626782858034468493:=0
def tw11117534306645737410:=0
def tw3382953337975863890:=0
def tw9401531238874433642:=0
def tw16138074105256633726:=0
def tw16190024356795810810:=0
def tw587751382732377831:=0
def tw12963141136272811890:=0
def tw8254121383560063414:=0
def tw9874611465793853501:=0
def tw3274311704682702081:=0
def tw5313084664279801443:=0
def tw1398107070618421507:=0
def tw4457557689128894088:=0
def tw14388796224744189482:=0
def tw11321180952253313331:=0
def tw9739558473108867639:=0
def tw11915740744050402431:=0
def tw14655018163178351210:=0
def tw6696445179081962046:=0
def tw7963523916782619686:=0
def tw9894596888102103227:=0
def tw10786398637779318933:=0
def tw2644533531615553034:=0
def tw4015209219496750432:=0
def tw14529099536586212712:=0
def tw17738224552566470411:=0
def tw15447210178652084164:=0
def tw9026136627760365612:=0
def tw8740752170045520932:=0
def tw4391473684082496051:=0
def tw3769224671544103439:=0
def tw11682000036741939877:=0
def tw9895426985474515763:=0
def tw17421991017637192408:=0
def tw2927338097489230532:=0
def tw14229947467815952689:=0
def tw10931625141280138759:=0
def tw12087480195513310308:=0
def tw181182239755813505:=0
def tw6115539480236095774:=0
def tw16358685783490634776:=0
def tw17509915620598016861:=0
def tw6321964072658061687:=0
def tw5517957784864967565:=0
def tw9103398851800707311:=0
def tw11755995983285269450:=0
def tw9739811671180165059:=0
def tw1853379877388390386:=0
def tw7605787596041158232:=0
def tw14922709301596324197:=0
def tw1431502285607598679:=0
def tw18174888047343411465:=0
def tw12042167368503885428:=0
def tw16188961670160721729:=0
def tw9401977501704350827:=0
def tw1862187967456064733:=0
def tw3418661633906061401:=0
def tw4736930385310257297:=0
def tw4242582867970767121:=0
def tw9600770145668877620:=0
def tw18020771505371730880:=0
end PySem.W.Fast
set_option maxRecDepth 100000 in
set_option maxHeartbeats 0 in
theorem PySem.Challenge.cw_quillhouse_k09_whole_room_holds : PySem.Challenge.rw_quillhouse_k09_whole_room.Holds := by
 w_on;o_law;k_head;(case hw=>w_witness2)
 k_fill
 refine F9.walk (l:=PySem.Challenge.rw_quillhouse_k09_whole_room) rfl rfl (fun w h Y=>PySem.W.kIn_of Y) ?F
 case F =>
  intro w ai e5 h ov G xe
  refine' F9.all_mk ov G xe ?PX ?PW ?PV ?PU ?PT ?PS ?a1 ?hb ?fN ?cL ?k1 ?a2 ?kc ?hY ?dV ?k2 ?kU ?mj ?qy ?ep ?k3 ?qE ?qA ?m6 ?f_ ?jP ?pF ?xZ ?gr ?kT ?k5 ?SK ?Sl ?BK ?GY ?xY ?SJ ?Sk ?Sf ?SD ?GD ?SI ?Sj ?r4 ?SA ?GC ?SH ?Si ?Se ?Sz ?GB ?QK ?NV ?NK ?PE ?Ff ?QJ ?NU ?NJ ?PD ?Fe ?QI ?i12 ?NI ?PC ?Fd ?QH ?NT ?NH ?PB ?uD ?QG ?NS ?NG ?PA ?uC ?QF ?NR ?NF ?Pz ?Fc ?QE ?NQ ?ND ?Py ?Fb ?QD ?NP ?NC ?Px ?E_ ?QC ?NO ?NB ?Pw ?E9 ?QB ?Nz ?Pu ?E8 ?QA ?Ny ?Pr ?E7 ?Qz ?Nx ?Pq ?E6 ?Qy ?Nv ?Pp ?E5 ?Qx ?Nu ?Po ?Ax ?Qw ?Nt ?Pn ?E4 ?Qv ?Nr ?Pk ?E3 ?Qu ?Nq ?Pj ?w3 ?Qt ?Np ?Ph ?E2 ?Qs ?Nn ?Pg ?Aw ?Qq ?Nm ?Pf ?E1 ?Qp ?Nl ?Pe ?E0 ?Qo ?Nk ?Pd ?EZ ?Qn ?Nj ?Pc ?EY ?Qm ?Ni ?Pb ?EX ?Ql ?Nh ?Pa ?EW ?Qk ?Ng ?O_ ?EV ?Qj ?Nf ?O9 ?Av ?Qi ?Nd ?O8 ?EU ?Qh ?Nc ?O7 ?Au ?Qg ?Nb ?O6 ?ET ?Qf ?Na ?O5 ?As ?Qe ?M_ ?O4 ?ES ?Qd ?M9 ?O3 ?ER ?Qc ?M8 ?O2 ?EP ?Qa ?M7 ?O1 ?EO ?P_ ?M6 ?O0 ?EN ?P9 ?M5 ?OZ ?EM ?P8 ?M4 ?OY ?uB ?P7 ?M3 ?OX ?Ar ?P6 ?M1 ?OW ?Aq ?P5 ?M0 ?OV ?EL ?P4 ?MZ ?OU ?Ao ?P1 ?MY ?OT ?EK ?P0 ?MX ?OS ?EJ ?PZ ?MW ?OR ?EI ?PY ?MV ?OQ ?NL ?K6 ?Lp ?K2 ?KY ?Lg ?Lj ?IA ?Jz ?K5 ?Lo ?K1 ?KX ?Lf ?Li ?HZ ?I9 ?I7 ?HK ?H0 ?I8 ?HY ?Iz ?Ej ?Ei ?Eh ?Eg ?KJ ?KI ?KH ?KG ?KD ?KC ?KA ?Kz ?Ky ?Kx ?Kw ?Kv ?Ku ?Ks ?Kr ?Kq ?JK ?Ji ?Kc ?J_ ?JM ?Hv ?Ka ?Jj ?HB ?JL ?J9 ?Ce
  all_goals try k_is
  (case Ej=>k_exc)
  (case Ei=>k_exc)
  (case Eh=>k_exc)
  (case Eg=>k_exc)
  all_goals try kts_exm
