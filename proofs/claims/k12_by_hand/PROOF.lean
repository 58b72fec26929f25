import PyProof.Rows.All
import Wide.All
import OpenK.AllK
import Wide.FinOn
import Lean
import PyProof.EqAt
import PyProof.EqKinds
import PyProof.TupleCall
import PyProof.NeKinds
import KE.KTryMore
import PySem.Challenge.RW_quillhouse_k12_by_hand
set_option Elab.async false
set_option linter.all false
set_option maxRecDepth 100000
set_option maxHeartbeats 0
open List (any_append any_cons any_eq_true append_nil filterMap_cons filter_cons find?_cons find?_cons_of_neg find?_cons_of_pos getD_eq_getElem?_getD getElem?_append_left getElem?_append_right getElem?_eq_getElem getElem?_map getElem?_reverse length_append length_cons length_drop length_filter_le length_map length_nil length_reverse length_set length_singleton length_take lookup_cons map_append map_cons map_map map_nil mem_append mem_append_left mem_append_right mem_cons mem_cons_of_mem mem_cons_self mem_filter mem_map mem_of_getElem? mem_reverse mem_singleton nodup_cons nodup_nil not_mem_nil of_mem_zip size_toArray sum_cons take_add_one take_length)
open Nat (le_of_ble_eq_true le_of_eq le_of_lt le_refl le_succ le_succ_of_le le_trans lt_irrefl lt_of_le_of_lt lt_of_lt_of_le ne_of_gt ne_of_lt not_lt_zero sub_self zero_add zero_le)
open PySem.W (emptyDict excIn exmOne findIn hideAll instObj keepIn kia_one kitOne)
open PySem.F (excBase_ValueError plainAttrs_list slot_dict_get)
open PySem.Heap (get?_push_of_some get?_push_size get?_update_other get?_update_self lt_size size_push)
open Bool (and_eq_true)
namespace L2
open PySem PySem.Spec PyProof.Rows
abbrev Key:=Sum Int Str
def sH:Key→Value→Bool
 | .inl k,v=>Value.isInt k v
 | .inr x,v=>Value.isStrOf x v
def U8 (w:World):Key→Int
 | .inl k=>hashInt k
 | .inr x=>hashStr w x
theorem m_:∀{k:Key}{v:Value},sH k v=true→(∃i t,k=Sum.inl i∧v=Value.int i t)∨(∃x t,k=Sum.inr x∧v=Value.str x t)
 | .inl i,v,h=>by
  obtain⟨t,e⟩:=Value.isInt_shape (k:=i) (v:=v) h
  exact .inl ⟨i,t,rfl,e⟩
 | .inr x,v,h=>by
  obtain⟨t,e⟩:=Value.isStrOf_shape (x:=x) (v:=v) h
  exact .inr ⟨x,t,rfl,e⟩
theorem Qj (i:Int) (t:Tok):sH (.inl i) (.int i t)=true:=by simp[sH,Value.isInt]
theorem Qi (x:Str) (t:Tok):sH (.inr x) (.str x t)=true:=by simp[sH,Value.isStrOf]
theorem S5 (a b:Int):decide ((Sum.inl a:Key)=Sum.inl b)=(a == b):=by
 by_cases e:a=b
 ·subst e;simp
 ·have h:¬(Sum.inl a:Key)=Sum.inl b:=fun q=>e (Sum.inl.inj q)
  rw[decide_eq_false h]
  exact (beq_eq_false_iff_ne.mpr e).symm
theorem S2 (a b:Str):decide ((Sum.inr a:Key)=Sum.inr b)=decide (a=b):=by
 by_cases e:a=b
 ·subst e;simp
 ·have h:¬(Sum.inr a:Key)=Sum.inr b:=fun q=>e (Sum.inr.inj q)
  rw[decide_eq_false h,decide_eq_false e]
theorem S4 (a:Int) (b:Str):decide ((Sum.inl a:Key)=Sum.inr b)=false:=decide_eq_false (fun q=>nomatch q)
theorem S3 (a:Str) (b:Int):decide ((Sum.inr a:Key)=Sum.inl b)=false:=decide_eq_false (fun q=>nomatch q)
def ho (prog:Program) (w:World):PySem.KeyKind prog w Key where
 is:=sH
 hash:=U8 w
 inj:=fun v a b bf aa=>by
  rcases m_ bf with ⟨i,t,rfl,rfl⟩ | ⟨x,t,rfl,rfl⟩
  ·rcases m_ aa with ⟨j,u,rfl,e⟩ | ⟨y,u,rfl,e⟩
   ·injection e with aJ _;rw[aJ]
   ·exact nomatch e
  ·rcases m_ aa with ⟨j,u,rfl,e⟩ | ⟨y,u,rfl,e⟩
   ·exact nomatch e
   ·injection e with aJ _;rw[aJ]
 byValue:=fun k v h=>by
  rcases m_ h with ⟨i,t,rfl,rfl⟩ | ⟨x,t,rfl,rfl⟩ <;> rfl
 pyHash:=fun bA h=>by
  rcases m_ bA with ⟨i,t,rfl,rfl⟩ | ⟨x,t,rfl,rfl⟩
  ·exact wpAny_pyHash_int h
  ·exact wpAny_pyHash_str h
 eqBool:=fun bp bA h=>by
  rcases m_ bp with ⟨i,t,rfl,rfl⟩ | ⟨x,t,rfl,rfl⟩
  ·rcases m_ bA with ⟨j,u,rfl,rfl⟩ | ⟨y,u,rfl,rfl⟩
   ·rw[S5]at h;exact wpAny_eqBool_int h
   ·rw[S4]at h;exact SeqAt.EqAt.int_str i t y u _ _ _ _ h
  ·rcases m_ bA with ⟨j,u,rfl,rfl⟩ | ⟨y,u,rfl,rfl⟩
   ·rw[S3]at h;exact SeqAt.EqAt.str_int x t j u _ _ _ _ h
   ·rw[S2]at h;exact wpAny_eqBool_str h
 «strs» := fun k x t v h=>by
  rcases m_ h with ⟨i,u,rfl,e⟩ | ⟨y,u,rfl,e⟩
  ·exact nomatch e
  ·injection e with aJ _
   subst aJ
   cases v <;> rfl
theorem Pp (prog:Program) (w:World) (i:Int) (t:Tok):(ho prog w).is (.inl i) (.int i t)=true:=Qj i t
theorem Po (prog:Program) (w:World) (x:Str) (t:Tok):(ho prog w).is (.inr x) (.str x t)=true:=Qi x t
inductive V where
 | cc | b8 (b:Bool) | int (i:Int) | str (x:Str) | lP (b:Array UInt8) | p2 (b:UInt64) | ref (a:Addr) | ty (n:String)
 deriving DecidableEq
def RelV:V→Value→Prop
 | .cc,u=>u=Value.none
 | .b8 b,u=>u=Value.bool b
 | .int i,u=>∃t,u=Value.int i t
 | .str x,u=>∃t,u=Value.str x t
 | .lP b,u=>∃t,u=Value.bytes b t
 | .p2 b,u=>∃t,u=Value.float b t
 | .ref a,u=>u=Value.ref a
 | .ty n,u=>u=Value.type n
abbrev Vals:List V→List Value→Prop:=Paired RelV
theorem Vals.length {xs:List V}{us:List Value}(r:Vals xs us):xs.length=us.length:=Paired.length r
theorem Vals.get:∀{xs:List V}{us:List Value}{i:Nat}{x:V},Vals xs us→xs[i]?=some x→∃u,us[i]?=some u∧RelV x u
 | _,_,_,_,.nil,e=>by simp at e
 | _,_,0,_,.cons r _,e=>by simp at e;subst e;exact⟨_,rfl,r⟩
 | _,_,i+1,x,.cons _ t,e=>by
  obtain⟨u,av,aC⟩:=Vals.get (i:=i) (x:=x) t (by simpa using e)
  exact⟨u,by simpa using av,aC⟩
theorem Vals.set {x:V}{u:Value}(r:RelV x u):∀{xs:List V}{us:List Value}(i:Nat),Vals xs us→Vals (xs.set i x) (us.set i u)
 | _,_,_,.nil=>.nil
 | _,_,0,.cons _ t=>.cons r t
 | _,_,i+1,.cons q t=>.cons q (Vals.set r i t)
theorem Vals.append:∀{xs ys:List V}{us ws:List Value},Vals xs us→Vals ys ws→Vals (xs++ys) (us++ws)
 | _,_,_,_,.nil,s=>s
 | _,_,_,_,.cons r t,s=>.cons r (Vals.append t s)
theorem Vals.take:∀{xs:List V}{us:List Value}(n:Nat),Vals xs us→Vals (xs.take n) (us.take n)
 | _,_,0,_=>.nil
 | _,_,_+1,.nil=>.nil
 | _,_,n+1,.cons r t=>.cons r (Vals.take n t)
theorem Vals.drop:∀{xs:List V}{us:List Value}(n:Nat),Vals xs us→Vals (xs.drop n) (us.drop n)
 | _,_,0,r=>r
 | _,_,_+1,.nil=>.nil
 | _,_,n+1,.cons _ t=>Vals.drop n t
def h2:Option V→Option Value→Prop
 | some v,some u=>RelV v u
 | none,none=>True
 | _,_=>False
def fl {κ:Type}:List (κ × V)→List (κ × Value)→Prop:=Paired fun (p:κ × V) (q:κ × Value)=>p.1=q.1∧RelV p.2 q.2
def dZ:Key→V
 | .inl i=>.int i
 | .inr x=>.str x
inductive eU where
 | lst (xs:List V)
 | tup (xs:List V)
 | b2 (kvs:List (Key × V)) | hj (kvs:List (List Key × V))
 | set (S:Int→Bool) (n:Nat)
 | ins (C dx:Addr) (bF:List (Str × V))
 | own (x:Addr)
 | zZ (bF:List (Str × V))
 | met (f x:Addr)
 | kG (lo aW:Int)
 | iN (o:Obj) (u:eU)
 | pQ (aB:Array Value)
 | ext (φ:Heap→Prop)
abbrev aj:=Addr→Option eU
def upd (H:aj) (a:Addr) (o:eU):aj:=fun b=>if b=a then some o else H b
theorem aT {H:aj}{a:Addr}{o:eU}:upd H a o a=some o:=by unfold upd;rw[if_pos rfl]
theorem ay {H:aj}{a b:Addr}{o:eU}(h:b≠a):upd H a o b=H b:=by unfold upd;rw[if_neg h]
theorem qE {H:aj}{a:Addr}{o u:eU}:upd (upd H a o) a u=upd H a u:=by
 funext b;unfold upd;split <;> rfl
theorem dv {H:aj}{a b:Addr}{o u:eU}(h:H a=some o) (h':H b=some u) (d:o≠u):a≠b:=by
 intro e;subst e;rw[h]at h';exact d (Option.some.inj h')
theorem cG {H:aj}{a b:Addr}{o:eU}(h:H a=some o) (h':H b=none):a≠b:=by
 intro e;subst e;rw[h]at h';cases h'
section
variable (P:Program) (w:World)
def fa (H:aj) (h:Heap) (a:Addr):eU→Prop
 | .lst xs=>xs.length≤sizeLine∧∃(its:List Value) (n:Nat),Vals xs its∧h.get? a=some { cls:=.type "list",data:=.seq its.toArray n }
 | .tup xs=>xs.length≤sizeLine∧∃its:List Value,Vals xs its∧IsTup h a its.toArray
 | .b2 kvs=>kvs.length≤sizeLine∧(a == sysModules)=false∧∃vs,fl kvs vs∧h.DictOf (ho P w) a vs
 | .hj kvs=>kvs.length≤sizeLine∧(a == sysModules)=false∧∃xs:List (List Key × Addr × Value),
   Paired (fun (p:List Key × V) (q:List Key × Addr × Value)=>p.1=q.1∧H q.2.1=some (.tup (p.1.map dZ))∧RelV p.2 q.2.2) kvs xs ∧
   ∃o aM cL,h.get? a=some o∧o.ExactDict∧o.data=.dict aM cL∧aM.toList=xs.map (entryOfKey (tupleKind (ho P w)))∧(xs.map (·.1)).Nodup
 | .set S n=>h.SetOf (intKind P w) a S n
 | .ins C dx bF=>H dx=some (.own a)∧bF.length≤1000∧dx≠a∧h.get? a=some (instObj C dx) ∧
   ∃d3,h.Ns1 dx d3∧(∀f,h2 (bF.lookup f) (d3 f))∧PySem.Within d3 (bF.map (·.1))
 | .own _=>∃o,h.get? a=some o
 | .zZ bF=>∃d3,h.Ns1 a d3∧∀f,h2 (bF.lookup f) (d3 f)
 | .kG lo aW=>∃t u v,h.get? a=some { cls:=.type "range",data:=.fields #[.int lo t,.int aW u,.int 1 v] }
 | .iN o u=>h.get? a=some o∧fa H h a u
 | .pQ aB=>h.get? a=some { cls:=.none,data:=.fields aB }
 | .met f x=>h.get? a=some (PySem.W.methodObj (.ref f) (.ref x))
 | .ext φ=>φ h∧(∃o,h.get? a=some o)∧∀av aC:Heap,φ av→(∀o,av.get? a=some o→aC.get? a=some o)→φ aC
def ep (H:aj) (h:Heap):Prop:=∀a o,H a=some o→fa P w H h a o
end
section
variable {P:Program}{w:World}{H af:aj}{h h':Heap}{a:Addr}{o:eU}
theorem fa.lt (x:fa P w H h a o):a<h.objs.size:=by
 cases o with
 | lst xs=>obtain⟨_,_,_,_,e⟩:=x;exact lt_size e
 | tup xs=>obtain⟨_,_,_,p⟩:=x;exact p.lt
 | b2 kvs=>obtain⟨_,_,_,_,o,_,_,e,_⟩:=x;exact lt_size e
 | hj kvs=>obtain⟨_,_,_,_,o,_,_,e,_⟩:=x;exact lt_size e
 | set S n=>obtain⟨o,_,_,_,e,_⟩:=x;exact lt_size e
 | ins C dx bF=>obtain⟨_,_,_,e,_⟩:=x;exact lt_size e
 | own y=>obtain⟨_,e⟩:=x;exact lt_size e
 | zZ bF=>obtain⟨_,⟨_,_,_,e,_⟩,_⟩:=x;exact lt_size e
 | kG lo aW=>obtain⟨_,_,_,e⟩:=x;exact lt_size e
 | iN bT u=>obtain⟨e,_⟩:=x;exact lt_size e
 | pQ aB=>exact lt_size (show h.get? a=some _ from x)
 | met f y=>exact lt_size (show h.get? a=some _ from x)
 | ext φ=>obtain⟨_,⟨_,e⟩,_⟩:=x;exact lt_size e
theorem Paired.CD {α β:Type}{F G:α→β→Prop}:∀{Oq:List α}{Oo:List β},Paired F Oq Oo→(∀a b,F a b→G a b)→Paired G Oq Oo
 | _,_,.nil,_=>.nil
 | _,_,.cons r t,f=>.cons (f _ _ r) (Paired.CD t f)
theorem fa.iJ (x:fa P w H h a o) (k:∀b u,(b=a∨H b=some (.own a))→h.get? b=some u→h'.get? b=some u)
  (aF:∀b,H b=some (.own a)→af b=some (.own a)) (bG:∀b xs,H b=some (.tup xs)→af b=some (.tup xs)):fa P w af h' a o:=by
 induction o with
 | lst xs=>obtain⟨z,its,n,r,e⟩:=x;exact⟨z,its,n,r,k _ _ (.inl rfl) e⟩
 | tup xs=>obtain⟨z,its,r,bT,e,c⟩:=x;exact⟨z,its,r,bT,k _ _ (.inl rfl) e,c⟩
 | b2 kvs=>obtain⟨z,y,vs,r,bT,aM,cL,e,c⟩:=x;exact⟨z,y,vs,r,bT,aM,cL,k _ _ (.inl rfl) e,c⟩
 | hj kvs =>
  obtain⟨z,y,xs,r,bT,aM,cL,e,c⟩:=x
  exact⟨z,y,xs,Paired.CD r fun p q z=>⟨z.1,bG _ _ z.2.1,z.2.2⟩,bT,aM,cL,k _ _ (.inl rfl) e,c⟩
 | set S n=>obtain⟨bT,aM,cL,t,e,c⟩:=x;exact⟨bT,aM,cL,t,k _ _ (.inl rfl) e,c⟩
 | ins C dx bF =>
  obtain⟨d,z,ne,e,d3,⟨e7,aM,cL,aQ,c⟩,r⟩:=x
  exact⟨aF _ d,z,ne,k _ _ (.inl rfl) e,d3,⟨e7,aM,cL,k _ _ (.inr d) aQ,c⟩,r⟩
 | own y=>obtain⟨bT,e⟩:=x;exact⟨bT,k _ _ (.inl rfl) e⟩
 | zZ bF=>obtain⟨d3,⟨e7,aM,cL,e,c⟩,r⟩:=x;exact⟨d3,⟨e7,aM,cL,k _ _ (.inl rfl) e,c⟩,r⟩
 | kG lo aW=>obtain⟨t,u,v,e⟩:=x;exact⟨t,u,v,k _ _ (.inl rfl) e⟩
 | iN bT u dt=>obtain⟨e,q⟩:=x;exact⟨k _ _ (.inl rfl) e,dt q⟩
 | pQ aB =>
  have e:h.get? a=some { cls:=.none,data:=.fields aB }:=x
  show h'.get? a=some { cls:=.none,data:=.fields aB }
  exact k a _ (.inl rfl) e
 | met f y =>
  have e:h.get? a=some (PySem.W.methodObj (.ref f) (.ref y)):=x
  show h'.get? a=some (PySem.W.methodObj (.ref f) (.ref y))
  exact k a _ (.inl rfl) e
 | ext φ=>obtain⟨p,⟨o,e⟩,st⟩:=x;exact⟨st _ _ p fun o q=>k _ _ (.inl rfl) q,⟨o,k _ _ (.inl rfl) e⟩,st⟩
theorem ep.lt (x:ep P w H h) (e:H a=some o):a<h.objs.size:=(x a o e).lt
theorem ep.fresh (x:ep P w H h) (e:h.objs.size≤a):H a=none:=by
 cases q:H a with
 | none=>rfl
 | some u=>exact absurd (lt_of_lt_of_le (x.lt q) e) (lt_irrefl _)
theorem ep.kept (x:ep P w H h) (k:∀b u,h.get? b=some u→h'.get? b=some u):ep P w H h':=fun a o e =>
 (x a o e).iJ (fun b u _ q=>k b u q) (fun _ q=>q) fun _ _ q=>q
theorem ep.laid (x:ep P w H h) (k:∀b u,h.get? b=some u→h'.get? b=some u) (aD:h.objs.size≤a) (new:fa P w (upd H a o) h' a o):ep P w (upd H a o) h':=fun b u e=>by
 have aN:=x.fresh aD
 by_cases aa:b=a
 ·subst aa;rw[aT]at e;cases e;exact new
 ·rw[ay aa]at e
  exact (x b u e).iJ (fun c v _ q=>k c v q) (fun c q=>by rw[ay (cG q aN)];exact q) fun c xs q=>by rw[ay (cG q aN)];exact q
end
def m7 (H:aj) (a:Addr) (u:eU):Prop:=H a=some u∨∃o,H a=some (.iN o u)
theorem m7.ok {P:Program}{w:World}{H:aj}{h:Heap}{a:Addr}{u:eU}(r:m7 H a u) (x:ep P w H h):fa P w H h a u:=by
 rcases r with r | ⟨o,r⟩
 ·exact x a u r
 ·obtain⟨_,q⟩:=x a _ r
  exact q
def vR:Option eU→Prop
 | some (.lst _)=>True
 | some (.b2 _)=>True
 | some (.hj _)=>True
 | some (.set _ _)=>True
 | some (.ins _ _ _)=>True
 | some (.ext _)=>True
 | _=>False
section
variable {P:Program}{w:World}{H:aj}{h h':Heap}{x e:Addr}{eO:eU}
theorem ep.write (ok:ep P w H h) (kh:vR (H x)) (he:e=x∨H e=some (.own x)) (k:∀b u,b≠e→h.get? b=some u→h'.get? b=some u) (pX:∃u,h'.get? e=some u)
  (new:fa P w (upd H x eO) h' x eO):ep P w (upd H x eO) h':=fun b u q=>by
 have Jy:∀c y,H c=some (.own y)→c≠x:=fun c y r z=>by subst z;rw[r]at kh;exact kh
 have UZ:∀c xs,H c=some (.tup xs)→c≠x:=fun c xs r z=>by subst z;rw[r]at kh;exact kh
 by_cases aa:b=x
 ·subst aa;rw[aT]at q;cases q;exact new
 ·rw[ay aa]at q
  by_cases hbe:b=e
  ·have nR:H b=some (.own x):=by
    rcases he with z | z
    ·exact absurd (hbe.trans z) aa
    ·rw[hbe];exact z
   rw[q]at nR;cases nR
   obtain⟨v,bA⟩:=pX
   exact⟨v,by rw[hbe];exact bA⟩
  ·refine (ok b u q).iJ (fun c v ai r=>k c v ?_ r) (fun c r=>by rw[ay (Jy c b r)];exact r) fun c xs r=>by rw[ay (UZ c xs r)];exact r
   rcases ai with rfl | ai
   ·exact hbe
   ·rintro rfl
    rcases he with z | z
    ·exact Jy c b ai z
    ·rw[ai]at z;cases z;exact aa rfl
end
structure gW (bF ex:List Addr) (H af:aj) (h h':Heap):Prop where
 keep:∀b o,h.get? b=some o→H b=none→b∉bF→b∉ex→h'.get? b=some o
 slot:∀b o,h.get? b=some o→H b=none→b∈bF→b∉ex→∃dC,h'.get? b=some { o with slots:=dC }
 free:∀b o,h.get? b=some o→H b=none→b∉ex→af b=none
 there:∀b o,h.get? b=some o→b∉ex→∃eO,h'.get? b=some eO
 nq:∀b xs,H b=some (.tup xs)→af b=some (.tup xs)
 ml:∀b o u,H b=some (.iN o u)→af b=some (.iN o u)
 nt:∀b aB,H b=some (.pQ aB)→∃more,af b=some (.pQ (aB++more))
section
variable {bF s_ ex Z3:List Addr}{H H1 aq:aj}{h av aC h':Heap}{a x e:Addr}{o:eU}
theorem gW.any (u:gW bF ex H H1 h av) {b:Addr}{bT:Obj}(q:h.get? b=some bT) (n:H b=none) (aZ:b∉ex):∃dC,av.get? b=some { bT with slots:=dC }:=by
 by_cases aa:b∈bF
 ·exact u.slot b bT q n aa aZ
 ·exact⟨bT.slots,u.keep b bT q n aa aZ⟩
theorem gW.kept (k:∀b u,h.get? b=some u→h'.get? b=some u):gW bF ex H H h h' :=
 ⟨fun b bT q _ _ _=>k b bT q,fun b bT q _ _ _=>⟨bT.slots,k b bT q⟩,fun _ _ _ n _=>n,fun b bT q _=>⟨bT,k b bT q⟩,fun _ _ q=>q,fun _ _ _ q=>q,fun _ aB q=>⟨#[],by rw[q];simp⟩⟩
theorem gW.refl:gW bF ex H H h h:=gW.kept fun _ _ q=>q
theorem gW.laid (k:∀b u,h.get? b=some u→h'.get? b=some u) (aD:h.objs.size≤a) (aN:H a=none):gW bF ex H (upd H a o) h h' where
 keep:=fun b u q _ _ _=>k b u q
 slot:=fun b u q _ _ _=>⟨u.slots,k b u q⟩
 free:=fun b u q n _=>by rw[ay (ne_of_lt (lt_of_lt_of_le (lt_size q) aD))];exact n
 there:=fun b u q _=>⟨u,k b u q⟩
 nq:=fun b xs q=>by rw[ay (cG q aN)];exact q
 ml:=fun b u xs q=>by rw[ay (cG q aN)];exact q
 nt:=fun b aB q=>⟨#[],by rw[ay (cG q aN),q];simp⟩
theorem gW.write (kh:vR (H x)) (he:e=x∨H e=some (.own x)) (k:∀b u,b≠e→h.get? b=some u→h'.get? b=some u) (pX:∃u,h'.get? e=some u):gW bF ex H (upd H x o) h h':=by
 have aZ:∀b,H b=none→b≠x:=fun b n z=>by subst z;rw[n]at kh;exact kh
 have aa:∀b,H b=none→b≠e:=fun b n z=>by
  subst z
  rcases he with r | r
  ·exact aZ b n r
  ·rw[n]at r;cases r
 have hm:∀b u,H b=some u→¬vR (some u)→b≠x:=fun b u q nm z=>by subst z;rw[q]at kh;exact nm kh
 refine⟨fun b u q n _ _=>k b u (aa b n) q,fun b u q n _ _=>⟨u.slots,k b u (aa b n) q⟩,fun b u q n _=>by rw[ay (aZ b n)];exact n,fun b u q _=>?_,
  fun b xs q=>by rw[ay (hm b _ q fun z=>z)];exact q,fun b u xs q=>by rw[ay (hm b _ q fun z=>z)];exact q,fun b aB q=>⟨#[],by rw[ay (hm b _ q fun z=>z),q];simp⟩⟩
 by_cases hbe:b=e
 ·subst hbe;exact pX
 ·exact⟨u,k b u hbe q⟩
end
def y2 (h:Heap) (H:aj):List Addr:=(List.range h.objs.size).filter fun a=>(H a).isSome
def oe (h:Heap) (H:aj):Heap:=hideAll h (y2 h H)
theorem Qo (h:Heap) (H:aj):(oe h H).objs.size=h.objs.size:=PySem.W.hideAll_size _ _
theorem Rr {h:Heap}{H:aj}{b:Addr}{o:Obj}(e:h.get? b=some o) (n:H b=none):(oe h H).get? b=some o :=
 PySem.W.hideAll_get _ e fun hm=>by
  have q:(H b).isSome=true:=(mem_filter.mp hm).2
  rw[n]at q;simp at q
theorem R5 {h:Heap}{H:aj}{b:Addr}{o:Obj}(e:(oe h H).get? b=some o):h.get? b=some o∧H b=none:=by
 have dH:h.get? b=some o:=PySem.W.of_hideAll (y2 h H) e
 refine⟨dH,?_⟩
 cases q:H b with
 | none=>rfl
 | some x =>
  have hm:b∈y2 h H:=mem_filter.mpr ⟨List.mem_range.mpr (lt_size dH),by simp[q]⟩
  have z:(oe h H).get? b=none:=PySem.W.hideAll_none (y2 h H) hm
  rw[z]at e;cases e
structure Mod (K:PySem.W.Frag) (mg:Str→Option Value) (base:Heap):Prop where
 sX:K.In base
 glob:base.Ns mainGlobals mg
 blt:∃lU,base.Ns builtinsNs lU∧∀x:Str,x≠"__name__"→lU x=bootBuiltins x
 nolimit:base.NoLimit
structure br where
 prog:Program
 w:World
 K:PySem.W.Frag
 mg:Str→Option Value
 base:Heap
 A:Around
 N:List Str
 ff:Shared
 w4:aj
 env:Env
 outer:List Env
 stack:List Env
 ex:List Addr
 fn:Str→Bool
 calm:Bool
 bR:List (Addr × Obj)
 dp:Value→Shared→Prop
def fo (l:List Env):List Addr:=l.filterMap (·.frame)
abbrev br.bF (X:br):List Addr:=fo X.outer
def zL (sc:Scope) (x:Str):Prop:=sc.names.lookup x=some .local∨sc.names.lookup x=some .cell∨sc.names.lookup x=some .free
def Loc (sc:Scope) (x:Str):Prop:=sc.names.lookup x=some .local∨sc.names.lookup x=some .cell
def Look (env:Env) (h:Heap) (m:Str→Option Value) (x:Str) (u:Value):Prop :=
 (env.kindOf x=some .local∧m x=some u)∨((env.kindOf x=some .cell∨env.kindOf x=some .free)∧∃c,env.cells.lookup x=some c∧h.IsCell c (some u))
structure br.Ok (X:br):Prop where
 mod:Mod X.K X.mg X.base
 kind:X.env.scope.kind=.function
 glob:X.env.globals=mainGlobals
 blt:X.env.builtins=builtinsNs
 above:X.ff.heap.objs.size≤X.env.locals
 inj:∀x y c,X.env.cells.lookup x=some c→X.env.cells.lookup y=some c→x=y
 has:∀x,(X.env.kindOf x=some .cell∨X.env.kindOf x=some .free)→∃c,X.env.cells.lookup x=some c
 kL:∀x c,X.fn x=true→X.env.cells.lookup x=some c→X.ff.heap.objs.size≤c
 hd:X.calm=true→X.A.handled=none
 frames:X.A.frames=some X.stack
 jn:X.stack=X.outer∨(X.stack=X.env::X.outer∧X.env.frame=some X.env.locals)
 lN:∀b∈X.ex,b≠X.env.locals∧∀x c,X.env.cells.lookup x=some c→c≠b
 bs:∀b o,X.base.get? b=some o→X.ff.heap.get? b=some o∧X.w4 b=none
 iO:X.base.objs.size≤X.ff.heap.objs.size
 jW:∀b o,X.base.get? b=some o→b∉X.ex
 lx:∀b∈X.ex,b∉X.bF
 hF:X.ff.heap.FunFrames X.base X.outer
 jz:∀b∈X.bF,X.w4 b=none
structure Inv (X:br) (pins:List (Addr × Obj)) (σ:List (Option V)) (H:aj) (s:Shared):Prop where
 ok:X.Ok
 os:s.os=X.ff.os
 bare:AllBare s.gens
 base:gW X.bF X.ex X.w4 H X.ff.heap s.heap
 loc:∃m,s.heap.Ns X.env.locals m∧∀(i:Nat) (x:Str) (v:V),X.N[i]?=some x→σ[i]?=some (some v)→zL X.env.scope x→∃u,RelV v u∧Look X.env s.heap m x u
 cell:∀x c,X.env.cells.lookup x=some c→∃v,s.heap.IsCell c v
 free:H X.env.locals=none
 hq:∀x c,X.env.cells.lookup x=some c→H c=none
 pin:∀p∈X.bR++pins,s.heap.get? p.1=some p.2∧H p.1=none∧p.1≠X.env.locals∧p.1∉X.bF∧∀v,p.2.data≠.cell v
 bC:ep X.prog X.w H s.heap
 len:σ.length=X.N.length
section
variable {X:br}{pins:List (Addr × Obj)}{σ:List (Option V)}{H af:aj}{s:Shared}{h':Heap}
theorem br.Ok.U1 (ok:X.Ok) {b:Addr}{o:Obj}(e:X.base.get? b=some o):b∉X.bF:=fun aa=>by
 have:=(ok.hF.mem aa).1
 rw[e]at this;cases this
theorem Inv.bs (I:Inv X pins σ H s):∀b o,X.base.get? b=some o→s.heap.get? b=some o∧H b=none:=fun b o e =>
 ⟨I.base.keep b o (I.ok.bs b o e).1 (I.ok.bs b o e).2 (I.ok.U1 e) (I.ok.jW b o e),I.base.free b o (I.ok.bs b o e).1 (I.ok.bs b o e).2 (I.ok.jW b o e)⟩
theorem Inv.hk (I:Inv X pins σ H s):∀b o,X.base.get? b=some o→s.heap.get? b=some o:=fun b o e=>(I.bs b o e).1
theorem Inv.mod (I:Inv X pins σ H s):Mod X.K X.mg X.base:=I.ok.mod
theorem Inv.fJ (I:Inv X pins σ H s):X.K.In s.heap:=I.ok.mod.sX.keeps I.hk
theorem Inv.lt (I:Inv X pins σ H s):X.env.locals<s.heap.objs.size:=let ⟨_,aN,_⟩:=I.loc;aN.lt
theorem Inv.ez (I:Inv X pins σ H s):X.ff.heap.objs.size≤s.heap.objs.size:=le_trans I.ok.above (le_of_lt I.lt)
theorem Inv.U0 (I:Inv X pins σ H s) {a:Addr}(h:s.heap.objs.size≤a):a∉X.bF:=fun aa=>by
 obtain⟨_,o,aF,_⟩:=I.ok.hF.mem aa
 exact absurd (lt_of_lt_of_le (lt_size aF) (le_trans I.ez h)) (lt_irrefl _)
theorem Inv.kK (I:Inv X pins σ H s):∀x c,X.env.cells.lookup x=some c→c≠X.env.locals:=fun x c e z=>by
 obtain⟨v,o,aF,hd⟩:=I.cell x c e
 obtain⟨m,⟨eO,aM,cL,mE,DI,_⟩,_⟩:=I.loc
 rw[z,mE]at aF;cases aF;rw[DI]at hd;cases hd
theorem Inv.hF (I:Inv X pins σ H s):s.heap.FunFrames X.base X.outer:=by
 have all:∀(l:List Env),(∀b∈fo l,b∈X.bF)→X.ff.heap.FunFrames X.base l→s.heap.FunFrames X.base l:=by
  intro l
  induction l with
  | nil=>intro _ _;trivial
  | cons env r dt =>
   intro aS aG
   obtain⟨a4,⟨L,o,hf,aN,aF,hd⟩,aI⟩:=aG
   have fK:L∈X.bF:=aS L (by unfold fo;rw[filterMap_cons,hf];exact mem_cons_self)
   obtain⟨dC,e⟩:=I.base.slot L o aF (I.ok.jz L fK) fK fun z=>I.ok.lx L z fK
   exact⟨a4,⟨L,_,hf,aN,e,hd⟩,dt (fun b aa=>aS b (by unfold fo;rw[filterMap_cons,hf];exact mem_cons_of_mem _ aa)) aI⟩
 exact all X.outer (fun _ aa=>aa) I.ok.hF
theorem Inv.stack (I:Inv X pins σ H s):s.heap.FunFrames X.base X.stack:=by
 rcases I.ok.jn with e | ⟨e,hf⟩
 ·rw[e];exact I.hF
 ·rw[e]
  obtain⟨m,aN,_⟩:=I.loc
  refine .cons (by rw[I.ok.kind];decide) hf aN ?_ I.hF
  exact Heap.get?_none_of_le (le_trans I.ok.iO I.ok.above)
theorem Inv.ur (I:Inv X pins σ H s):∀b∈fo X.stack,b∈X.env.locals::X.bF:=fun b aa=>by
 rcases I.ok.jn with e | ⟨e,hf⟩
 ·rw[e]at aa;exact mem_cons_of_mem _ aa
 ·rw[e]at aa
  unfold fo at aa
  rw[filterMap_cons,hf]at aa
  exact aa
theorem Inv.xP (I:Inv X pins σ H s):∀b∈fo X.stack,H b=none:=fun b aa=>by
 rcases mem_cons.mp (I.ur b aa) with e | aa
 ·rw[e];exact I.free
 ·obtain⟨_,o,aF,_⟩:=I.ok.hF.mem aa
  exact I.base.free b o aF (I.ok.jz b aa) fun z=>I.ok.lx b z aa
theorem Inv.step {g':Array GenState}{t':Nat}{d':Drawn}{ch:List Addr}(I:Inv X pins σ H s)
  (jy:∀b∈ch,(b∈X.ex∨X.ff.heap.objs.size≤b)∧b≠X.env.locals∧(∀x c,X.env.cells.lookup x=some c→c≠b)∧∀p∈X.bR++pins,p.1≠b)
  (keep:∀b o,b≠X.env.locals→b∉X.bF→b∉ch→s.heap.get? b=some o→H b=none→h'.get? b=some o)
  (slot:∀b o,b≠X.env.locals→b∈X.bF→b∉ch→s.heap.get? b=some o→H b=none→∃dC,h'.get? b=some { o with slots:=dC }) (free:∀b o,b∉ch→s.heap.get? b=some o→H b=none→af b=none)
  (there:∀b o,b∉ch→s.heap.get? b=some o→∃eO,h'.get? b=some eO)
  (nq:∀b xs,H b=some (.tup xs)→af b=some (.tup xs)) (ml:∀b o u,H b=some (.iN o u)→af b=some (.iN o u)) (nt:∀b aB,H b=some (.pQ aB)→∃more,af b=some (.pQ (aB++more)))
  (ns:∀m,s.heap.Ns X.env.locals m→h'.Ns X.env.locals m) (bC:ep X.prog X.w af h') (cJ:AllBare g') :
  Inv X pins σ af { s with heap:=h',gens:=g',drawn:=d',toks:=t' }:=by
 have zf:∀b o,X.ff.heap.get? b=some o→b≠X.env.locals:=fun b o e=>ne_of_lt (lt_of_lt_of_le (lt_size e) I.ok.above)
 have zg:∀b o,X.ff.heap.get? b=some o→b∉X.ex→b∉ch:=fun b o e aZ aa=>by
  rcases (jy b aa).1 with z | z
  ·exact aZ z
  ·exact absurd (lt_of_lt_of_le (lt_size e) z) (lt_irrefl _)
 have cellK:∀x c,X.env.cells.lookup x=some c→∀v,s.heap.IsCell c v→h'.IsCell c v:=fun x c e v ⟨o,aF,hd⟩=>by
  have lF:c∉ch:=fun z=>(jy c z).2.2.1 x c e rfl
  by_cases ai:c∈X.bF
  ·obtain⟨dC,q⟩:=slot c o (I.kK x c e) ai lF aF (I.hq x c e)
   exact⟨_,q,hd⟩
  ·exact⟨o,keep c o (I.kK x c e) ai lF aF (I.hq x c e),hd⟩
 refine⟨I.ok,I.os,cJ,⟨fun b o e n aa aZ=>?_,fun b o e n aa aZ=>?_,fun b o e n aZ=>?_,fun b o e aZ=>?_,fun b xs e=>nq b xs (I.base.nq b xs e),fun b o xs e=>ml b o xs (I.base.ml b o xs e),fun b aB e=>?_⟩,?_,fun x c e=>?_,?_,fun x c e=>?_,fun p aD=>?_,bC,I.len⟩
 ·exact keep b o (zf b o e) aa (zg b o e aZ) (I.base.keep b o e n aa aZ) (I.base.free b o e n aZ)
 ·obtain⟨dC,aJ⟩:=I.base.slot b o e n aa aZ
  obtain⟨C3,aQ⟩:=slot b _ (zf b o e) aa (zg b o e aZ) aJ (I.base.free b o e n aZ)
  exact⟨C3,aQ⟩
 ·obtain⟨eO,aJ⟩:=I.base.there b o e aZ
  exact free b eO (zg b o e aZ) aJ (I.base.free b o e n aZ)
 ·obtain⟨eO,aJ⟩:=I.base.there b o e aZ
  exact there b eO (zg b o e aZ) aJ
 ·obtain⟨fq,aJ⟩:=I.base.nt b aB e
  obtain⟨d_,aQ⟩:=nt b _ aJ
  exact⟨fq++d_,by rw[aQ,Array.append_assoc]⟩
 ·obtain⟨m,aN,aG⟩:=I.loc
  refine⟨m,ns m aN,fun i x v aJ aQ b9=>?_⟩
  obtain⟨u,r,l⟩:=aG i x v aJ aQ b9
  refine⟨u,r,?_⟩
  rcases l with l | ⟨k,c,e,z⟩
  ·exact .inl l
  ·exact .inr ⟨k,c,e,cellK x c e _ z⟩
 ·obtain⟨v,z⟩:=I.cell x c e
  exact⟨v,cellK x c e v z⟩
 ·obtain⟨m,⟨o,_,_,aF,_⟩,_⟩:=I.loc
  exact free _ o (fun z=>(jy _ z).2.1 rfl) aF I.free
 ·obtain⟨v,o,aF,hd⟩:=I.cell x c e
  exact free c o (fun z=>(jy c z).2.2.1 x c e rfl) aF (I.hq x c e)
 ·obtain⟨e,n,ne,jE,d⟩:=I.pin p aD
  have lF:p.1∉ch:=fun z=>(jy p.1 z).2.2.2 p aD rfl
  exact⟨keep p.1 p.2 ne jE lF e n,free p.1 p.2 lF e n,ne,jE,d⟩
theorem Inv.un {t':Nat}(I:Inv X pins σ H s) (u:gW X.bF [] H af s.heap h') (bC:ep X.prog X.w af h'):Inv X pins σ af { s with heap:=h',toks:=t' }:=by
 obtain⟨m,⟨o,aM,cL,aF,r⟩,_⟩:=id I.loc
 obtain⟨dC,fK⟩:=u.any aF I.free (by simp)
 exact I.step (g':=s.gens) (d':=s.drawn) (ch:=[]) (fun _ z=>nomatch z) (fun b o _ aa _ e n=>u.keep b o e n aa (by simp)) (fun b o _ aa _ e n=>u.slot b o e n aa (by simp)) (fun b o _ e n=>u.free b o e n (by simp)) (fun b o _ e=>u.there b o e (by simp)) u.nq u.ml u.nt (fun ec hm=>by
  obtain⟨eO,vN,DV,mE,fh⟩:=hm
  rw[aF]at mE;cases mE
  exact⟨_,vN,DV,fK,fh⟩) bC I.bare
theorem Inv.call {g':Array GenState}{t':Nat}{d':Drawn}{ch:List Addr}(I:Inv X pins σ H s) (u:gW (fo X.stack) ch H af s.heap h') (bC:ep X.prog X.w af h') (cJ:AllBare g')
  (jy:∀b∈ch,(b∈X.ex∨X.ff.heap.objs.size≤b)∧b≠X.env.locals∧(∀x c,X.env.cells.lookup x=some c→c≠b)∧∀p∈X.bR++pins,p.1≠b) :
  Inv X pins σ af { s with heap:=h',gens:=g',drawn:=d',toks:=t' }:=by
 obtain⟨m,⟨o,aM,cL,aF,r⟩,_⟩:=id I.loc
 obtain⟨dC,fK⟩:=u.any aF I.free fun z=>(jy _ z).2.1 rfl
 exact I.step (ch:=ch) jy (fun b o fK aa ai e n=>u.keep b o e n (fun z=>(mem_cons.mp (I.ur b z)).elim fK aa) ai) (fun b o _ _ ai e n=>u.any e n ai) (fun b o ai e n=>u.free b o e n ai) (fun b o ai e=>u.there b o e ai) u.nq u.ml u.nt (fun ec hm=>by
  obtain⟨eO,vN,DV,mE,fh⟩:=hm
  rw[aF]at mE;cases mE
  exact⟨_,vN,DV,fK,fh⟩) bC cJ
theorem Inv.turned {t':Nat}{it:Addr}(I:Inv X pins σ H s) (k:∀b o,b≠it→s.heap.get? b=some o→h'.get? b=some o) (aN:H it=none) (fK:it≠X.env.locals)
  (av:it∈X.ex∨X.ff.heap.objs.size≤it) (aC:∀x c,X.env.cells.lookup x=some c→c≠it) (cB:∀p∈X.bR++pins,p.1≠it):Inv X pins σ H { s with heap:=h',toks:=t' }:=by
 have KZ:∀b u,H b=some u→b≠it:=fun b u e z=>by rw[z,aN]at e;cases e
 refine I.step (g':=s.gens) (d':=s.drawn) (ch:=[it]) (fun b aa=>?_) (fun b o _ _ ai e _=>k b o (fun z=>ai (by simp[z])) e) (fun b o _ _ ai e _=>⟨o.slots,k b o (fun z=>ai (by simp[z])) e⟩) (fun _ _ _ _ n=>n)
  (fun b o ai e=>⟨o,k b o (fun z=>ai (by simp[z])) e⟩) (fun _ _ e=>e) (fun _ _ _ e=>e) (fun b aB e=>⟨#[],by rw[e];simp⟩) (fun m hm=>?_) (fun b u e=>?_) I.bare
 ·have e:b=it:=by simpa using aa
  subst e
  exact⟨av,fK,aC,cB⟩
 ·obtain⟨o,aM,cL,aF,r⟩:=hm
  exact⟨o,aM,cL,k _ o (Ne.symm fK) aF,r⟩
 ·refine (I.bC b u e).iJ (fun c v ai q=>k c v ?_ q) (fun _ q=>q) fun _ _ q=>q
  rcases ai with z | z
  ·rw[z];exact KZ b u e
  ·exact KZ c _ z
theorem Inv.tok (I:Inv X pins σ H s) (t:Nat):Inv X pins σ H { s with toks:=t }:=I.un (h':=s.heap) (t':=t) gW.refl I.bC
theorem Inv.kept {t':Nat}(I:Inv X pins σ H s) (k:∀b u,s.heap.get? b=some u→h'.get? b=some u):Inv X pins σ H { s with heap:=h',toks:=t' }:=I.un (gW.kept k) (I.bC.kept k)
theorem Inv.laid {a:Addr}{o:eU}{t':Nat}(I:Inv X pins σ H s) (k:∀b u,s.heap.get? b=some u→h'.get? b=some u) (aD:s.heap.objs.size≤a) (new:fa X.prog X.w (upd H a o) h' a o) :
  Inv X pins σ (upd H a o) { s with heap:=h',toks:=t' }:=I.un (gW.laid k aD (I.bC.fresh aD)) (I.bC.laid k aD new)
theorem Inv.write {x e:Addr}{o:eU}{t':Nat}(I:Inv X pins σ H s) (kh:vR (H x)) (he:e=x∨H e=some (.own x)) (k:∀b u,b≠e→s.heap.get? b=some u→h'.get? b=some u) (pX:∃u,h'.get? e=some u)
  (new:fa X.prog X.w (upd H x o) h' x o):Inv X pins σ (upd H x o) { s with heap:=h',toks:=t' }:=I.un (gW.write kh he k pX) (I.bC.write kh he k pX new)
theorem Inv.HE {It:List (Addr × Obj)}(I:Inv X pins σ H s) (h:∀p∈It,s.heap.get? p.1=some p.2∧H p.1=none∧p.1≠X.env.locals∧p.1∉X.bF∧∀v,p.2.data≠.cell v):Inv X It σ H s :=
 ⟨I.ok,I.os,I.bare,I.base,I.loc,I.cell,I.free,I.hq,fun p aD=>(mem_append.mp aD).elim (fun z=>I.pin p (mem_append_left _ z)) (h p),I.bC,I.len⟩
theorem A3 {N:List Str}(e8:N.Nodup) {i j:Nat}{x:Str}(a:N[i]?=some x) (b:N[j]?=some x):i=j:=by
 obtain⟨av,aJ⟩:=List.getElem?_eq_some_iff.mp a
 obtain⟨aC,aQ⟩:=List.getElem?_eq_some_iff.mp b
 exact (List.getElem_inj e8).mp (aJ.trans aQ.symm)
theorem Gl {M:Model}{A:Around}{E:Value→Shared→Prop}{i:Nat}{x:Str}{v:V}{u:Value}{Q:Unit→Shared→Prop}(I:Inv X pins σ H s) (e8:X.N.Nodup) (aW:X.N[i]?=some x) (aZ:Loc X.env.scope x) (r:RelV v u)
  (h:∀aL,Inv X pins (σ.set i (some v)) H aL→(∃a,Heap.SameBut a s.heap aL.heap∧(a=X.env.locals∨X.env.cells.lookup x=some a))→Q () aL) (hf:X.fn x=true∨X.env.scope.names.lookup x=some .local:=by first | exact .inl rfl | exact .inr rfl | assumption):wpAny M A (storeName X.env x u) Q E s:=by
 obtain⟨m,aN,aG⟩:=id I.loc
 have CP:(X.env.scope.kind == .class || (X.env.scope.kind == .module && X.env.locals != X.env.globals))=false:=by rw[I.ok.kind];rfl
 have zD:i<σ.length:=by rw[I.len];exact (List.getElem?_eq_some_iff.mp aW).1
 have kK:=I.kK
 have tracked:∀{a:Addr} {h':Heap},(∃o,s.heap.get? a=some o∧H a=none)→Heap.SameBut a s.heap h'→ep X.prog X.w H h':=fun {a h'} bf aS b bT e=>by
  obtain⟨_,_,ll⟩:=bf
  refine (I.bC b bT e).iJ (fun c d5 ai q=>(aS.2 c ?_).trans q) (fun _ q=>q) fun _ _ q=>q
  rintro rfl
  rcases ai with rfl | ai
  ·rw[ll]at e;cases e
  ·rw[ll]at ai;cases ai
 rcases aZ with a4 | a4
 ·refine wpAny_storeName_local a4 aN (fun h' mF aS=>?_) CP
  obtain⟨ES,_,_,WO,_⟩:=id aN
  refine h _ ⟨I.ok,I.os,I.bare,⟨fun b o e n aa aZ=>?_,fun b o e n aa aZ=>?_,I.base.free,fun b o e aZ=>?_,I.base.nq,I.base.ml,I.base.nt⟩,⟨_,mF,fun j y v9 aJ aQ b9=>?_⟩,fun y c e=>?_,I.free,I.hq,fun p aD=>?_,tracked ⟨ES,WO,I.free⟩ aS,by simpa using I.len⟩ ⟨_,aS,.inl rfl⟩
  ·exact (aS.2 b (ne_of_lt (lt_of_lt_of_le (lt_size e) I.ok.above))).trans (I.base.keep b o e n aa aZ)
  ·obtain⟨dC,aJ⟩:=I.base.slot b o e n aa aZ
   exact⟨dC,(aS.2 b (ne_of_lt (lt_of_lt_of_le (lt_size e) I.ok.above))).trans aJ⟩
  ·obtain⟨eO,aJ⟩:=I.base.there b o e aZ
   exact⟨eO,(aS.2 b (ne_of_lt (lt_of_lt_of_le (lt_size e) I.ok.above))).trans aJ⟩
  ·by_cases cK:j=i
   ·subst cK
    rw[aW]at aJ;cases aJ
    rw[List.getElem?_set_self zD]at aQ
    cases aQ
    exact⟨u,r,.inl ⟨a4,by simp⟩⟩
   ·rw[List.getElem?_set_ne (Ne.symm cK)]at aQ
    obtain⟨lR,fh,q⟩:=aG j y v9 aJ aQ b9
    refine⟨lR,fh,?_⟩
    rcases q with ⟨k,e⟩ | ⟨k,c,e,z⟩
    ·refine .inl ⟨k,?_⟩
     have:y≠x:=fun e=>cK (A3 e8 aJ (e ▸ aW))
     simp[this,e]
    ·exact .inr ⟨k,c,e,z.sameBut aS (kK y c e)⟩
  ·obtain⟨d5,z⟩:=I.cell y c e
   exact⟨d5,z.sameBut aS (kK y c e)⟩
  ·obtain⟨e,n,ne,jE,d⟩:=I.pin p aD
   exact⟨(aS.2 p.1 ne).trans e,n,ne,jE,d⟩
 ·have DF:X.fn x=true:=by
   rcases hf with z | z
   ·exact z
   ·rw[z]at a4;cases a4
  obtain⟨c,ai⟩:=I.ok.has x (.inl a4)
  obtain⟨d5,z⟩:=I.cell x c ai
  refine wpAny_storeName_cell I.ok.kind a4 ai z (fun h' Mz aS=>?_)
  obtain⟨lT,Mn,Vg⟩:=id z
  refine h { s with heap:=h' } ⟨I.ok,I.os,I.bare,⟨fun b o e n aa aZ=>?_,fun b o e n aa aZ=>?_,I.base.free,fun b o e aZ=>?_,I.base.nq,I.base.ml,I.base.nt⟩,⟨m,aN.sameBut aS (Ne.symm (kK x c ai)),fun j y v9 aJ aQ b9=>?_⟩,fun y gK e=>?_,I.free,I.hq,fun p aD=>?_,tracked ⟨lT,Mn,I.hq x c ai⟩ aS,by simpa using I.len⟩ ⟨c,aS,.inr ai⟩
  ·exact (aS.2 b (ne_of_lt (lt_of_lt_of_le (lt_size e) (I.ok.kL x c DF ai)))).trans (I.base.keep b o e n aa aZ)
  ·obtain⟨dC,aJ⟩:=I.base.slot b o e n aa aZ
   exact⟨dC,(aS.2 b (ne_of_lt (lt_of_lt_of_le (lt_size e) (I.ok.kL x c DF ai)))).trans aJ⟩
  ·obtain⟨eO,aJ⟩:=I.base.there b o e aZ
   exact⟨eO,(aS.2 b (ne_of_lt (lt_of_lt_of_le (lt_size e) (I.ok.kL x c DF ai)))).trans aJ⟩
  ·by_cases cK:j=i
   ·subst cK
    rw[aW]at aJ;cases aJ
    rw[List.getElem?_set_self zD]at aQ
    cases aQ
    exact⟨u,r,.inr ⟨.inl a4,c,ai,Mz⟩⟩
   ·rw[List.getElem?_set_ne (Ne.symm cK)]at aQ
    obtain⟨lR,fh,q⟩:=aG j y v9 aJ aQ b9
    refine⟨lR,fh,?_⟩
    rcases q with q | ⟨k,gK,e,hg⟩
    ·exact .inl q
    ·refine .inr ⟨k,gK,e,hg.sameBut aS ?_⟩
     rintro rfl
     exact cK (A3 e8 aJ (I.ok.inj _ _ _ e ai ▸ aW))
  ·by_cases Mx:gK=c
   ·subst Mx;exact⟨_,Mz⟩
   ·obtain⟨eL,d6⟩:=I.cell y gK e
    exact⟨eL,d6.sameBut aS Mx⟩
  ·obtain⟨e,n,ne,jE,d⟩:=I.pin p aD
   refine⟨(aS.2 p.1 ?_).trans e,n,ne,jE,d⟩
   intro q
   rw[q,Mn]at e
   have nR:lT=p.2:=Option.some.inj e
   exact d d5 (by rw[←nR];exact Vg)
theorem AW {M:Model}{A:Around}{E:Value→Shared→Prop}{i:Nat}{x:Str}{v:V}{u:Value}{Q:Unit→Shared→Prop}(I:Inv X pins σ H s) (e8:X.N.Nodup) (aW:X.N[i]?=some x) (aZ:Loc X.env.scope x) (r:RelV v u)
  (h:∀aL,Inv X pins (σ.set i (some v)) H aL→Q () aL) (hf:X.fn x=true∨X.env.scope.names.lookup x=some .local:=by first | exact .inl rfl | exact .inr rfl | assumption):wpAny M A (storeName X.env x u) Q E s :=
 Gl I e8 aW aZ r (fun aL fP _=>h aL fP) hf
theorem Inv.Cp {aL:Shared}{ch:List Addr}(I:Inv X pins σ H s) (aF:aL.os=s.os) (u:gW (fo X.stack) ch H af s.heap aL.heap) (bC:ep X.prog X.w af aL.heap) (cJ:AllBare aL.gens)
  (jy:∀b∈ch,(b∈X.ex∨X.ff.heap.objs.size≤b)∧b≠X.env.locals∧(∀x c,X.env.cells.lookup x=some c→c≠b)∧∀p∈X.bR++pins,p.1≠b):Inv X pins σ af aL:=by
 obtain⟨h',g',d',t',eO⟩:=aL
 have e:eO=s.os:=aF
 subst e
 exact I.call (g':=g') (t':=t') (d':=d') u bC cJ jy
end
abbrev gh:=Value→Option Addr→aj→Prop
abbrev St:=List (Option V)
abbrev ct:=V→aj→Prop
abbrev TE:=St→aj→ct→Prop
abbrev TT:=St→aj→(Bool→aj→Prop)→Prop
abbrev hR:=St→aj→(List V→aj→Prop)→Prop
structure Ends where
 c9:St→aj→Prop
 j9:ct
 hk:St→aj→Prop:=fun _ _=>False
 e1:St→aj→Prop:=fun _ _=>False
abbrev d8:=Ends→St→aj→Prop
def g8 (X:br) (pins:List (Addr × Obj)) (σ:St) (Q:ct) (u:Value) (aL:Shared):Prop:=∃v af,Inv X pins σ af aL∧RelV v u∧Q v af
def OT (X:br) (pins:List (Addr × Obj)) (σ:St) (Q:Bool→aj→Prop) (b:Bool) (aL:Shared):Prop:=∃af,Inv X pins σ af aL∧Q b af
def Ze (X:br) (pins:List (Addr × Obj)) (σ:St) (Q:List V→aj→Prop) (us:List Value) (aL:Shared):Prop:=∃vs af,Inv X pins σ af aL∧Vals vs us∧Q vs af
def m6 (X:br) (pins:List (Addr × Obj)) (D:Ends) (f:Flow) (aL:Shared):Prop :=
 match f with
 | .next=>∃bq af,Inv X pins bq af aL∧D.c9 bq af
 | .brk=>∃bq af,Inv X pins bq af aL∧D.hk bq af
 | .cont=>∃bq af,Inv X pins bq af aL∧D.e1 bq af
 | .ret u=>∃v bq af,Inv X pins bq af aL∧RelV v u∧D.j9 v af
def b4 (X:br) (e:Expr) (t:TE):Prop :=
 ∀(pins:List (Addr × Obj)) (s:Shared) (σ:St) (H:aj) (Q:ct),Inv X pins σ H s→t σ H Q→wpAny (model X.prog X.w) X.A (eval e X.env) (g8 X pins σ Q) X.dp s
def hW (X:br) (e:Expr) (t:TT):Prop :=
 ∀(pins:List (Addr × Obj)) (s:Shared) (σ:St) (H:aj) (Q:Bool→aj→Prop),Inv X pins σ H s→t σ H Q→wpAny (model X.prog X.w) X.A (isTrue e X.env (eval e X.env)) (OT X pins σ Q) X.dp s
def qm (X:br) (e:Expr) (t:TT):Prop :=
 ∀(whole:Sem Value) (pins:List (Addr × Obj)) (s:Shared) (σ:St) (H:aj) (Q:Bool→aj→Prop),Inv X pins σ H s→t σ H Q→wpAny (model X.prog X.w) X.A (isTrue e X.env whole) (OT X pins σ Q) X.dp s
theorem qm.pt {X:br}{e:Expr}{t:TT}(h:qm X e t):hW X e t:=h _
def kZ (X:br) (aM:List Expr) (t:hR):Prop :=
 ∀(pos:Pos) (pins:List (Addr × Obj)) (s:Shared) (σ:St) (H:aj) (Q:List V→aj→Prop),Inv X pins σ H s→t σ H Q→wpAny (model X.prog X.w) X.A (spliced (backTo pos (starEach aM X.env))) (Ze X pins σ Q) X.dp s
def jg (X:br) (st:Stmt) (t:d8):Prop :=
 ∀(pins:List (Addr × Obj)) (s:Shared) (σ:St) (H:aj) (D:Ends),Inv X pins σ H s→t D σ H→wpAny (model X.prog X.w) X.A (exec st X.env) (m6 X pins D) X.dp s
def f9 (X:br) (st:List Stmt) (t:d8):Prop :=
 ∀(pins:List (Addr × Obj)) (s:Shared) (σ:St) (H:aj) (D:Ends),Inv X pins σ H s→t D σ H→wpAny (model X.prog X.w) X.A (execs st X.env) (m6 X pins D) X.dp s
theorem bV {α:Type}{t:Sem α}{Q kv:α→Shared→Prop}{M:Model}{A:Around}{E:Value→Shared→Prop}{s:Shared}(h:wpAny M A t Q E s) (l1:∀a s,Q a s→kv a s):wpAny M A t kv E s:=wpAny_mono h l1 fun _ _ x=>x
section
variable {X:br}
theorem bin {a b:Expr}{c5 dB:TE}(bf:b4 X a c5) (aa:b4 X b dB) {pins:List (Addr × Obj)}{s:Shared}{σ:St}{H:aj}{R:V→V→aj→Prop}(I:Inv X pins σ H s) (h:c5 σ H fun x H1=>dB σ H1 fun y aq=>R x y aq)
  {α:Type} {Q:α→Shared→Prop} {f:Value→Value→Sem α}
  (hf:∀v u s2 x y aq,Inv X pins σ aq s2→RelV x v→RelV y u→R x y aq→wpAny (model X.prog X.w) X.A (f v u) Q X.dp s2) :
  wpAny (model X.prog X.w) X.A (eval a X.env) (fun v c2=>wpAny (model X.prog X.w) X.A (eval b X.env) (fun u hK=>wpAny (model X.prog X.w) X.A (f v u) Q X.dp hK) X.dp c2) X.dp s:=by
 refine bV (bf pins s σ H _ I h) fun v s1 ⟨x,H1,aR,bx,bw⟩=>?_
 refine bV (aa pins s1 σ H1 _ aR bw) fun u s2 ⟨y,aq,cF,b7,aU⟩=>?_
 exact hf v u s2 x y aq cF bx b7 aU
def Jb (i:Nat):TE:=fun σ H Q=>∃v,σ[i]?=some (some v)∧Q v H
def tk (v:V):TE:=fun _ H Q=>Q v H
theorem SI {i:Nat}{x:Str}{pos:Pos}(e8:X.N[i]?=some x) (bA:zL X.env.scope x) (hd:(x == ("__debug__":Str))=false:=by decide) (j4:(x == ("__classdict__":Str))=false:=by decide):b4 X (.Name x pos) (Jb i):=by
 intro pins s σ H Q I h
 obtain⟨v,e,h⟩:=h
 obtain⟨m,aN,aG⟩:=I.loc
 obtain⟨u,r,l⟩:=aG i x v e8 e bA
 have fin:g8 X pins σ Q u s:=⟨v,H,I,r,h⟩
 rcases l with ⟨a4,hm⟩ | ⟨a4,c,ai,sI⟩
 ·exact wpAny_Name (wpAny_loadName_local I.ok.kind a4 aN hm fin) hd
 ·rcases a4 with a4 | a4
  ·exact wpAny_Name (wpAny_loadName_cell I.ok.kind a4 ai sI fin) hd
  ·exact wpAny_Name (wpAny_loadName_free I.ok.kind a4 ai sI fin j4) hd
theorem aX {i j pos}:b4 X (.Constant (.int i) j pos) (tk (.int i)):=fun _ _ _ H _ I h=>wpAny_Constant_int ⟨.int i,H,I.tok _,⟨_,rfl⟩,h⟩
theorem jj {b j pos}:b4 X (.Constant (.bool b) j pos) (tk (.b8 b)):=fun _ _ _ H _ I h=>Constant_bool ⟨.b8 b,H,I,rfl,h⟩
theorem SK {j pos}:b4 X (.Constant .none j pos) (tk .cc):=fun _ _ _ H _ I h=>Constant_none ⟨.cc,H,I,rfl,h⟩
theorem bg {x j pos}:b4 X (.Constant (.str x) j pos) (tk (.str x)):=fun _ _ _ H _ I h=>Calls.Constant_str ⟨.str x,H,I.tok _,⟨_,rfl⟩,h⟩
def iX (X:br) (x:Str):Prop:=X.env.kindOf x=some .globalImplicit
theorem qH {E:Value→Shared→Prop}{pins:List (Addr × Obj)}{s:Shared}{σ:St}{H:aj}{x:Str}{u:Value}{pos:Pos}{Q:Value→Shared→Prop}(I:Inv X pins σ H s) (cJ:iX X x) (hm:X.mg x=some u) (h:Q u s)
  (hd:(x == ("__debug__":Str))=false:=by decide):wpAny (model X.prog X.w) X.A (eval (.Name x pos) X.env) Q E s :=
 Calls.Name_function_global I.ok.kind cJ (Calls.loadGlobal_global (by rw[I.ok.glob];exact I.mod.glob.keeps I.hk) hm h) hd
theorem pF {E:Value→Shared→Prop}{pins:List (Addr × Obj)}{s:Shared}{σ:St}{H:aj}{x:Str}{u:Value}{pos:Pos}{Q:Value→Shared→Prop}(I:Inv X pins σ H s) (cJ:iX X x) (hm:X.mg x=none) (bA:bootBuiltins x=some u) (h:Q u s)
  (aN:x≠"__name__":=by decide) (hd:(x == ("__debug__":Str))=false:=by decide):wpAny (model X.prog X.w) X.A (eval (.Name x pos) X.env) Q E s:=by
 obtain⟨lU,av,aC⟩:=I.mod.blt
 exact Calls.Name_function_global I.ok.kind cJ (Calls.loadGlobal_builtin (by rw[I.ok.glob];exact I.mod.glob.keeps I.hk) hm (by rw[I.ok.blt];exact av.keeps I.hk) ((aC x aN).trans bA) h) hd
theorem xY {x:Str}{v:V}{u:Value}{pos:Pos}(cJ:iX X x) (hm:X.mg x=some u) (r:RelV v u) (hd:(x == ("__debug__":Str))=false:=by decide):b4 X (.Name x pos) (tk v) :=
 fun _ _ _ H _ I h=>qH I cJ hm ⟨v,H,I,r,h⟩ hd
theorem la {x:Str}{v:V}{u:Value}{pos:Pos}(cJ:iX X x) (hm:X.mg x=none) (bA:bootBuiltins x=some u) (r:RelV v u) (aN:x≠"__name__":=by decide) (hd:(x == ("__debug__":Str))=false:=by decide):b4 X (.Name x pos) (tk v) :=
 fun _ _ _ H _ I h=>pF I cJ hm bA ⟨v,H,I,r,h⟩ aN hd
variable {a b:Expr}{c5 dB:TE}{pos:Pos}
def Ff (X:br) (op:CmpOp) (a b:Expr) (t:TE):Prop :=
 ∀(pins:List (Addr × Obj)) (s:Shared) (σ:St) (H:aj) (Q:ct),Inv X pins σ H s→t σ H Q →
  wpAny (model X.prog X.w) X.A (eval a X.env) (fun v c2=>wpAny (model X.prog X.w) X.A (eval b X.env) (fun u hK=>wpAny (model X.prog X.w) X.A (compareOp op v u) (g8 X pins σ Q) X.dp hK) X.dp c2) X.dp s
def Oc (t:TE):TT:=fun σ H Q=>t σ H fun x H1=>∃c,x=.b8 c∧Q c H1
theorem ux {op:CmpOp}{t:TE}(h:Ff X op a b t) (av:behindInMarks op b=false:=by first | exact Zk _ (by decide) (by decide) | rfl):hW X (.Compare a [op] [b] pos) (Oc t):=by
 intro pins s σ H Q I hw
 refine wpAny_isTrue_Compare1 (bV (h pins s σ H _ I hw) fun v s1 av=>bV av fun u s2 aC=>bV aC fun c s3 ⟨x,H1,aR,bx,bw⟩=>?_) av
 obtain⟨d,rfl,q⟩:=bw
 cases bx
 exact wpAny_truthy_bool ⟨H1,aR,q⟩
theorem i0 {e:Expr}{t:TE}(h:b4 X e t) (he:∀whole,isTrue e X.env whole=(do let v ← whole;standAt e.pos;holding [v] (truthy v)):=by intro _;rfl):hW X e (Oc t):=by
 intro pins s σ H Q I hw
 refine isTrue_plain (bV (h pins s σ H _ I hw) fun v s1 ⟨x,H1,aR,bx,bw⟩=>?_) (he _)
 obtain⟨d,rfl,q⟩:=bw
 cases bx
 exact wpAny_truthy_bool ⟨H1,aR,q⟩
variable {jC oq:TT}{rest:List Expr}
def Je (t u:TT):TT:=fun σ H Q=>t σ H fun c H1=>if c=true then u σ H1 Q else Q false H1
def KI (t u:TT):TT:=fun σ H Q=>t σ H fun c H1=>if c=true then Q true H1 else u σ H1 Q
def Us (t:TT):TT:=fun σ H Q=>t σ H fun c H1=>Q (!c) H1
theorem pw_and1 (bf:hW X a jC):qm X (.BoolOp .And [a] pos) jC:=by
 intro v7 pins s σ H Q I h
 refine isTrue_and (bV (bf pins s σ H Q I h) fun c s1 e=>?_)
 cases c with
 | true=>exact isTrue_and_nil e
 | false=>exact e
theorem pw_or1 (bf:hW X a jC):qm X (.BoolOp .Or [a] pos) jC:=by
 intro v7 pins s σ H Q I h
 refine isTrue_or (bV (bf pins s σ H Q I h) fun c s1 e=>?_)
 cases c with
 | false=>exact isTrue_or_nil e
 | true=>exact e
theorem pw_and (bf:hW X a jC) (aa:qm X (.BoolOp .And (b::rest) pos) oq):qm X (.BoolOp .And (a::b::rest) pos) (Je jC oq):=by
 intro v7 pins s σ H Q I h
 refine isTrue_and (bV (bf pins s σ H _ I h) fun c s1 ⟨H1,aR,bw⟩=>?_)
 cases c with
 | true=>exact aa v7 pins s1 σ H1 Q aR bw
 | false=>exact⟨H1,aR,bw⟩
theorem pw_or (bf:hW X a jC) (aa:qm X (.BoolOp .Or (b::rest) pos) oq):qm X (.BoolOp .Or (a::b::rest) pos) (KI jC oq):=by
 intro v7 pins s σ H Q I h
 refine isTrue_or (bV (bf pins s σ H _ I h) fun c s1 ⟨H1,aR,bw⟩=>?_)
 cases c with
 | true=>exact⟨H1,aR,bw⟩
 | false=>exact aa v7 pins s1 σ H1 Q aR bw
theorem mb (bf:hW X a jC):hW X (.UnaryOp .Not a pos) (Us jC):=by
 intro pins s σ H Q I h
 exact isTrue_not (bf pins s σ H (fun c H1=>Q (!c) H1) I h)
def TA (c5 dB:TE):TE:=fun σ H Q=>c5 σ H fun x H1=>∃c,x=.b8 c∧if c=true then dB σ H1 Q else Q (.b8 false) H1
def Tp (c5:TE):TE:=fun σ H Q=>c5 σ H fun x H1=>∃c,x=.b8 c∧Q (.b8 (!c)) H1
theorem yc {op} {t:TE}(h:b4 X a t):b4 X (.BoolOp op [a] pos) t:=fun pins s σ H Q I hw=>BoolOp_one (h pins s σ H Q I hw)
theorem uA (bf:b4 X a c5) (aa:b4 X (.BoolOp .And (b::rest) pos) dB):b4 X (.BoolOp .And (a::b::rest) pos) (TA c5 dB):=by
 intro pins s σ H Q I h
 refine BoolOp_and (bV (bf pins s σ H _ I h) fun v s1 ⟨x,H1,aR,bx,bw⟩=>?_)
 obtain⟨c,rfl,bw⟩:=bw
 cases bx
 refine wpAny_truthy_bool ?_
 cases c with
 | true=>exact aa pins s1 σ H1 Q aR bw
 | false=>exact⟨.b8 false,H1,aR,rfl,bw⟩
theorem SJ (bf:b4 X a c5):b4 X (.UnaryOp .Not a pos) (Tp c5):=by
 intro pins s σ H Q I h
 refine UnaryOp_ (bV (bf pins s σ H _ I h) fun v s1 ⟨x,H1,aR,bx,bw⟩=>?_)
 obtain⟨c,rfl,bw⟩:=bw
 cases bx
 exact not_of (wpAny_truthy_bool ⟨.b8 (!c),H1,aR,rfl,bw⟩)
end
def aV (K:PySem.W.Frag) (H:aj) (a:Addr) (xs:List V):Prop :=
 m7 H a (.lst xs) ∨
  ∃(o:Obj) (its:Array Value) (n:Nat),K.lookup a=some o∧o.cls=.type "list"∧o.dict=none∧o.data=.seq its n∧its.size≤sizeLine∧Vals xs its.toList
def aP (K:PySem.W.Frag) (H:aj) (a:Addr) (xs:List V):Prop :=
 m7 H a (.tup xs) ∨
  ∃(o:Obj) (its:Array Value) (n:Nat),K.lookup a=some o∧o.cls=.type "tuple"∧o.data=.seq its n∧its.size≤sizeLine∧Vals xs its.toList
def Vw:Value→Option V
 | .none=>some .cc
 | .bool b=>some (.b8 b)
 | .int i _=>some (.int i)
 | .str x _=>some (.str x)
 | .bytes b _=>some (.lP b)
 | .float b _=>some (.p2 b)
 | .ref a=>some (.ref a)
 | .type n=>some (.ty n)
 | _=>none
theorem RelV.abs {x:V}{u:Value}(r:RelV x u):Vw u=some x:=by
 cases x with
 | cc=>cases r;rfl
 | b8 _=>cases r;rfl
 | int _=>obtain⟨t,rfl⟩:=r;rfl
 | str _=>obtain⟨t,rfl⟩:=r;rfl
 | lP _=>obtain⟨t,rfl⟩:=r;rfl
 | p2 _=>obtain⟨t,rfl⟩:=r;rfl
 | ref _=>cases r;rfl
 | ty _=>cases r;rfl
theorem RelV.inj {x y:V}{u:Value}(r:RelV x u) (q:RelV y u):x=y:=Option.some.inj (r.abs.symm.trans q.abs)
theorem Vals.inj:∀{xs ys:List V}{us:List Value},Vals xs us→Vals ys us→xs=ys
 | _,_,_,.nil,.nil=>rfl
 | _,_,_,.cons r t,.cons fh t'=>by rw[r.inj fh,Vals.inj t t']
section
variable {X:br}{pins:List (Addr × Obj)}{σ:St}{H:aj}{s:Shared}{a:Addr}{xs ys:List V}
theorem aV.of {K:PySem.W.Frag}(h:H a=some (.lst xs)):aV K H a xs:=.inl (.inl h)
theorem aP.of {K:PySem.W.Frag}(h:H a=some (.tup xs)):aP K H a xs:=.inl (.inl h)
theorem Inv.list (I:Inv X pins σ H s) (h:aV X.K H a xs):∃its:List Value,Vals xs its∧PlainL s.heap a its.toArray∧xs.length≤sizeLine:=by
 rcases h with h | ⟨o,its,n,a4,ai,hd,aS,hz,r⟩
 ·obtain⟨z,its,n,r,e⟩:=h.ok I.bC
  exact⟨its,r,⟨_,n,e,rfl,rfl,rfl⟩,z⟩
 ·refine⟨its.toList,r,⟨o,n,I.fJ a o a4,ai,hd,by simpa using aS⟩,?_⟩
  have e:=r.length
  simp only[Array.length_toList]at e
  omega
theorem Inv.tuple (I:Inv X pins σ H s) (h:aP X.K H a xs):∃its:List Value,Vals xs its∧IsTup s.heap a its.toArray∧xs.length≤sizeLine:=by
 rcases h with h | ⟨o,its,n,a4,ai,aS,hz,r⟩
 ·obtain⟨z,its,r,p⟩:=h.ok I.bC
  exact⟨its,r,p,z⟩
 ·refine⟨its.toList,r,⟨o,I.fJ a o a4,ai,n,by simpa using aS⟩,?_⟩
  have e:=r.length
  simp only[Array.length_toList]at e
  omega
theorem Inv.A4 (I:Inv X pins σ H s) (h:aV X.K H a xs) (h':aV X.K H a ys):xs=ys:=by
 obtain⟨its,r,⟨o,n,e,_,_,d⟩,_⟩:=I.list h
 obtain⟨its',fh,⟨eO,z9,dH,_,_,d'⟩,_⟩:=I.list h'
 rw[e]at dH;cases dH
 rw[d]at d'
 injection d' with fX _
 have:its=its':=by simpa using congrArg Array.toList fX
 subst this
 exact r.inj fh
end
abbrev br.i5 (X:br) (E:Value→Shared→Prop):br:={ X with dp:=E }
abbrev br.lD (X:br):br:=X.i5 fun _ _=>False
theorem br.Ok.i5 {X:br}(ok:X.Ok) (E:Value→Shared→Prop):(X.i5 E).Ok :=
 ⟨ok.mod,ok.kind,ok.glob,ok.blt,ok.above,ok.inj,ok.has,ok.kL,ok.hd,ok.frames,ok.jn,ok.lN,ok.bs,ok.iO,ok.jW,ok.lx,ok.hF,ok.jz⟩
theorem br.Ok.kB {X:br}{E:Value→Shared→Prop}(ok:(X.i5 E).Ok):X.Ok :=
 ⟨ok.mod,ok.kind,ok.glob,ok.blt,ok.above,ok.inj,ok.has,ok.kL,ok.hd,ok.frames,ok.jn,ok.lN,ok.bs,ok.iO,ok.jW,ok.lx,ok.hF,ok.jz⟩
section
variable {X:br}{pins:List (Addr × Obj)}{σ:St}{H:aj}{s:Shared}{E:Value→Shared→Prop}
theorem Inv.i5 (I:Inv X pins σ H s) (E:Value→Shared→Prop):Inv (X.i5 E) pins σ H s:=⟨I.ok.i5 E,I.os,I.bare,I.base,I.loc,I.cell,I.free,I.hq,I.pin,I.bC,I.len⟩
theorem Inv.kB (I:Inv (X.i5 E) pins σ H s):Inv X pins σ H s:=⟨I.ok.kB,I.os,I.bare,I.base,I.loc,I.cell,I.free,I.hq,I.pin,I.bC,I.len⟩
theorem m6.kB {D:Ends}{f:Flow}{aL:Shared}(h:m6 (X.i5 E) pins D f aL):m6 X pins D f aL:=by
 cases f with
 | next=>obtain⟨bq,af,I,q⟩:=h;exact⟨bq,af,I.kB,q⟩
 | brk=>obtain⟨bq,af,I,q⟩:=h;exact⟨bq,af,I.kB,q⟩
 | cont=>obtain⟨bq,af,I,q⟩:=h;exact⟨bq,af,I.kB,q⟩
 | ret u=>obtain⟨v,bq,af,I,r,q⟩:=h;exact⟨v,bq,af,I.kB,r,q⟩
theorem f9.lD {st:List Stmt}{t:d8}(h:f9 X.lD st t):f9 X st t:=fun pins s σ H D I hw =>
 wpAny_mono (h pins s σ H D (I.i5 _) hw) (fun _ _ q=>q.kB) fun _ _ z=>False.elim z
end
section
variable {X:br}{st:Stmt}{rest:List Stmt}{t u:d8}{e:Expr}{bS:TE}{pos:Pos}
def Tq:d8:=fun D σ H=>D.c9 σ H
def Uq (t u:d8):d8:=fun D σ H=>t { D with c9:=u D } σ H
theorem dK:f9 X [] Tq:=fun _ _ σ H _ I h=>wpAny_execs_nil ⟨σ,H,I,h⟩
theorem bl (av:jg X st t) (aC:f9 X rest u):f9 X (st::rest) (Uq t u):=by
 intro pins s σ H D I h
 refine wpAny_execs_cons (bV (av pins s σ H { D with c9:=u D } I h) fun f s1 q=>?_)
 cases f with
 | next =>
  obtain⟨bq,af,fP,q⟩:=q
  exact aC pins s1 bq af D fP q
 | ret v=>exact q
 | brk=>exact q
 | cont=>exact q
theorem aY (av:jg X st t):f9 X [st] t:=by
 intro pins s σ H D I h
 refine wpAny_execs_cons (bV (av pins s σ H D I h) fun f s1 q=>?_)
 cases f with
 | next=>exact wpAny_execs_nil q
 | ret v=>exact q
 | brk=>exact q
 | cont=>exact q
theorem Inv.quiet {pins:List (Addr × Obj)}{σ:St}{H:aj}{s:Shared}(I:Inv X pins σ H s):interactive X.env=false:=by simp[interactive,I.ok.kind]
def Ts (bS:TE):d8:=fun D σ H=>bS σ H fun _ H1=>D.c9 σ H1
theorem dD (he:b4 X e bS) (aS:swapsWith e none pos.line X.env=pure false:=by rfl):jg X (.Expr e pos) (Ts bS):=by
 intro pins s σ H D I h
 exact wpAny_Expr_any (bV (he pins s σ H _ I h) fun v s1 ⟨x,H1,aR,bx,bw⟩=>⟨σ,H1,aR,bw⟩) I.quiet aS
def Ur (bS:TE):d8:=fun D σ H=>bS σ H D.j9
theorem dc (he:b4 X e bS):jg X (.Return (some e) pos) (Ur bS):=by
 intro pins s σ H D I h
 exact wpAny_Return_some (bV (he pins s σ H _ I h) fun v s1 ⟨x,H1,aR,bx,bw⟩=>⟨x,σ,H1,aR,bx,bw⟩)
def Uu (c:TT) (t u:d8):d8:=fun D σ H=>c σ H fun b H1=>if b=true then t D σ H1 else u D σ H1
theorem cO {c:Expr}{a b:List Stmt}{oR:TT}(ai:hW X c oR) (bf:f9 X a t) (aa:f9 X b u):jg X (.If c a b pos) (Uu oR t u):=by
 intro pins s σ H D I h
 refine wpAny_If (bV (ai pins s σ H _ I h) fun d s1 ⟨H1,aR,bw⟩=>?_)
 cases d with
 | true=>exact bf pins s1 σ H1 D aR bw
 | false=>exact aa pins s1 σ H1 D aR bw
end
abbrev jO:=V→St→aj→(St→aj→Prop)→Prop
abbrev rA:=List V→St→aj→(St→aj→Prop)→Prop
def tO (X:br) (target:Expr) (t:jO):Prop :=
 ∀(pins:List (Addr × Obj)) (s:Shared) (σ:St) (H:aj) (v:V) (u:Value) (Q:St→aj→Prop),Inv X pins σ H s→RelV v u→t v σ H Q →
  wpAny (model X.prog X.w) X.A (assign target X.env u) (fun _ aL=>∃bq af,Inv X pins bq af aL∧Q bq af) X.dp s
def zP (X:br) (aA:List Expr) (t:rA):Prop :=
 ∀(pins:List (Addr × Obj)) (s:Shared) (σ:St) (H:aj) (vs:List V) (us:List Value) (Q:St→aj→Prop),Inv X pins σ H s→Vals vs us→t vs σ H Q →
  wpAny (model X.prog X.w) X.A (assignInOrder ((assignEach aA X.env).map (·.2)) us) (fun _ aL=>∃bq af,Inv X pins bq af aL∧Q bq af) X.dp s
abbrev CT:=V→V→V→aj→(aj→Prop)→Prop
def Kg (X:br) (t:CT):Prop :=
 ∀(pins:List (Addr × Obj)) (s:Shared) (σ:St) (H:aj) (o i v:V) (bW ie u:Value) (Q:aj→Prop),Inv X pins σ H s→RelV o bW→RelV i ie→RelV v u→t o i v H Q →
  wpAny (model X.prog X.w) X.A (setItem bW ie u) (fun _ aL=>∃af,Inv X pins σ af aL∧Q af) X.dp s
section
variable {X:br}{pos:Pos}
def IS (i:Nat):jO:=fun v σ H Q=>Q (σ.set i (some v)) H
theorem hY {i:Nat}{x:Str}(e8:X.N.Nodup) (aW:X.N[i]?=some x) (aZ:Loc X.env.scope x) (hf:X.fn x=true∨X.env.scope.names.lookup x=some .local:=by first | exact .inl rfl | exact .inr rfl | assumption):tO X (.Name x pos) (IS i):=by
 intro pins s σ H v u Q I r h
 exact wpAny_assign_Name (AW I e8 aW aZ r (fun aL fP=>⟨_,H,fP,h⟩) hf)
def Vs:rA:=fun vs σ H Q=>vs=[]∧Q σ H
def Ui (t:jO) (u:rA):rA:=fun vs σ H Q=>∃v r,vs=v::r∧t v σ H fun bq af=>u r bq af Q
theorem xW:zP X [] Vs:=by
 intro pins s σ H vs us Q I r h
 obtain⟨e,h⟩:=h
 subst e
 cases r
 exact assignInOrder_nil ⟨σ,H,I,h⟩
theorem pz {e:Expr}{aM:List Expr}{t:jO}{u:rA}(av:tO X e t) (aC:zP X aM u)
  (aS:(assignEach (e::aM) X.env).map (·.2)=assign e X.env::(assignEach aM X.env).map (·.2):=by rfl):zP X (e::aM) (Ui t u):=by
 intro pins s σ H vs us Q I r h
 obtain⟨v,aaR,aJ,h⟩:=h
 subst aJ
 cases r with
 | cons r oU =>
  rw[aS]
  refine assignInOrder_cons (bV (av pins s σ H _ _ _ I r h) fun _ s1 ⟨fM,H1,aR,bw⟩=>?_)
  exact aC pins s1 fM H1 _ _ Q aR oU bw
def Vq (K:PySem.W.Frag) (n:Nat) (t:rA):jO:=fun v σ H Q=>∃a xs,v=.ref a∧aP K H a xs∧xs.length=n∧t xs σ H Q
theorem ya {aM:List Expr}{k:Nat}{t:rA}{n:Nat}(ai:X.calm=true) (h:zP X aM t)
  (aN:(assignEach aM X.env).length=n:=by rfl) (hb:(assignEach aM X.env).findIdx? (·.1)=none:=by rfl):tO X (.Tuple aM k pos) (Vq X.K n t):=by
 intro pins s σ H v u Q I r hw
 obtain⟨a,xs,aJ,bN,aG,hw⟩:=hw
 subst aJ
 cases r
 obtain⟨its,bD,bG,hz⟩:=I.tuple bN
 refine assign_Tuple_tuple (I.ok.hd ai) bG (by simp[aN,←aG,bD.length]) hb fun h' aZ=>?_
 have aR:Inv X pins σ H { s with heap:=h' }:=I.kept (t':=s.toks) fun b o e=>aZ b o (ne_of_lt (lt_size e)) e
 exact h pins _ σ H xs _ Q aR (by simpa using bD) hw
def Vr (to z2:TE) (t:CT):jO:=fun v σ H Q=>to σ H fun o H1=>z2 σ H1 fun i aq=>t o i v aq fun a3=>Q σ a3
theorem yb {o i:Expr}{to z2:TE}{t:CT}(aF:b4 X o to) (aW:b4 X i z2) (aS:Kg X t)
  (bf:∀v,assign (.Subscript o i pos) X.env v=(do
   let bW ← holding [v] (eval o X.env)
   let ie ← holding [v,bW] (eval i X.env)
   standAt pos
   holding [v,bW,ie] (setItem bW ie v)
   release [v,bW,ie] []):=by intro _;rfl):tO X (.Subscript o i pos) (Vr to z2 t):=by
 intro pins s σ H v u Q I r h
 rw[bf]
 refine wpAny_bind (wpAny_holding (bV (aF pins s σ H _ I h) fun bW s1 ⟨x,H1,aR,bx,bw⟩=>?_))
 refine wpAny_bind (wpAny_holding (bV (aW pins s1 σ H1 _ aR bw) fun ie s2 ⟨y,aq,cF,b7,aU⟩=>?_))
 refine wpAny_bind (wpAny_standAt (wpAny_bind (wpAny_holding (bV (aS pins s2 σ aq x y v bW ie u _ cF bx b7 r aU) fun _ s3 ⟨a3,cS,fp⟩=>?_))))
 exact wpAny_release ⟨σ,a3,cS,fp⟩
def Jd (bS:TE) (g:jO):d8:=fun D σ H=>bS σ H fun x H1=>g x σ H1 D.c9
theorem x9 {fF e:Expr}{bS:TE}{g:jO}(he:b4 X e bS) (cJ:tO X fF g) (aS:swapsWithSole [fF] e pos.line X.env=pure false:=by rfl) (hw:swappedStores [fF] e X.env=pure none:=by rfl)
  (av:(assignEach [fF] X.env).map (·.2)=[assign fF X.env]:=by rfl):jg X (.Assign [fF] e pos) (Jd bS g):=by
 intro pins s σ H D I h
 refine wpAny_Assign_stores (bV (he pins s σ H _ I h) fun v s1 ⟨x,H1,aR,bx,bw⟩=>?_) aS hw
 rw[av]
 exact bV (cJ pins s1 σ H1 x v _ aR bx bw) fun _ s2 q=>q
theorem cQ {i:Nat}{x:Str}{e:Expr}{bS:TE}{pos':Pos}(e8:X.N.Nodup) (aW:X.N[i]?=some x) (aZ:Loc X.env.scope x) (he:b4 X e bS) (aS:swapsWith e (some (.Name x pos')) pos.line X.env=pure false:=by rfl) (hf:X.fn x=true∨X.env.scope.names.lookup x=some .local:=by first | exact .inl rfl | exact .inr rfl | assumption) :
  jg X (.Assign [.Name x pos'] e pos) (Jd bS (IS i)):=by
 intro pins s σ H D I h
 refine wpAny_Assign_Name (bV (he pins s σ H _ I h) fun v s1 ⟨y,H1,aR,bx,bw⟩=>?_) aS
 exact AW aR e8 aW aZ bx (fun s2 cF=>⟨_,H1,cF,bw⟩) hf
end
section
variable {X:br}{pos:Pos}
def Sk (c:TT) (dB:d8):d8:=fun D σ H=>∃W:Nat→St→aj→Prop,(∃m,W m σ H)∧∀m σ H,W m σ H →
 c σ H fun b H1=>if b=true then ∃N:St→aj→Prop,(∀bq af,N bq af→∃ec,ec<m∧W ec bq af)∧dB { D with c9:=N,e1:=N,hk:=D.c9 } σ H1 else D.c9 σ H1
theorem QW {c:Expr}{body:List Stmt}{oR:TT}{dB:d8}(aD:PassesOwn (model X.prog X.w) X.A X.env X.dp) (ai:hW X c oR) (aa:f9 X body dB):jg X (.While c body [] pos) (Sk oR dB):=by
 intro pins s σ H D I h
 obtain⟨W,⟨m0,rI⟩,turn⟩:=h
 refine wpAny_While (codeAny_whileLoop (fun n aL=>∃bq af,Inv X pins bq af aL∧W n bq af) ?_ m0 ⟨σ,H,I,rI⟩)
 rintro n s1 ⟨fM,H1,aR,fe⟩
 refine wpAny_passesOwn aD (bV (ai pins s1 fM H1 _ aR (turn n fM H1 fe)) fun b s2 ⟨aq,cF,aU⟩=>?_)
 cases b with
 | true =>
  obtain⟨N,e8,aU⟩:=aU
  rw[if_pos rfl]
  refine wpAny_passesOwn aD (bV (aa pins s2 fM aq _ cF aU) fun f s3 fp=>?_)
  cases f with
  | next =>
   obtain⟨mP,a3,cS,eb⟩:=fp
   obtain⟨ec,hm,iB⟩:=e8 mP a3 eb
   exact⟨ec,hm,mP,a3,cS,iB⟩
  | cont =>
   obtain⟨mP,a3,cS,eb⟩:=fp
   obtain⟨ec,hm,iB⟩:=e8 mP a3 eb
   exact⟨ec,hm,mP,a3,cS,iB⟩
  | brk=>exact fp
  | ret v=>exact fp
 | false =>
  rw[if_neg Bool.false_ne_true]
  exact wpAny_execs_nil ⟨fM,aq,cF,aU⟩
end
structure kx where
 go:Nat→aj→Prop
 pP:Nat→aj→V→aj→Prop
 stop:Nat→aj→Prop
def mu (X:br) (pins:List (Addr × Obj)) (H:aj) (b:Addr):Prop :=
 H b=none∧b≠X.env.locals∧b∉X.bF∧(b∈X.ex∨X.ff.heap.objs.size≤b)∧(∀x c,X.env.cells.lookup x=some c→c≠b)∧∀p∈X.bR++pins,p.1≠b
theorem Inv.sQ {X:br}{pins:List (Addr × Obj)}{σ:St}{H af:aj}{s:Shared}{b:Addr}(I:Inv X pins σ H s) (aa:s.heap.objs.size≤b) (aN:af b=none):mu X pins af b:=by
 refine⟨aN,ne_of_gt (lt_of_lt_of_le I.lt aa),I.U0 aa,.inr (le_trans I.ez aa),fun x c e z=>?_,fun p aD z=>?_⟩
 ·obtain⟨v,q⟩:=I.cell x c e
  exact absurd (lt_of_lt_of_le q.lt (by rw[z];exact aa)) (lt_irrefl _)
 ·exact absurd (lt_of_lt_of_le (lt_size (I.pin p aD).1) (by rw[z];exact aa)) (lt_irrefl _)
structure Turn (P:Program) (w:World) (K:PySem.W.Frag) (fF:Expr) (J:kx) (cj:List Addr) (it:Addr) (gr:Nat→Heap→Prop):Prop where
 mem:it∈cj
 obj:∀i h,gr i h→∀b∈cj,∃o,h.get? b=some o∧∀v,o.data≠.cell v
 keep:∀i h h',gr i h→(∀b∈cj,∀o,h.get? b=some o→h'.get? b=some o)→gr i h'
 item:∀(X:br),X.prog=P→X.w=w→X.K=K→X.calm=true→∀(i:Nat) (pins:List (Addr × Obj)) (s:Shared) (σ:St) (H:aj) (E:Value→Shared→Prop),Inv X pins σ H s→(∀b∈cj,mu X pins H b)→gr i s.heap→J.go i H →
  wpAny (model P w) X.A (pyNext (.ref it)) (fun r s1=>∃u,r=some u ∧
   wpAny (model P w) X.A (letOwnedTupleGo fF (.ref it) u) (fun _ s2=>∃x af,Inv X pins σ af s2∧RelV x u∧J.pP i H x af∧gr (i+1) s2.heap∧∀b∈cj,af b=none) E s1) E s
 done:∀(X:br),X.prog=P→X.w=w→X.K=K→X.calm=true→∀(i:Nat) (pins:List (Addr × Obj)) (s:Shared) (σ:St) (H:aj) (E:Value→Shared→Prop),Inv X pins σ H s→(∀b∈cj,mu X pins H b)→gr i s.heap→J.stop i H →
  wpAny (model P w) X.A (pyNext (.ref it)) (fun r s1=>r=none∧Inv X pins σ H s1) E s
 self:∀(A:Around) (i:Nat) (s:Shared) (Q:Value→Shared→Prop) (E:Value→Shared→Prop),gr i s.heap→Q (.ref it) s→wpAny (model P w) A (pyIter (.ref it)) Q E s
abbrev TI:=St→aj→(kx→aj→Prop)→Prop
def NO (X:br) (pins:List (Addr × Obj)) (σ:St) (fF:Expr) (R:kx→aj→Prop) (zq:Value) (s2:Shared):Prop :=
 ∃(it:Addr) (cj:List Addr) (gr:Nat→Heap→Prop) (J:kx) (af:aj),zq=.ref it∧Inv X pins σ af s2∧Turn X.prog X.w X.K fF J cj it gr∧gr 0 s2.heap∧(∀b∈cj,mu X pins af b)∧R J af
def r5 (X:br) (fF iter:Expr) (hh:TI):Prop :=
 ∀(pins:List (Addr × Obj)) (s:Shared) (σ:St) (H:aj) (R:kx→aj→Prop),Inv X pins σ H s→hh σ H R →
  wpAny (model X.prog X.w) X.A (eval iter X.env) (fun v s1=>wpAny (model X.prog X.w) X.A (pyIter v) (NO X pins σ fF R) X.dp s1) X.dp s
theorem Co {M:Model}{A:Around}{E:Value→Shared→Prop}{s:Shared}{fF:Expr}{it:Addr}{u:Value}{o:Obj}{n:String}{vs:Array Value}{Q:Unit→Shared→Prop}(aF:s.heap.get? it=some o) (ai:o.cls=.type n) (hd:o.data=.fields vs)
  (aN:["enumerate","zip","dict_itemiterator","dict_reverseitemiterator","odict_iterator","itertools.zip_longest","itertools.pairwise"].contains n=false) (l1:Q () s):wpAny M A (letOwnedTupleGo fF (.ref it) u) Q E s:=by
 unfold letOwnedTupleGo
 cases fF <;> first
  | exact wpAny_pure l1
  | (cases u <;> first
    | exact wpAny_pure l1
    | (refine wpAny_bind (wpAny_load aF ?_);rw[ai,hd];show wpAny M A (if (["enumerate","zip","dict_itemiterator","dict_reverseitemiterator","odict_iterator","itertools.zip_longest","itertools.pairwise"].contains n && vs[0]? == some (rawInt _))=true then _ else _) Q E s;rw[if_neg (by intro h;rw[aN,Bool.false_and]at h;cases h)];exact wpAny_pure l1))
def oN (K:PySem.W.Frag) (a:Addr):kx :=
 ⟨fun i H=>∃xs x,aV K H a xs∧xs[i]?=some x,fun i H x af=>af=H∧∀xs,aV K H a xs→xs[i]?=some x,fun i H=>∃xs,aV K H a xs∧xs.length≤i⟩
def p6 (lo:Int) (n:Nat):kx:=⟨fun i _=>i<n,fun i H x af=>af=H∧x=.int (lo+i),fun i _=>n≤i⟩
theorem PY {P:Program}{w:World}{K:PySem.W.Frag}{fF:Expr}(a it:Addr):Turn P w K fF (oN K a) [it] it (fun i h=>h.IsListIter it a i) where
 mem:=by simp
 obj:=fun i h st b aa=>by
  have e:b=it:=by simpa using aa
  subst e
  obtain⟨o,e,c,d⟩:=st
  exact⟨o,e,fun v z=>by rw[d]at z;cases z⟩
 keep:=fun i h h' st k=>st.at fun o e=>k it (by simp) o e
 item:=by
  intro X gd hw iR ai i pins s σ H E I hf st cJ
  subst gd hw iR
  obtain⟨xs,x,bN,aZ⟩:=cJ
  obtain⟨its,bD,p,hz⟩:=I.list bN
  obtain⟨u,bp,dW⟩:=bD.get aZ
  obtain⟨f0,f1,f2,fL,f4,gv⟩:=hf it (by simp)
  refine wpAny_pyNext_list_item st p.isList (x:=u) (by simpa using bp) fun h' iu mS=>?_
  have aR:Inv X pins σ H { s with heap:=h' }:=I.turned (t':=s.toks) (fun b o aa e=>(mS.2 b aa).trans e) f0 f1 fL f4 gv
  obtain⟨o,e,c,d⟩:=id iu
  exact⟨u,rfl,Co (s:={ s with heap:=h' }) e c d (by decide) ⟨x,H,aR,dW,⟨rfl,fun ys cA=>by rw[I.A4 cA bN];exact aZ⟩,iu,fun b aa=>(hf b aa).1⟩⟩
 done:=by
  intro X gd hw iR ai i pins s σ H E I hf st cJ
  subst gd hw iR
  obtain⟨xs,bN,aZ⟩:=cJ
  obtain⟨its,bD,p,hz⟩:=I.list bN
  obtain⟨f0,f1,f2,fL,f4,gv⟩:=hf it (by simp)
  have aG:=bD.length
  exact wpAny_pyNext_list_end (I.ok.hd ai) st p.isList (by simp;omega) fun h' es=>⟨rfl,I.turned (t':=s.toks) (fun b o aa e=>es b o aa e) f0 f1 fL f4 gv⟩
 self:=fun _ _ _ _ _ st h=>wpAny_pyIter_listiter st h
theorem PB {P:Program}{w:World}{K:PySem.W.Frag}{fF:Expr}(it:Addr) (lo:Int) (n:Nat):Turn P w K fF (p6 lo n) [it] it (fun i h=>IsRangeIter h it (lo+(i:Nat) * 1) ((n:Int) - (i:Nat)) 1) where
 mem:=by simp
 obj:=fun i h st b aa=>by
  have e:b=it:=by simpa using aa
  subst e
  exact⟨_,st,fun v z=>by
   have hg:Data.fields _=Data.cell v:=z
   cases hg⟩
 keep:=fun i h h' st k=>k it (by simp) _ st
 item:=by
  intro X gd hw iR ai i pins s σ H E I hf st cJ
  subst gd hw iR
  obtain⟨f0,f1,f2,fL,f4,gv⟩:=hf it (by simp)
  have W:=Walks.range (prog:=X.prog) (w:=X.w) (I.ok.hd ai) it lo 1 n
  refine W.item i s _ _ cJ st fun v h' bz bA iu oX=>?_
  obtain⟨t,rfl⟩:=bA
  have aR:Inv X pins σ H { s with heap:=h',toks:=bz }:=I.turned (fun b o aa e=>oX b o (by simpa using aa) e) f0 f1 fL f4 gv
  refine⟨_,rfl,Co (s:={ s with heap:=h',toks:=bz }) (n:="range_iterator") iu rfl rfl (by decide) ⟨.int (lo+i),H,aR,⟨t,?_⟩,⟨rfl,rfl⟩,iu,fun b aa=>(hf b aa).1⟩⟩
  rw[Int.mul_one]
 done:=by
  intro X gd hw iR ai i pins s σ H E I hf st cJ
  subst gd hw iR
  obtain⟨f0,f1,f2,fL,f4,gv⟩:=hf it (by simp)
  exact wpAny_pyNext_range_end (I.ok.hd ai) st (by have:n≤i:=cJ;omega) fun h' es=>⟨rfl,I.turned (t':=s.toks) (fun b o aa e=>es b o aa e) f0 f1 fL f4 gv⟩
 self:=fun _ _ _ _ _ st h=>wpAny_pyIter_rangeiter st h
section
variable {X:br}{fF:Expr}
def T7 (K:PySem.W.Frag) (i_:TE):TI:=fun σ H R=>i_ σ H fun x H1=>∃a,x=.ref a∧(∃xs,aV K H1 a xs)∧R (oN K a) H1
theorem pA {l:Expr}{i_:TE}(aG:b4 X l i_):r5 X fF l (T7 X.K i_):=by
 intro pins s σ H R I h
 refine bV (aG pins s σ H _ I h) fun v s1 ⟨x,H1,aR,bx,bw⟩=>?_
 obtain⟨a,e,⟨xs,bN⟩,q⟩:=bw
 subst e
 cases bx
 obtain⟨its,bD,p,hz⟩:=aR.list bN
 refine wpAny_pyIter_list p.isList ?_
 refine⟨s1.heap.objs.size,[s1.heap.objs.size],_,_,H1,rfl,aR.kept (t':=s1.toks) fun b o e=>get?_push_of_some _ e,PY a _,⟨_,get?_push_size _ rfl,rfl,rfl⟩,fun b aa=>?_,q⟩
 have e:b=s1.heap.objs.size:=by simpa using aa
 subst e
 exact aR.sQ (le_refl _) (aR.bC.fresh (le_refl _))
theorem QO {pins:List (Addr × Obj)}{σ:St}{H:aj}{s:Shared}{R:kx→aj→Prop}{E:Value→Shared→Prop}{lo aW:Int}{t u v:Tok}{bz:Nat}(I:Inv X pins σ H s) (av : -(2 ^ 62)≤lo) (aC:lo<2 ^ 62) (cB : -(2 ^ 62)≤aW) (dw:aW<2 ^ 62)
  (q:R (p6 lo (aW - lo).toNat) H):wpAny (model X.prog X.w) X.A (pyIter (.ref s.heap.objs.size)) (NO X pins σ fF R) E { s with heap:=s.heap.push { cls:=.type "range",data:=.fields #[.int lo t,.int aW u,.int 1 v] },toks:=bz }:=by
 refine wpAny_pyIter_range (IsRange.new ..) (small_one av aC cB dw) ?_
 have aR:Inv X pins σ H { s with heap:=s.heap.push { cls:=.type "range",data:=.fields #[.int lo t,.int aW u,.int 1 v] },toks:=bz }:=I.kept fun b o e=>get?_push_of_some _ e
 refine⟨(s.heap.push { cls:=.type "range",data:=.fields #[.int lo t,.int aW u,.int 1 v] }).objs.size,[(s.heap.push { cls:=.type "range",data:=.fields #[.int lo t,.int aW u,.int 1 v] }).objs.size],_,_,H,rfl,
  aR.kept (t':=bz) fun b o e=>get?_push_of_some _ e,PB _ lo (aW - lo).toNat,?_,fun b aa=>?_,q⟩
 ·have aJ:lo+((0:Nat):Int) * 1=lo:=by simp
  have aQ:(((aW - lo).toNat:Nat):Int) - ((0:Nat):Int)=Builtin.Range.rangeSize lo aW 1:=by rw[rangeSize_one];split <;> omega
  show IsRangeIter _ _ (lo+((0:Nat):Int) * 1) ((((aW - lo).toNat:Nat):Int) - ((0:Nat):Int)) 1
  rw[aJ,aQ]
  exact get?_push_size _ rfl
 ·have e:b=(s.heap.push { cls:=.type "range",data:=.fields #[.int lo t,.int aW u,.int 1 v] }).objs.size:=by simpa using aa
  subst e
  exact aR.sQ (le_refl _) (aR.bC.fresh (le_refl _))
def T6 (c5:hR):TI:=fun σ H R=>c5 σ H fun vs H1=>∃j:Int,vs=[.int j] ∧ -(2 ^ 62)≤j∧j<2 ^ 62∧R (p6 0 j.toNat) H1
theorem pn {a:Expr}{c5:hR}{p pos:Pos}(cJ:iX X "range") (hm:X.mg "range"=none) (bf:kZ X [a] c5) (aS:starEach [a] X.env=[(false,eval a X.env)]:=by rfl):r5 X fF (.Call (.Name "range" p) [a] [] pos) (T6 c5):=by
 intro pins s σ H R I h
 refine Call_ (pF I cJ hm boot_range (PyProof.Rows.callWith_type1 (bV (bf pos pins s σ H _ I h) fun us s1 ⟨vs,H1,aR,bx,bw⟩=>?_) aS rfl))
 obtain⟨j,e,bw,aU,q⟩:=bw
 subst e
 cases bx with
 | cons r oU =>
  cases oU
  obtain⟨t,rfl⟩:=r
  exact call_range_1 (QO aR (by omega) (by omega) bw aU (by simpa using q))
def Uv (hh:TI) (g:jO) (dB:d8):d8:=fun D σ H=>hh σ H fun J H1=>∃W:Nat→Nat→St→aj→Prop,(∃m,W 0 m σ H1)∧∀i m σ H,W i m σ H →
 (J.stop i H∧D.c9 σ H)∨(J.go i H∧∃N:St→aj→Prop,(∀bq af,N bq af→∃ec,ec<m∧W (i+1) ec bq af)∧∀x af,J.pP i H x af→g x σ af fun f_ aq=>dB { D with c9:=N,e1:=N,hk:=D.c9 } f_ aq)
def uy (cj:List Addr) (h:Heap):List (Addr × Obj):=cj.filterMap fun b=>(h.get? b).map fun o=>(b,o)
theorem sf {cj:List Addr}{h:Heap}{b:Addr}{o:Obj}(aa:b∈cj) (e:h.get? b=some o):(b,o)∈uy cj h:=List.mem_filterMap.mpr ⟨b,aa,by rw[e];rfl⟩
theorem Qc {cj:List Addr}{h:Heap}{p:Addr × Obj}(aD:p∈uy cj h):p.1∈cj∧h.get? p.1=some p.2:=by
 obtain⟨b,aa,e⟩:=List.mem_filterMap.mp aD
 cases q:h.get? b with
 | none=>rw[q]at e;cases e
 | some o =>
  rw[q]at e
  have dH:(b,o)=p:=Option.some.inj e
  subst dH
  exact⟨aa,q⟩
theorem Inv.pinned {pins:List (Addr × Obj)}{σ:St}{H:aj}{s:Shared}{cj:List Addr}(I:Inv X pins σ H s) (hf:∀b∈cj,mu X pins H b) (aF:∀b∈cj,∃o,s.heap.get? b=some o∧∀v,o.data≠.cell v):Inv X (pins++uy cj s.heap) σ H s :=
 I.HE fun p aD=>(mem_append.mp aD).elim (fun z=>I.pin p (mem_append_right _ z)) fun z=>by
  obtain⟨aa,e⟩:=Qc z
  obtain⟨f0,f1,f2,_⟩:=hf p.1 aa
  obtain⟨o,dH,d⟩:=aF p.1 aa
  rw[e]at dH;cases dH
  exact⟨e,f0,f1,f2,d⟩
theorem Inv.t_ {pins pl:List (Addr × Obj)}{σ:St}{H:aj}{s:Shared}(I:Inv X (pins++pl) σ H s):Inv X pins σ H s:=I.HE fun p aD=>I.pin p (mem_append_right _ (mem_append_left _ aD))
theorem kC {iter:Expr}{body:List Stmt}{hh:TI}{g:jO}{dB:d8}{pos:Pos}(aD:PassesOwn (model X.prog X.w) X.A X.env X.dp) (ai:X.calm=true) (aW:r5 X fF iter hh) (cJ:tO X fF g) (aa:f9 X body dB)
  (aS:∀x,foldedSetIterable iter X.env x=pure x:=by intro _;rfl):jg X (.For fF iter body [] pos) (Uv hh g dB):=by
 intro pins s σ H D I h
 refine wpAny_For (bV (aW pins s σ H _ I h) fun v s1 av=>bV av fun zq s2 aC=>?_) aS
 obtain⟨it,cj,gr,J,aq,e,cF,T,jo,f2,W,⟨m0,rI⟩,turn⟩:=aC
 subst e
 have mj:∀{af:aj},(∀b∈cj,af b=none)→∀b∈cj,mu X pins af b:=fun aN b aa=>⟨aN b aa,(f2 b aa).2⟩
 refine codeAny_forLoop_any (fun n aL=>∃i bq af,Inv X pins bq af aL∧gr i aL.heap∧(∀b∈cj,af b=none)∧W i n bq af) ?_ m0 ⟨0,σ,aq,cF,jo,fun b aa=>(f2 b aa).1,rI⟩
 rintro n s3 ⟨i,mP,a3,cS,lz,p1,iB⟩
 rcases turn i n mP a3 iB with ⟨stop,EO⟩ | ⟨go,N,e8,step⟩
 ·refine wpAny_passesOwn aD (bV (T.done X rfl rfl rfl ai i pins s3 mP a3 X.dp cS (mj p1) lz stop) fun r s4 ⟨aI,gL⟩=>?_)
  subst aI
  exact wpAny_execs_nil ⟨mP,a3,gL,EO⟩
 ·refine wpAny_passesOwn aD (bV (T.item X rfl rfl rfl ai i pins s3 mP a3 X.dp cS (mj p1) lz go) fun r s4 ⟨u,aI,dw⟩=>?_)
  subst aI
  refine wpAny_passesOwn aD (bV dw fun _ s5 ⟨x,e_,o_,mT,nO,mw,vI⟩=>?_)
  have vV:=o_.pinned (mj vI) (T.obj _ _ mw)
  refine wpAny_passesOwn aD (bV (cJ _ s5 mP e_ x u _ vV mT (step x e_ nO)) fun _ j8 ⟨EI,iW,k4,EP⟩=>?_)
  refine wpAny_passesOwn aD (bV (aa _ j8 EI iW _ k4 EP) fun f gR mV=>?_)
  have again:∀{mO:St} {fy:aj},Inv X (pins++uy cj s5.heap) mO fy gR→N mO fy→∃m,m<n∧∃i bq af,Inv X pins bq af gR∧gr i gR.heap∧(∀b∈cj,af b=none)∧W i m bq af:=fun {mO fy} gi gU=>by
   obtain⟨ec,hm,rG⟩:=e8 mO fy gU
   refine⟨ec,hm,i+1,mO,fy,gi.t_,T.keep _ _ _ mw fun b aa o e=>(gi.pin (b,o) (mem_append_right _ (mem_append_right _ (sf aa e)))).1,fun b aa=>?_,rG⟩
   obtain⟨o,e,d⟩:=T.obj _ _ mw b aa
   exact (gi.pin (b,o) (mem_append_right _ (mem_append_right _ (sf aa e)))).2.1
  cases f with
  | next=>obtain⟨mO,fy,gi,gU⟩:=mV;exact again gi gU
  | cont=>obtain⟨mO,fy,gi,gU⟩:=mV;exact again gi gU
  | brk=>obtain⟨mO,fy,gi,mV⟩:=mV;exact⟨mO,fy,gi.t_,mV⟩
  | ret v=>obtain⟨Ye,mO,fy,gi,Yp,mV⟩:=mV;exact⟨Ye,mO,fy,gi.t_,Yp,mV⟩
end
theorem xN {K:PySem.W.Frag}{a:Addr}{xs:List V}{g:jO}{dB:d8}{D:Ends}{σ:St}{H:aj}(Pv:Nat→St→aj→Prop) (h0:Pv 0 σ H) (aG:∀i σ H,i≤xs.length→Pv i σ H→aV K H a xs)
  (aS:∀i x σ H,xs[i]?=some x→Pv i σ H→g x σ H fun f_ aq=>dB { D with c9:=Pv (i+1),e1:=Pv (i+1),hk:=D.c9 } f_ aq) (hd:∀σ H,Pv xs.length σ H→D.c9 σ H) :
  ∃W:Nat→Nat→St→aj→Prop,(∃m,W 0 m σ H)∧∀i m σ H,W i m σ H →
   ((oN K a).stop i H∧D.c9 σ H)∨((oN K a).go i H∧∃N:St→aj→Prop,(∀bq af,N bq af→∃ec,ec<m∧W (i+1) ec bq af)∧∀x af,(oN K a).pP i H x af→g x σ af fun f_ aq=>dB { D with c9:=N,e1:=N,hk:=D.c9 } f_ aq):=by
 refine⟨fun i m σ H=>m=xs.length - i∧i≤xs.length∧Pv i σ H,⟨xs.length,by simp,zero_le _,h0⟩,?_⟩
 rintro i m σ H ⟨rfl,aW,p⟩
 have q:=aG i σ H aW p
 by_cases de:i<xs.length
 ·refine .inr ⟨⟨xs,xs[i],q,by simp[de]⟩,Pv (i+1),fun bq af ht=>⟨xs.length - (i+1),by omega,rfl,de,ht⟩,fun x af y=>?_⟩
  obtain⟨e,y⟩:=y
  subst e
  exact aS i x σ _ (y xs q) p
 ·have e:i=xs.length:=by omega
  subst e
  exact .inl ⟨⟨xs,q,le_refl _⟩,hd σ H p⟩
theorem sk {lo:Int}{n:Nat}{g:jO}{dB:d8}{D:Ends}{σ:St}{H:aj}(Pv:Nat→St→aj→Prop) (h0:Pv 0 σ H)
  (aS:∀i σ H,i<n→Pv i σ H→g (.int (lo+i)) σ H fun f_ aq=>dB { D with c9:=Pv (i+1),e1:=Pv (i+1),hk:=D.c9 } f_ aq) (hd:∀σ H,Pv n σ H→D.c9 σ H) :
  ∃W:Nat→Nat→St→aj→Prop,(∃m,W 0 m σ H)∧∀i m σ H,W i m σ H →
   ((p6 lo n).stop i H∧D.c9 σ H)∨((p6 lo n).go i H∧∃N:St→aj→Prop,(∀bq af,N bq af→∃ec,ec<m∧W (i+1) ec bq af)∧∀x af,(p6 lo n).pP i H x af→g x σ af fun f_ aq=>dB { D with c9:=N,e1:=N,hk:=D.c9 } f_ aq):=by
 refine⟨fun i m σ H=>m=n - i∧i≤n∧Pv i σ H,⟨n,by simp,zero_le _,h0⟩,?_⟩
 rintro i m σ H ⟨rfl,aW,p⟩
 by_cases de:i<n
 ·refine .inr ⟨de,Pv (i+1),fun bq af ht=>⟨n - (i+1),by omega,rfl,de,ht⟩,fun x af y=>?_⟩
  obtain⟨e,y⟩:=y
  subst e y
  exact aS i σ _ de p
 ·have e:i=n:=by omega
  subst e
  exact .inl ⟨le_refl _,hd σ H p⟩
abbrev iV:=V→V→aj→ct→Prop
def gQ (X:br) (f:Value→Value→Sem Value) (r:iV):Prop :=
 ∀(pins:List (Addr × Obj)) (s:Shared) (σ:St) (H:aj) (x y:V) (v u:Value) (Q:ct),Inv X pins σ H s→RelV x v→RelV y u→r x y H Q →
  wpAny (model X.prog X.w) X.A (f v u) (g8 X pins σ Q) X.dp s
def D7 (X:br) (f:Value→Sem Value) (r:V→aj→ct→Prop):Prop :=
 ∀(pins:List (Addr × Obj)) (s:Shared) (σ:St) (H:aj) (x:V) (v:Value) (Q:ct),Inv X pins σ H s→RelV x v→r x H Q →
  wpAny (model X.prog X.w) X.A (f v) (g8 X pins σ Q) X.dp s
def lq (X:br) (f:Value) (r:List V→aj→ct→Prop):Prop :=
 ∀(pins:List (Addr × Obj)) (s:Shared) (σ:St) (H:aj) (xs:List V) (us:List Value) (Q:ct),Inv X pins σ H s→Vals xs us→r xs H Q →
  wpAny (model X.prog X.w) X.A (call f us) (g8 X pins σ Q) X.dp s
def y3 (r:iV) (c5 dB:TE):TE:=fun σ H Q=>c5 σ H fun x H1=>dB σ H1 fun y aq=>r x y aq Q
def VF (r:V→aj→ct→Prop) (c5:TE):TE:=fun σ H Q=>c5 σ H fun x H1=>r x H1 Q
def we (C:Int→Int→Prop) (g:Int→Int→V):iV:=fun x y H Q=>∃i j,x=.int i∧y=.int j∧C i j∧Q (g i j) H
def pR (g:Int→Int→V):iV:=fun x y H Q=>∃i j,x=.int i∧y=.int j∧Q (g i j) H
def Of (g:Int→V):V→aj→ct→Prop:=fun x H Q=>∃i,x=.int i∧Q (g i) H
section
variable {X:br}{a b c:Expr}{c5 dB oR:TE}{pos:Pos}
theorem CS (bf:b4 X a c5) (aa:b4 X b dB) {pins:List (Addr × Obj)}{s:Shared}{σ:St}{H:aj}{R:V→V→aj→Prop}(I:Inv X pins σ H s)
  (h:c5 σ H fun x H1=>dB σ H1 fun y aq=>R x y aq) {Q:Value→Shared→Prop} {f:Value→Value→Sem Value}
  (hf:∀v u s2 x y aq,Inv X pins σ aq s2→RelV x v→RelV y u→R x y aq→wpAny (model X.prog X.w) X.A (f v u) Q X.dp s2) :
  wpAny (model X.prog X.w) X.A (eval a X.env) (fun v c2=>wpAny (model X.prog X.w) X.A (eval b X.env) (fun u hK=>wpAny (model X.prog X.w) X.A (f v u) Q X.dp hK) X.dp c2) X.dp s:=by
 refine bV (bf pins s σ H _ I h) fun v s1 ⟨x,H1,aR,bx,bw⟩=>?_
 refine bV (aa pins s1 σ H1 _ aR bw) fun u s2 ⟨y,aq,cF,b7,aU⟩=>?_
 exact hf v u s2 x y aq cF bx b7 aU
theorem c0 {op:Operator}{r:iV}(aF:gQ X (binaryOp op) r) (bf:b4 X a c5) (aa:b4 X b dB):b4 X (.BinOp a op b pos) (y3 r c5 dB):=by
 intro pins s σ H Q I h
 exact wpAny_BinOp (CS bf aa I h fun v u s2 x y aq cF bu bL q=>aF pins s2 σ aq x y v u Q cF bu bL q)
theorem sF {op:UnaryOp}{r:V→aj→ct→Prop}(aF:D7 X (unaryOp op) r) (bf:b4 X a c5):b4 X (.UnaryOp op a pos) (VF r c5):=by
 intro pins s σ H Q I h
 exact UnaryOp_ (bV (bf pins s σ H _ I h) fun v s1 ⟨x,H1,aR,bx,bw⟩=>aF pins s1 σ H1 x v Q aR bx bw)
theorem y_ {f:Value→Value→Sem Value}{C:Int→Int→Prop}{g:Int→Int→Int}
  (rule:∀(i j:Int) (t u:Tok) (s:Shared) (Q:Value→Shared→Prop) (E:Value→Shared→Prop),C i j→Q (.int (g i j) s.toks) { s with toks:=s.toks+1 }→wpAny (model X.prog X.w) X.A (f (.int i t) (.int j u)) Q E s) :
  gQ X f (we C fun i j=>.int (g i j)):=by
 intro pins s σ H x y v u Q I bu bL h
 obtain⟨i,j,rfl,rfl,ai,q⟩:=h
 obtain⟨t,rfl⟩:=bu
 obtain⟨t',rfl⟩:=bL
 exact rule i j t t' s _ _ ai ⟨.int (g i j),H,I.tok _,⟨_,rfl⟩,q⟩
theorem Ju {f:Value→Value→Sem Value}{g:Int→Int→Int}
  (rule:∀(i j:Int) (t u:Tok) (s:Shared) (Q:Value→Shared→Prop) (E:Value→Shared→Prop),Q (.int (g i j) s.toks) { s with toks:=s.toks+1 }→wpAny (model X.prog X.w) X.A (f (.int i t) (.int j u)) Q E s) :
  gQ X f (pR fun i j=>.int (g i j)):=by
 intro pins s σ H x y v u Q I bu bL h
 obtain⟨i,j,rfl,rfl,q⟩:=h
 obtain⟨t,rfl⟩:=bu
 obtain⟨t',rfl⟩:=bL
 exact rule i j t t' s _ _ ⟨.int (g i j),H,I.tok _,⟨_,rfl⟩,q⟩
theorem yG {f:Value→Value→Sem Value}{g:Int→Int→Bool}
  (rule:∀(i j:Int) (t u:Tok) (s:Shared) (Q:Value→Shared→Prop) (E:Value→Shared→Prop),Q (.bool (g i j)) s→wpAny (model X.prog X.w) X.A (f (.int i t) (.int j u)) Q E s) :
  gQ X f (pR fun i j=>.b8 (g i j)):=by
 intro pins s σ H x y v u Q I bu bL h
 obtain⟨i,j,rfl,rfl,q⟩:=h
 obtain⟨t,rfl⟩:=bu
 obtain⟨t',rfl⟩:=bL
 exact rule i j t t' s _ _ ⟨.b8 (g i j),H,I,rfl,q⟩
def Vz (i j:Int):Prop:=0<j∧j<1073741824
def Vy (i j:Int):Prop:=0≤j∧j≤1000000∧i.natAbs<2 ^ 64
def CY (i j:Int):Prop:=(-(2 ^ 64)<i∧i<2 ^ 64)∨(-(2 ^ 64)<j∧j<2 ^ 64)
theorem CY.ok {i j:Int}(h:CY i j):IntMulOk i j:=by
 rcases h with ⟨av,aC⟩ | ⟨av,aC⟩
 ·exact .of_left (intBits_le_64 av aC)
 ·exact .of_right (intBits_le_64 av aC)
theorem gN:gQ X (binaryOp .Add) (pR fun i j=>.int (i+j)):=Ju fun _ _ _ _ _ _ _ q=>add_int q
theorem qM:gQ X (binaryOp .Sub) (pR fun i j=>.int (i - j)):=Ju fun _ _ _ _ _ _ _ q=>sub_int q
theorem ye:gQ X (binaryOp .Mult) (we CY fun i j=>.int (i * j)):=y_ fun _ _ _ _ _ _ _ ai q=>mul_int q ai.ok
theorem uh:gQ X (binaryOp .FloorDiv) (we Vz fun i j=>.int (i / j)):=y_ fun i j _ _ _ _ _ ai q=>by
 have av:(0:Int)<j:=ai.1
 have aC:j<1073741824:=ai.2
 exact floordiv_int (by omega) (by rw[Int.fdiv_eq_ediv_of_nonneg i (by omega)];exact q) (.inl (PyProof.noPylong_small (by omega)))
theorem ih:gQ X (binaryOp .Mod) (we (fun _ j=>0<j) fun i j=>.int (i % j)):=y_ fun i j _ _ _ _ _ ai q=>by
 have av:(0:Int)<j:=ai
 exact mod_int' (by omega) (by rw[Int.fmod_eq_emod_of_nonneg i (by omega)];exact q)
theorem yd:gQ X (binaryOp .Pow) (we Vy fun i j=>.int (i ^ j.toNat)):=y_ fun _ _ _ _ _ _ _ ai q=>pow_int_small ai.1 ai.2.1 ai.2.2 q
theorem VB {f:Value→Sem Value}{g:Int→Int}
  (rule:∀(i:Int) (t:Tok) (s:Shared) (Q:Value→Shared→Prop) (E:Value→Shared→Prop),Q (.int (g i) s.toks) { s with toks:=s.toks+1 }→wpAny (model X.prog X.w) X.A (f (.int i t)) Q E s) :
  D7 X f (Of fun i=>.int (g i)):=by
 intro pins s σ H x v Q I bu h
 obtain⟨i,rfl,q⟩:=h
 obtain⟨t,rfl⟩:=bu
 exact rule i t s _ _ ⟨.int (g i),H,I.tok _,⟨_,rfl⟩,q⟩
theorem sy:D7 X (unaryOp .USub) (Of fun i=>.int (-i)):=VB fun _ _ _ _ _ q=>neg_int q
end
def Ji:V→V→Bool
 | .cc,.cc=>true | .cc,.int _=>true | .int _,.cc=>true | .cc,.b8 _=>true | .b8 _,.cc=>true | .cc,.str _=>true | .str _,.cc=>true
 | .int _,.int _=>true | .b8 _,.b8 _=>true | .str _,.str _=>true | .lP _,.lP _=>true
 | .int _,.str _=>true | .str _,.int _=>true | .b8 _,.str _=>true | .str _,.b8 _=>true
 | _,_=>false
def VP:iV:=fun x y H Q=>Ji x y=true∧Q (.b8 (decide (x=y))) H
def VO:iV:=fun x y H Q=>Ji x y=true∧Q (.b8 (!decide (x=y))) H
theorem HO {i j:Int}:decide (V.int i=V.int j)=(i == j):=by
 rw[Bool.eq_iff_iff]
 simp
theorem Ic {i j:Bool}:decide (V.b8 i=V.b8 j)=(i == j):=by
 rw[Bool.eq_iff_iff]
 simp
theorem HN {i j:Str}:decide (V.str i=V.str j)=(i == j):=by
 rw[Bool.eq_iff_iff]
 simp
theorem HP {i j:Array UInt8}:decide (V.lP i=V.lP j)=(i.toList == j.toList):=by
 rw[Bool.eq_iff_iff]
 cases i
 cases j
 simp
section
variable {X:br}{a b c:Expr}{c5 dB oR:TE}{pos:Pos}
theorem fD {pins:List (Addr × Obj)}{σ:St}{H:aj}{s:Shared}{Q:ct}{k iE:Bool}(I:Inv X pins σ H s) (q:Q (.b8 k) H) (e:k=iE):g8 X pins σ Q (.bool iE) s:=by
 subst e
 exact⟨.b8 k,H,I,rfl,q⟩
theorem d2:gQ X (compareOp .Eq) VP:=by
 intro pins s σ H x y v u Q I bu bL h
 obtain⟨aS,q⟩:=h
 cases x with
 | cc =>
  cases bu
  cases y with
  | cc=>cases bL;exact PySem.EqNone.eq_none_none (fD I q (by simp))
  | b8 j=>cases bL;exact PySem.EqNone.eq_none_bool (fD I q (by simp))
  | int j=>obtain⟨t',rfl⟩:=bL;exact PySem.EqNone.eq_none_int (fD I q (by simp))
  | str j=>obtain⟨t',rfl⟩:=bL;exact PySem.EqNone.eq_none_str (fD I q (by simp))
  | _=>exact absurd (show false=true from aS) Bool.false_ne_true
 | b8 i =>
  cases bu
  cases y with
  | cc=>cases bL;exact PySem.EqNone.eq_bool_none (fD I q (by simp))
  | b8 j=>cases bL;exact eq_bool (fD I q Ic)
  | str j=>obtain⟨t',rfl⟩:=bL;exact PySem.EqMixed.eq_bool_str (fD I q (by simp))
  | _=>exact absurd (show false=true from aS) Bool.false_ne_true
 | int i =>
  obtain⟨t,rfl⟩:=bu
  cases y with
  | cc=>cases bL;exact PySem.EqNone.eq_int_none (fD I q (by simp))
  | int j=>obtain⟨t',rfl⟩:=bL;exact eq_int (fD I q HO)
  | str j=>obtain⟨t',rfl⟩:=bL;exact PySem.EqMixed.eq_int_str (fD I q (by simp))
  | _=>exact absurd (show false=true from aS) Bool.false_ne_true
 | str i =>
  obtain⟨t,rfl⟩:=bu
  cases y with
  | cc=>cases bL;exact PySem.EqNone.eq_str_none (fD I q (by simp))
  | b8 j=>cases bL;exact PySem.EqMixed.eq_str_bool (fD I q (by simp))
  | int j=>obtain⟨t',rfl⟩:=bL;exact PySem.EqMixed.eq_str_int (fD I q (by simp))
  | str j=>obtain⟨t',rfl⟩:=bL;exact eq_str (fD I q HN)
  | _=>exact absurd (show false=true from aS) Bool.false_ne_true
 | lP i =>
  obtain⟨t,rfl⟩:=bu
  cases y with
  | lP j=>obtain⟨t',rfl⟩:=bL;exact PySem.W.eq_bytes (fD I q HP)
  | _=>exact absurd (show false=true from aS) Bool.false_ne_true
 | _=>cases y <;> exact absurd (show false=true from aS) Bool.false_ne_true
theorem kD:gQ X (compareOp .NotEq) VO:=by
 intro pins s σ H x y v u Q I bu bL h
 obtain⟨aS,q⟩:=h
 cases x with
 | cc =>
  cases bu
  cases y with
  | cc=>cases bL;exact PySem.EqNone.ne_none_none (fD I q (by simp))
  | b8 j=>cases bL;exact PySem.EqNone.ne_none_bool (fD I q (by simp))
  | int j=>obtain⟨t',rfl⟩:=bL;exact PySem.EqNone.ne_none_int (fD I q (by simp))
  | str j=>obtain⟨t',rfl⟩:=bL;exact PySem.EqNone.ne_none_str (fD I q (by simp))
  | _=>exact absurd (show false=true from aS) Bool.false_ne_true
 | b8 i =>
  cases bu
  cases y with
  | cc=>cases bL;exact PySem.EqNone.ne_bool_none (fD I q (by simp))
  | b8 j=>cases bL;exact ne_bool (fD I q (congrArg not Ic))
  | str j=>obtain⟨t',rfl⟩:=bL;exact PySem.EqMixed.ne_bool_str (fD I q (by simp))
  | _=>exact absurd (show false=true from aS) Bool.false_ne_true
 | int i =>
  obtain⟨t,rfl⟩:=bu
  cases y with
  | cc=>cases bL;exact PySem.EqNone.ne_int_none (fD I q (by simp))
  | int j=>obtain⟨t',rfl⟩:=bL;exact ne_int (fD I q (congrArg not HO))
  | str j=>obtain⟨t',rfl⟩:=bL;exact PySem.EqMixed.ne_int_str (fD I q (by simp))
  | _=>exact absurd (show false=true from aS) Bool.false_ne_true
 | str i =>
  obtain⟨t,rfl⟩:=bu
  cases y with
  | cc=>cases bL;exact PySem.EqNone.ne_str_none (fD I q (by simp))
  | b8 j=>cases bL;exact PySem.EqMixed.ne_str_bool (fD I q (by simp))
  | int j=>obtain⟨t',rfl⟩:=bL;exact PySem.EqMixed.ne_str_int (fD I q (by simp))
  | str j=>obtain⟨t',rfl⟩:=bL;exact ne_str (fD I q (congrArg not HN))
  | _=>exact absurd (show false=true from aS) Bool.false_ne_true
 | lP i =>
  obtain⟨t,rfl⟩:=bu
  cases y with
  | lP j=>obtain⟨t',rfl⟩:=bL;exact PySem.W.ne_bytes (fD I q (congrArg not HP))
  | _=>exact absurd (show false=true from aS) Bool.false_ne_true
 | _=>cases y <;> exact absurd (show false=true from aS) Bool.false_ne_true
theorem yu:gQ X (compareOp .Lt) (pR fun i j=>.b8 (decide (i<j))):=yG fun _ _ _ _ _ _ _ q=>lt_int q
theorem Iv:gQ X (compareOp .LtE) (pR fun i j=>.b8 (decide (i≤j))):=yG fun _ _ _ _ _ _ _ q=>le_int q
theorem yv:gQ X (compareOp .Gt) (pR fun i j=>.b8 (decide (j<i))):=yG fun _ _ _ _ _ _ _ q=>gt_int q
theorem Iw:gQ X (compareOp .GtE) (pR fun i j=>.b8 (decide (j≤i))):=yG fun _ _ _ _ _ _ _ q=>ge_int q
theorem SQ:gQ X (compareOp .Is) (fun x y H Q=>y=.cc∧Q (.b8 (decide (x=.cc))) H):=by
 intro pins s σ H x y v u Q I bu bL h
 obtain⟨rfl,q⟩:=h
 cases bL
 refine is_none_gen (fD I q ?_)
 cases x <;> first
  | (cases bu;rfl)
  | (obtain⟨t,rfl⟩:=bu;rfl)
theorem cN (b:Expr) {op:CmpOp}(h:op≠.In:=by decide) (aC:op≠.NotIn:=by decide):behindInMarks op b=false:=by
 have aJ:(op == CmpOp.In)=false:=by cases op <;> first | rfl | exact absurd rfl h
 have aQ:(op == CmpOp.NotIn)=false:=by cases op <;> first | rfl | exact absurd rfl aC
 cases b <;> simp[behindInMarks,aJ,aQ]
theorem pB {op:CmpOp}{r:iV}(aF:gQ X (compareOp op) r) (bf:b4 X a c5) (aa:b4 X b dB) (hm:behindInMarks op b=false):b4 X (.Compare a [op] [b] pos) (y3 r c5 dB):=by
 intro pins s σ H Q I h
 exact wpAny_Compare1 (CS bf aa I h fun v u s2 x y aq cF bu bL q=>aF pins s2 σ aq x y v u Q cF bu bL q) hm
def Tn (t:TE):TT:=fun σ H Q=>t σ H fun x af=>∃k,x=.b8 k∧Q k af
theorem cU {op:CmpOp}{r:iV}(aF:gQ X (compareOp op) r) (bf:b4 X a c5) (aa:b4 X b dB) (hm:behindInMarks op b=false):hW X (.Compare a [op] [b] pos) (Tn (y3 r c5 dB)):=by
 intro pins s σ H Q I h
 refine wpAny_isTrue_Compare1 (bV (bf pins s σ H _ I h) fun v s1 ⟨x,H1,aR,bx,bw⟩=>bV (aa pins s1 σ H1 _ aR bw) fun u s2 ⟨y,aq,cF,b7,aU⟩ =>
  bV (aF pins s2 σ aq x y v u _ cF bx b7 aU) fun c s3 ⟨z,a3,cS,kR,k,e,fp⟩=>?_) hm
 subst e
 cases kR
 exact wpAny_truthy_bool ⟨a3,cS,fp⟩
theorem yg:(sizeLine:Nat)<2 ^ 63:=by rw[sizeLine_eq];decide
theorem vals1 {x:V}{us:List Value}(r:Vals [x] us):∃u,us=[u]∧RelV x u:=by
 cases r with
 | cons bx b7=>cases b7;exact⟨_,rfl,bx⟩
theorem ps:lq X (.type "int") (fun xs H Q=>(∃i,xs=[.int i]∧Q (.int i) H)∨∃k,xs=[.b8 k]∧Q (.int (if k then 1 else 0)) H):=by
 intro pins s σ H xs us Q I r h
 rcases h with ⟨i,rfl,q⟩ | ⟨k,rfl,q⟩
 ·obtain⟨u,rfl,t,rfl⟩:=vals1 r
  exact call_int_int ⟨.int i,H,I,⟨_,rfl⟩,q⟩
 ·obtain⟨u,rfl,bx⟩:=vals1 r
  cases bx
  exact call_int_bool ⟨.int (if k then 1 else 0),H,I.tok _,⟨_,rfl⟩,q⟩
end
structure q7 (h:Heap) (x dx C:Addr) (d3:Str→Option Value):Prop where
 obj:h.get? x=some (instObj C dx)
 ns:h.Ns1 dx d3
 ne:dx≠x
theorem Qg {h:Heap}{dx:Addr}{d3:Str→Option Value}(n:h.Ns1 dx d3):∃e7,h.get? dx=some e7∧∀name,PySem.W.lookIn name e7=some (d3 name):=by
 obtain⟨o,aM,cL,aF,hd,a4,_,hm⟩:=n
 refine⟨o,aF,fun name=>?_⟩
 have e:=hm name
 unfold nsFind findBy at e
 rw[←Array.find?_toList]at e
 unfold PySem.W.lookIn
 rw[hd]
 dsimp only
 split
 ·rename_i y q
  rw[q]at e
  exact congrArg some e
 ·rename_i q
  rw[q]at e
  have a:aM.toList.any (·.refKey)=false:=by
   rw[List.any_eq_false]
   intro y cA
   obtain⟨z,t,Vl⟩:=a4 y (Array.mem_toList_iff.mp cA)
   simp[DictEntry.refKey,Vl]
  have YZ:¬aM.toList.any (·.refKey)=true:=by rw[a];exact Bool.false_ne_true
  rw[if_neg YZ]
  exact congrArg some e
theorem q7.look {h:Heap}{x dx C:Addr}{d3:Str→Option Value}(I:q7 h x dx C d3):∃e7,PySem.W.InstAt h x (instObj C dx) C (some e7)∧∀name,PySem.W.lookIn name e7=some (d3 name) :=
 let ⟨e7,aF,aG⟩:=Qg I.ns
 ⟨e7,⟨I.obj,rfl,rfl,aF⟩,aG⟩
section
variable {prog:Program}{w:World}{A:Around}{E:Value→Shared→Prop}{s:Shared}{K:PySem.W.Frag}{x dx C f:Addr}{d3:Str→Option Value}{name:Str}{v:Value}
theorem get_map {expr:Bool}{Q:Value→Shared→Prop}(X:K.In s.heap) (I:q7 s.heap x dx C d3) (cJ:PySem.W.plainGet K C name=true) (du:PySem.W.hasDictIn K C=true)
  (bf:findIn K (.ref C) name=some none) (bA:d3 name=some v) (pU:PySem.W.handedIn v=true) (h:Q v { s with toks:=s.toks+1 }) :
  wpAny (model prog w) A (getAttr (.ref x) name expr) Q E s:=by
 obtain⟨e7,J,aG⟩:=I.look
 exact PySem.W.get_value X J (PySem.W.plainGet_of cJ).1 (PySem.W.findObj_own du bf rfl (by rw[aG,bA])) pU h
theorem Rt {pl:Sem Bool}{Q:Value × List Value→Shared→Prop}(X:K.In s.heap) (I:q7 s.heap x dx C d3) (cJ:PySem.W.plainGet K C name=true)
  (hf:findIn K (.ref C) name=some (some (.ref f))) (bG:PySem.W.isFn K (.ref f)=true) (bA:d3 name=none) (h:Q (.ref f,[.ref x]) s) :
  wpAny (model prog w) A (getMethod (.ref x) name pl) Q E s:=by
 obtain⟨e7,J,aG⟩:=I.look
 exact PySem.W.method_fn X J (PySem.W.plainGet_of cJ).1 (PySem.W.plainGet_of cJ).2 hf (beq_iff_eq.mp bG) (by show (PySem.W.lookIn name e7).map (·.isSome)=some false;rw[aG,bA];rfl) h
theorem RI {ns:List Str}{Q:Unit→Shared→Prop}(X:K.In s.heap) (I:q7 s.heap x dx C d3)
  (aS:findIn K (.ref C) "__setattr__"=some (some (.builtin "object.__setattr__"))) (aD:PySem.W.plainOver K C=true) (bG:PySem.W.takerIn K C name=some none) (du:PySem.W.hasDictIn K C=true)
  (hw:PySem.Within d3 ns) (hsz:ns.length≤sizeLine)
  (h:∀h',q7 h' x dx C (fun y=>if y=name then some v else d3 y)→Heap.SameBut dx s.heap h'→Q () { s with heap:=h',toks:=s.toks+2 }) :
  wpAny (model prog w) A (setAttr (.ref x) name v) Q E s:=by
 obtain⟨e7,J,aG⟩:=I.look
 refine PySem.W.set_plain X J aS (PySem.W.osa_open (s:={ s with toks:=s.toks+1 }) (r:=none) X J aD bG fun b=>?_)
 obtain⟨cd,ai,DI⟩:=PySem.W.any_some du
 have aZ:s.heap.get? x=some ⟨.ref C,some dx,.plain, #[]⟩:=I.obj
 refine wpAny_bind (wpAny_pure (wpAny_bind (wpAny_bind (wpAny_loadPart aZ (wpAny_bind (PySem.W.Looks.here (s:={ s with toks:=s.toks+1 }) (PySem.W.looks_clsIn X ai) ?_))))))
 rw[DI]
 refine wpAny_pure (a:=some dx) (wpAny_bind (wpAny_pure (wpAny_bind ?_)))
 refine wpAny_nsSet1 (s:={ s with toks:=s.toks+1 }) I.ns fun h' zA jv=>?_
 obtain⟨aaT,Z4,Z5,WQ,W9,W_⟩:=zA.count (PySem.Within.cons name v hw)
 refine wpAny_bind (wpAny_lookBehind WQ (by rw[W9];exact pastItsLine_dict (le_trans W_ (by rw[length_cons];omega))) ?_)
 exact wpAny_pure (h _ ⟨(jv.2 _ (Ne.symm I.ne)).trans I.obj,zA,I.ne⟩ jv)
theorem Rk {R:Result→Shared→Prop}{vs:List Value}{kw:List (Str × Value)}(X:K.In s.heap) (hm:PySem.W.makesIn K C=true)
  (aW:findIn K (.ref C) "__init__"=some (some (.ref f))) (hf:PySem.W.typeIn K (.ref f)=some (.type "function"))
  (h:codeAny (model prog w) (A.under (.builtin "type.__call__" ⟨.ref C::vs,kw⟩)) (.call (.ref f) ⟨.ref (s.heap.objs.size+1)::vs,kw⟩) (PySem.W.InitBack (s.heap.objs.size+1) R)
   { s with heap:=(s.heap.push emptyDict).push (instObj C s.heap.objs.size) }) :
  codeAny (model prog w) A (.call (.ref C) ⟨vs,kw⟩) R s:=by
 obtain⟨du,g,d,t,os⟩:=s
 exact PySem.W.make_core (PySem.W.makes_of X hm) (PySem.W.looks_findIn X aW) (fun self=>PySem.W.bind_fn X self hf) (.inl rfl) h
end
def dM (f:Str) (v:V):List (Str × V)→List (Str × V)
 | []=>[(f,v)]
 | (g,x)::r=>if g=f then (g,v)::r else (g,x)::dM f v r
theorem qy (f g:Str) (v:V):∀bF:List (Str × V),(dM f v bF).lookup g=if g=f then some v else bF.lookup g
 | []=>by
  show List.lookup g [(f,v)]=_
  by_cases h:g=f
  ·have aa:(g == f)=true:=beq_iff_eq.mpr h
   simp only[List.lookup,aa,if_pos h]
  ·have aa:(g == f)=false:=beq_eq_false_iff_ne.mpr h
   simp only[List.lookup,aa,if_neg h]
 | (k,x)::r=>by
  have dt:=qy f g v r
  rw[show dM f v ((k,x)::r)=(if k=f then (k,v)::r else (k,x)::dM f v r) from rfl]
  by_cases a4:k=f
  ·rw[if_pos a4]
   by_cases h:g=k
   ·have aa:(g == k)=true:=beq_iff_eq.mpr h
    simp only[List.lookup,aa,if_pos (h.trans a4)]
   ·have aa:(g == k)=false:=beq_eq_false_iff_ne.mpr h
    simp only[List.lookup,aa,if_neg (fun e:g=f=>h (e.trans a4.symm))]
  ·rw[if_neg a4]
   by_cases h:g=k
   ·have aa:(g == k)=true:=beq_iff_eq.mpr h
    simp only[List.lookup,aa,if_neg (fun e:g=f=>a4 (h.symm.trans e))]
   ·have aa:(g == k)=false:=beq_eq_false_iff_ne.mpr h
    simp only[List.lookup,aa]
    exact dt
theorem AS (f:Str) (v:V):∀bF:List (Str × V),f∈(dM f v bF).map (·.1)∧∀g,g∈bF.map (·.1)→g∈(dM f v bF).map (·.1)
 | []=>⟨by simp[dM],fun g h=>by simp at h⟩
 | (k,x)::r=>by
  obtain⟨hx,kj⟩:=AS f v r
  rw[show dM f v ((k,x)::r)=(if k=f then (k,v)::r else (k,x)::dM f v r) from rfl]
  by_cases a4:k=f
  ·rw[if_pos a4]
   subst a4
   exact⟨by simp,fun g h=>by simpa using h⟩
  ·rw[if_neg a4]
   refine⟨?_,fun g h=>?_⟩
   ·rw[map_cons]
    exact mem_cons_of_mem _ hx
   ·rw[map_cons]at h ⊢
    rcases mem_cons.mp h with e | e
    ·exact mem_cons.mpr (.inl e)
    ·exact mem_cons_of_mem _ (kj g e)
theorem F3 (f:Str) (v:V):∀bF:List (Str × V),(dM f v bF).length≤bF.length+1
 | []=>by simp[dM]
 | (k,x)::r=>by
  have dt:=F3 f v r
  rw[show dM f v ((k,x)::r)=(if k=f then (k,v)::r else (k,x)::dM f v r) from rfl]
  by_cases a4:k=f
  ·rw[if_pos a4,length_cons,length_cons];omega
  ·rw[if_neg a4,length_cons,length_cons];omega
theorem h2.some_of {v:V}{o:Option Value}(r:h2 (some v) o):∃u,o=some u∧RelV v u:=by
 cases o with
 | none=>exact (show False from r).elim
 | some u=>exact⟨u,rfl,r⟩
theorem h2.none_of {o:Option Value}(r:h2 none o):o=none:=by
 cases o with
 | none=>rfl
 | some u=>exact (show False from r).elim
theorem Qp {v:V}{u:Value}(r:RelV v u):PySem.W.handedIn u=true:=by
 cases v with
 | cc=>cases (show u=Value.none from r);rfl
 | b8 b=>cases (show u=Value.bool b from r);rfl
 | int i=>obtain⟨t,e⟩:=(show ∃t,u=Value.int i t from r);cases e;rfl
 | str x=>obtain⟨t,e⟩:=(show ∃t,u=Value.str x t from r);cases e;rfl
 | lP b=>obtain⟨t,e⟩:=(show ∃t,u=Value.bytes b t from r);cases e;rfl
 | p2 b=>obtain⟨t,e⟩:=(show ∃t,u=Value.float b t from r);cases e;rfl
 | ref a=>cases (show u=Value.ref a from r);rfl
 | ty n=>cases (show u=Value.type n from r);rfl
section
variable {P:Program}{w:World}{H af:aj}{h h':Heap}{a C dx:Addr}{bF s_:List (Str × V)}
theorem uk (bC:ep P w H h) (e:H a=some (.ins C dx bF)):∃d3,q7 h a dx C d3∧(∀f,h2 (bF.lookup f) (d3 f))∧PySem.Within d3 (bF.map (·.1))∧bF.length≤1000∧H dx=some (.own a):=by
 obtain⟨d,z,ne,bT,d3,n,r,q⟩:=(show fa P w H h a (.ins C dx bF) from bC a _ e)
 exact⟨d3,⟨bT,n,ne⟩,r,q,z,d⟩
end
structure j7 (K:PySem.W.Frag) (C:Addr):Prop where
 cu:PySem.W.plainGet K C Str.empty=true
 hd:PySem.W.hasDictIn K C=true
 po:PySem.W.plainOver K C=true
 oS:findIn K (.ref C) "__setattr__"=some (some (.builtin "object.__setattr__"))
theorem j7.get {K:PySem.W.Frag}{C:Addr}(c:j7 K C) (f:Str):PySem.W.plainGet K C f=true:=c.cu
def iI (K:PySem.W.Frag) (C:Addr) (f:Str):Prop:=findIn K (.ref C) f=some none
theorem iI.eK {K:PySem.W.Frag}{C:Addr}{f:Str}(n:iI K C f):PySem.W.takerIn K C f=some none:=by
 unfold PySem.W.takerIn
 rw[show findIn K (.ref C) f=some none from n]
 rfl
structure aaM (K:PySem.W.Frag) (C:Addr) (f:Str) (v:V) (u:Value):Prop where
 at_:findIn K (.ref C) f=some (some u)
 rel:RelV v u
 get:PySem.W.specialIn K u "__get__"=some none
 Fc:PySem.W.copiedNames.contains f=false
structure Meth (K:PySem.W.Frag) (C:Addr) (m:Str) (f:Addr):Prop where
 at_:findIn K (.ref C) m=some (some (.ref f))
 fn:PySem.W.isFn K (.ref f)=true
 bK:keepIn K (.ref f)=true
section
variable {X:br}{pins:List (Addr × Obj)}{σ:St}{H:aj}{s:Shared}{a C dx:Addr}{bF:List (Str × V)}{f:Str}{v:V}{A:Around}{E:Value→Shared→Prop}
theorem Gf {b:Bool}{Q:Value→Shared→Prop}(I:Inv X pins σ H s) (e:H a=some (.ins C dx bF)) (c:j7 X.K C) (n:iI X.K C f) (l:bF.lookup f=some v)
  (h:∀u aL,Inv X pins σ H aL→RelV v u→Q u aL):wpAny (model X.prog X.w) A (getAttr (.ref a) f b) Q E s:=by
 obtain⟨d3,O,r,_,_,_⟩:=uk I.bC e
 obtain⟨u,bp,dW⟩:=h2.some_of (v:=v) (o:=d3 f) (by rw[←l];exact r f)
 exact get_map I.fJ O (c.get f) c.hd n bp (Qp dW) (h u _ (I.tok _) dW)
theorem AL {m:Str}{g:Addr}{pl:Sem Bool}{Q:Value × List Value→Shared→Prop}(I:Inv X pins σ H s) (e:H a=some (.ins C dx bF)) (c:j7 X.K C) (k:Meth X.K C m g) (l:bF.lookup m=none)
  (h:Q (.ref g,[.ref a]) s):wpAny (model X.prog X.w) A (getMethod (.ref a) m pl) Q E s:=by
 obtain⟨d3,O,r,_,_,_⟩:=uk I.bC e
 have aN:d3 m=none:=h2.none_of (by rw[←l];exact r m)
 exact Rt I.fJ O (c.get m) k.at_ k.fn aN h
theorem F9 {y:V}{u:Value}{Q:Unit→Shared→Prop}(I:Inv X pins σ H s) (e:H a=some (.ins C dx bF)) (c:j7 X.K C) (n:iI X.K C f) (aG:bF.length<1000) (bL:RelV y u)
  (h:∀aL,Inv X pins σ (upd H a (.ins C dx (dM f y bF))) aL→Q () aL):wpAny (model X.prog X.w) A (setAttr (.ref a) f u) Q E s:=by
 obtain⟨d3,O,r,hh,_,aF⟩:=uk I.bC e
 have hz:(bF.map (·.1)).length≤sizeLine:=by rw[length_map,sizeLine_eq];omega
 refine RI I.fJ O c.oS c.po n.eK c.hd hh hz fun h' Fg mS=>h _ ?_
 have hd:∃o,h'.get? dx=some o:=let ⟨o,_,_,dH,_⟩:=Fg.ns;⟨o,dH⟩
 refine I.write (x:=a) (e:=dx) (by rw[e];exact True.intro) (.inr aF) (fun b q aa z=>(mS.2 b aa).trans z) hd ?_
 refine⟨by rw[ay O.ne];exact aF,?_,O.ne,Fg.obj,_,Fg.ns,fun g=>?_,fun g cJ=>?_⟩
 ·have:=F3 f y bF;omega
 ·show h2 ((dM f y bF).lookup g) (if g=f then some u else d3 g)
  rw[qy]
  by_cases q:g=f
  ·rw[if_pos q,if_pos q];exact bL
  ·rw[if_neg q,if_neg q];exact r g
 ·by_cases q:g=f
  ·rw[q];exact (AS f y bF).1
  ·refine (AS f y bF).2 g (hh g fun z=>cJ ?_)
   show (if g=f then some u else d3 g)=none
   rw[if_neg q];exact z
theorem Inv.made (I:Inv X pins σ H s):Inv X pins σ (upd (upd H s.heap.objs.size (.own (s.heap.objs.size+1))) (s.heap.objs.size+1) (.ins C s.heap.objs.size []))
  { s with heap:=(s.heap.push emptyDict).push (instObj C s.heap.objs.size) }:=by
 have aJ:(s.heap.push emptyDict).get? s.heap.objs.size=some emptyDict:=get?_push_size s.heap rfl
 have aQ:((s.heap.push emptyDict).push (instObj C s.heap.objs.size)).get? (s.heap.objs.size+1)=some (instObj C s.heap.objs.size):=by
  have:=get?_push_size (s.heap.push emptyDict) (o:=instObj C s.heap.objs.size) rfl
  rwa [size_push]at this
 have b9:(s.heap.push emptyDict).Ns s.heap.objs.size (fun _=>none):=⟨emptyDict, #[],_,aJ,rfl,(fun e he=>absurd he (by simp)),fun _=>rfl⟩
 have aR:=I.laid (a:=s.heap.objs.size) (o:=.own (s.heap.objs.size+1)) (h':=s.heap.push emptyDict) (t':=s.toks) (fun b u q=>get?_push_of_some _ q) (le_refl _) ⟨_,aJ⟩
 refine aR.laid (a:=s.heap.objs.size+1) (o:=.ins C s.heap.objs.size []) (t':=s.toks) (fun b u q=>get?_push_of_some _ q) (le_of_eq (size_push _ _)) ?_
 have ne:s.heap.objs.size≠s.heap.objs.size+1:=ne_of_lt (Nat.lt_succ_self _)
 refine⟨by rw[ay ne,aT],zero_le _,ne,aQ,fun _=>none,(Heap.Ns1.of_empty b9).at fun o q=>get?_push_of_some _ q,fun _=>True.intro,fun y cA=>absurd rfl cA⟩
theorem Sg {prog:Program}{w:World}{env:Env}{e:Expr}{f:Str}{pos:Pos}{s:Shared}{Q:Value→Shared→Prop}(aa:attributeBase e f env (eval e env)=eval e env)
  (h:wpAny (model prog w) A (eval e env) (fun o c2=>wpAny (model prog w) A (getAttr o f true) Q E c2) E s):wpAny (model prog w) A (eval (.Attribute e f pos) env) Q E s :=
 Attribute_any_ h (by rw[arm_eval_Attribute,aa])
end
def Ux (K:PySem.W.Frag) (c5:TE) (f:Str):TE:=fun σ H Q=>c5 σ H fun x H1=>∃a C dx bF v,x=.ref a∧H1 a=some (.ins C dx bF)∧j7 K C∧iI K C f∧bF.lookup f=some v∧Q v H1
def UP (K:PySem.W.Frag) (c5 iC:TE) (f:Str):d8:=fun D σ H=>iC σ H fun y H1=>c5 σ H1 fun x aq=>∃a C dx bF,x=.ref a∧aq a=some (.ins C dx bF)∧j7 K C∧iI K C f∧bF.length<1000 ∧
 D.c9 σ (upd aq a (.ins C dx (dM f y bF)))
def CW (X:br) (op:Operator) (ja:V→V→aj→ct→Prop):Prop :=
 ∀(pins:List (Addr × Obj)) (s:Shared) (σ:St) (H:aj) (x y:V) (u v:Value) (Q:ct),Inv X pins σ H s→RelV x u→RelV y v→ja x y H Q→wpAny (model X.prog X.w) X.A (inplaceOp op u v) (g8 X pins σ Q) X.dp s
def RP (K:PySem.W.Frag) (c5 iC:TE) (ja:V→V→aj→ct→Prop) (f:Str):d8:=fun D σ H=>c5 σ H fun x H1=>∃a C dx bF v,x=.ref a∧H1 a=some (.ins C dx bF)∧j7 K C∧iI K C f∧bF.lookup f=some v ∧
 iC σ H1 fun y aq=>ja v y aq fun z a3=>∃D5 s_,a3 a=some (.ins C D5 s_)∧s_.length<1000∧D.c9 σ (upd a3 a (.ins C D5 (dM f z s_)))
section
variable {X:br}{o e value:Expr}{f:Str}{pos pos' Ja:Pos}{c5 iC:TE}
theorem e5 (he:b4 X e c5) (aa:attributeBase e f X.env (eval e X.env)=eval e X.env):b4 X (.Attribute e f pos) (Ux X.K c5 f):=by
 intro pins s σ H Q I h
 refine Sg aa (bV (he pins s σ H _ I h) fun u s1 ⟨x,H1,aR,bu,a,C,dx,bF,v,ex,az,c,n,l,q⟩=>?_)
 subst ex
 obtain rfl:u=Value.ref a:=bu
 exact Gf aR az c n l fun lR s2 cF dW=>⟨v,H1,cF,dW,q⟩
theorem mc (bf:b4 X o c5) (bA:b4 X value iC) (aS:swapsWith value (some (.Attribute o f pos')) pos.line X.env=pure false):jg X (.Assign [.Attribute o f pos'] value pos) (UP X.K c5 iC f):=by
 intro pins s σ H D I h
 refine plainObj_wpAny_Assign_Attribute (bV (bA pins s σ H _ I h) fun u s1 ⟨y,H1,aR,bL,q⟩=>bV (bf pins s1 σ H1 _ aR q) fun bW s2 ⟨x,aq,cF,bu,a,C,dx,bF,ex,az,c,n,l,aU⟩=>?_) aS
 subst ex
 obtain rfl:bW=Value.ref a:=bu
 exact F9 cF az c n l bL fun s3 cS=>⟨σ,_,cS,aU⟩
theorem xu {op:Operator}{ja:V→V→aj→ct→Prop}(bf:b4 X o c5) (bA:b4 X value iC) (oA:CW X op ja):jg X (.AugAssign (.Attribute o f Ja) op value pos) (RP X.K c5 iC ja f):=by
 intro pins s σ H D I h
 refine wpAny_AugAssign_AttributeAny (bV (bf pins s σ H _ I h) fun bW s1 ⟨x,H1,aR,bu,a,C,dx,bF,v,ex,az,c,n,l,q⟩=>?_)
 subst ex
 obtain rfl:bW=Value.ref a:=bu
 refine Gf aR az c n l fun u s2 cF dW=>bV (bA pins s2 σ H1 _ cF q) fun iB s3 ⟨y,aq,cS,bL,fp⟩=>bV (oA pins s3 σ aq v y u iB _ cS dW bL fp) fun rH s4 ⟨z,a3,gL,wc,D5,s_,vP,Yx,jb⟩=>?_
 exact F9 gL vP c n Yx wc fun s5 o_=>⟨σ,_,o_,jb⟩
def UY:V→V→aj→ct→Prop:=fun x y H Q=>∃i j,x=.int i∧y=.int j∧Q (.int (i+j)) H
def UR:V→V→aj→ct→Prop:=fun x y H Q=>∃i j,x=.int i∧y=.int j∧Q (.int (i - j)) H
theorem BZ:CW X .Add UY:=by
 rintro pins s σ H x y u v Q I bu bL ⟨i,j,rfl,rfl,q⟩
 obtain⟨t,rfl⟩:=(show ∃t,u=Value.int i t from bu)
 obtain⟨t',rfl⟩:=(show ∃t',v=Value.int j t' from bL)
 exact PyProof.Rows.iadd_int ⟨.int (i+j),H,I.tok _,⟨_,rfl⟩,q⟩
theorem S8:CW X .Sub UR:=by
 rintro pins s σ H x y u v Q I bu bL ⟨i,j,rfl,rfl,q⟩
 obtain⟨t,rfl⟩:=(show ∃t,u=Value.int i t from bu)
 obtain⟨t',rfl⟩:=(show ∃t',v=Value.int j t' from bL)
 exact PyProof.Rows.isub_int ⟨.int (i - j),H,I.tok _,⟨_,rfl⟩,q⟩
theorem Zi {pl:Sem Bool}{m:Str}{apos:Pos}{args:List Expr}{pins:List (Addr × Obj)}{s:Shared}{σ:St}{H:aj}{Q:Value→Shared→Prop}{bS:TE}(he:b4 X e bS) (I:Inv X pins σ H s)
  (h:bS σ H fun x H1=>∃a C dx bF g,x=.ref a∧H1 a=some (.ins C dx bF)∧j7 X.K C∧Meth X.K C m g∧bF.lookup m=none ∧
   ∀s1,Inv X pins σ H1 s1→wpAny (model X.prog X.w) X.A (callWith pos (.ref g) [.ref a] (backTo pos (starEach args X.env)) (backToKw pos (keywordEach [] X.env))) Q X.dp s1)
  (bG:eval (.Call (.Attribute e m apos) args [] pos) X.env=(do
   let bW ← eval e X.env
   standAt apos.atName
   let (f,first) ← holding [bW] (getMethod bW m pl)
   callWith pos f first (backTo pos (starEach args X.env)) (backToKw pos (keywordEach [] X.env)))) :
  wpAny (model X.prog X.w) X.A (eval (.Call (.Attribute e m apos) args [] pos) X.env) Q X.dp s:=by
 refine PySem.W.methodCall_KW (pl:=pl) (bV (he pins s σ H _ I h) fun u s1 ⟨x,H1,aR,bu,a,C,dx,bF,g,ex,az,c,k,l,q⟩=>?_) bG
 subst ex
 obtain rfl:u=Value.ref a:=bu
 exact AL aR az c k l (q s1 aR)
end
section
variable {X:br}{pins:List (Addr × Obj)}{σ:St}{H:aj}{s:Shared}{A:Around}{E:Value→Shared→Prop}{Q:Value→Shared→Prop}{c:Value}{b:Bool}
inductive iK (K:PySem.W.Frag) (H:aj):V→Value→Prop where
 | cc:iK K H .cc (.type "NoneType")
 | b8 (x:Bool):iK K H (.b8 x) (.type "bool")
 | int (i:Int):iK K H (.int i) (.type "int")
 | str (x:Str):iK K H (.str x) (.type "str")
 | p2 (x:UInt64):iK K H (.p2 x) (.type "float")
 | lst {a:Addr} {xs:List V} (e:H a=some (.lst xs)):iK K H (.ref a) (.type "list")
 | iN {a:Addr} {o:Obj} {xs:List V} (e:H a=some (.iN o (.lst xs))):iK K H (.ref a) (.type "list")
 | tup {a:Addr} {xs:List V} (e:H a=some (.tup xs)):iK K H (.ref a) (.type "tuple")
 | b2 {a:Addr} {kvs:List (Key × V)} (e:H a=some (.b2 kvs)):iK K H (.ref a) (.type "dict")
 | hj {a:Addr} {kvs:List (List Key × V)} (e:H a=some (.hj kvs)):iK K H (.ref a) (.type "dict")
 | ins {a C dx:Addr} {bF:List (Str × V)} (e:H a=some (.ins C dx bF)) (cl:j7 K C) (bf:findIn K (.ref C) "__class__"=some (some (.builtin "object.__class__")))
   (aN:PySem.W.specialIn K (.builtin "object.__class__") "__get__"=some (some (.builtin "getset_descriptor.__get__"))) (i9:PySem.W.takesIn K (.builtin "object.__class__")=some true)
   (hm:PySem.W.mroIn K C (.type "object")=some true):iK K H (.ref a) (.ref C)
theorem Qk {x:V}{u t:Value}(I:Inv X pins σ H s) (bu:RelV x u) (ty:iK X.K H x t) (e:kitOne X.K t c=some b) (h:∀bz,Q (.bool b) { s with toks:=bz }) :
  wpAny (model X.prog X.w) A (call (.builtin "isinstance") [u,c]) Q E s:=by
 cases ty with
 | cc=>cases (show u=Value.none from bu);exact kia_one PySem.W.kitx_none I.fJ True.intro e (fun z=>nomatch z) h
 | b8 y=>cases (show u=Value.bool y from bu);exact kia_one PySem.W.kitx_bool I.fJ True.intro e (fun z=>nomatch z) h
 | int i=>obtain⟨t,q⟩:=(show ∃t,u=Value.int i t from bu);cases q;exact kia_one PySem.W.kitx_int I.fJ True.intro e (fun z=>nomatch z) h
 | str y=>obtain⟨t,q⟩:=(show ∃t,u=Value.str y t from bu);cases q;exact kia_one PySem.W.kitx_str I.fJ True.intro e (fun z=>nomatch z) h
 | p2 y=>obtain⟨t,q⟩:=(show ∃t,u=Value.float y t from bu);cases q;exact kia_one PySem.W.kitx_float I.fJ True.intro e (fun z=>nomatch z) h
 | @lst a xs az =>
  cases (show u=Value.ref a from bu)
  obtain⟨_,_,n,_,av⟩:=(show fa X.prog X.w H s.heap a (.lst xs) from I.bC a _ az)
  exact kia_one PySem.W.kitx_list I.fJ ⟨_,av,rfl⟩ e (fun z=>nomatch z) h
 | @iN a bT xs az =>
  cases (show u=Value.ref a from bu)
  obtain⟨_,_,_,n,_,av⟩:=(show fa X.prog X.w H s.heap a (.iN bT (.lst xs)) from I.bC a _ az)
  exact kia_one PySem.W.kitx_list I.fJ ⟨_,av,rfl⟩ e (fun z=>nomatch z) h
 | @tup a xs az =>
  cases (show u=Value.ref a from bu)
  obtain⟨_,_,_,p⟩:=(show fa X.prog X.w H s.heap a (.tup xs) from I.bC a _ az)
  obtain⟨o,av,aC,_⟩:=p
  exact kia_one PySem.W.kitx_tuple I.fJ ⟨o,av,aC⟩ e (fun z=>nomatch z) h
 | @b2 a kvs az =>
  cases (show u=Value.ref a from bu)
  obtain⟨_,_,vs,_,p⟩:=(show fa X.prog X.w H s.heap a (.b2 kvs) from I.bC a _ az)
  obtain⟨o,aM,cL,av,aC,_⟩:=p
  exact kia_one PySem.W.kitx_dict I.fJ ⟨o,av,aC.1⟩ e (fun z=>nomatch z) h
 | @hj a kvs az =>
  cases (show u=Value.ref a from bu)
  obtain⟨_,_,xs,_,o,aM,cL,av,aC,_⟩:=(show fa X.prog X.w H s.heap a (.hj kvs) from I.bC a _ az)
  exact kia_one PySem.W.kitx_dict I.fJ ⟨o,av,aC.1⟩ e (fun z=>nomatch z) h
 | @ins a C dx bF az cl bf aN i9 hm =>
  cases (show u=Value.ref a from bu)
  obtain⟨d3,O,_⟩:=uk I.bC az
  obtain⟨e7,J,_⟩:=O.look
  exact kia_one (PySem.W.kitx_own (cl.get _) cl.hd bf aN i9 hm) I.fJ J e (fun z=>nomatch z) h
end
structure fS (k:Nat) (A:Around):Prop where
 hd:A.handled=none
 tF:A.depth+3 * k+5<recursionLimit
 un:A.units+16 * k+200<cLine
theorem fS.mono {j k:Nat}{A:Around}(r:fS k A) (h:j≤k):fS j A:=⟨r.hd,by have:=r.tF;omega,by have:=r.un;omega⟩
theorem fS.deeper {k:Nat}{A:Around}(r:fS (k+1) A) (env:Env):fS k (A.deeper env) :=
 ⟨r.hd,by have:=r.tF;show A.depth+1+3 * k+5<_;omega,by have:=r.un;show A.units+3+16 * k+200<_;omega⟩
theorem PL {A:Around}{C:Addr}{us:List Value}{kw:List (Str × Value)}:(A.under (.builtin "type.__call__" ⟨.ref C::us,kw⟩)).depth=A.depth+1:=by
 first | rfl | simp[Around.under,Code.weight,Code.isCreation,Code.isGuard,Code.isCaller,Code.frames,Code.isFrame,guardIds]
theorem PK {A:Around}{C:Addr}{us:List Value}{kw:List (Str × Value)}:(A.under (.builtin "type.__call__" ⟨.ref C::us,kw⟩)).units=A.units+1:=by
 first | rfl | simp[Around.under,Code.cUnits,Code.frames,Code.isFrame]
theorem fS.make {k:Nat}{A:Around}(r:fS (k+1) A) (C:Addr) (us:List Value) (kw:List (Str × Value)):fS k (A.under (.builtin "type.__call__" ⟨.ref C::us,kw⟩)) :=
 ⟨r.hd,by have:=r.tF;rw[PL];omega,by have:=r.un;rw[PK];omega⟩
theorem fS.depth {k:Nat}{A:Around}(r:fS k A):A.depth<recursionLimit:=by have:=r.tF;omega
theorem fS.units {k:Nat}{A:Around}(r:fS k A):A.units+64<cLine:=by have:=r.un;omega
def Jc:hR:=fun _ H Q=>Q [] H
def Tv (c5:TE) (EL:hR):hR:=fun σ H Q=>c5 σ H fun x H1=>EL σ H1 fun xs aq=>Q (x::xs) aq
section
variable {X:br}{e:Expr}{aM:List Expr}{bS:TE}{t:hR}{pos:Pos}
theorem aK:kZ X [] Jc:=fun _ _ _ _ H Q I h=>Calls.spliced_nil ⟨[],H,I,.nil,h⟩
theorem ak (bf:b4 X e bS) (aI:kZ X aM t) (aS:starEach (e::aM) X.env=(false,eval e X.env)::starEach aM X.env:=by rfl):kZ X (e::aM) (Tv bS t):=by
 intro pos pins s σ H Q I h
 rw[aS]
 show wpAny _ _ (spliced ((false,eval e X.env)::backTo pos (starEach aM X.env))) _ _ s
 refine Calls.spliced_cons (bV (bf pins s σ H _ I h) fun u s1 ⟨x,H1,aR,bx,bw⟩=>?_)
 exact bV (aI pos pins s1 σ H1 _ aR bw) fun us s2 ⟨xs,aq,cF,b7,aU⟩=>⟨x::xs,aq,cF,.cons bx b7,aU⟩
def Up (t:hR):TE:=fun σ H Q=>t σ H fun xs H1=>xs.length≤sizeLine∧∀p,H1 p=none→Q (.ref p) (upd H1 p (.tup xs))
def Ut (t:hR):TE:=fun σ H Q=>t σ H fun xs H1=>xs.length≤sizeLine∧∀p,H1 p=none→Q (.ref p) (upd H1 p (.lst xs))
theorem fQ {rF} (h:kZ X aM t):b4 X (.Tuple aM rF pos) (Up t):=by
 intro pins s σ H Q I bN
 refine wpAny_Tuple_spliced (bV (h pos pins s σ H _ I bN) fun us s1 ⟨xs,H1,aR,r,z,q⟩=>⟨by rw[←r.length];exact z,?_⟩)
 have hf:H1 s1.heap.objs.size=none:=aR.bC.fresh (le_refl _)
 refine⟨.ref s1.heap.objs.size,upd H1 s1.heap.objs.size (.tup xs),aR.laid (t':=s1.toks) (fun b u e=>get?_push_of_some _ e) (le_refl _) ?_,rfl,q _ hf⟩
 exact⟨z,us,r,⟨_,get?_push_size _ rfl,rfl,_,rfl⟩⟩
theorem fC (h:kZ X aM t):b4 X (.List aM pos) (Ut t):=by
 intro pins s σ H Q I bN
 refine wpAny_List_spliced (bV (h pos pins s σ H _ I bN) fun us s1 ⟨xs,H1,aR,r,z,q⟩=>⟨by rw[←r.length];exact z,?_⟩)
 have hf:H1 s1.heap.objs.size=none:=aR.bC.fresh (le_refl _)
 refine⟨.ref s1.heap.objs.size,upd H1 s1.heap.objs.size (.lst xs),aR.laid (t':=s1.toks) (fun b u e=>get?_push_of_some _ e) (le_refl _) ?_,rfl,q _ hf⟩
 exact⟨z,us,0,r,get?_push_size _ rfl⟩
end
abbrev dg:=List V→aj→ct→gh→Prop
abbrev lQ:=List Env→aj→Shared→gh→Value→Shared→Prop
structure q9 (P:Program) (w:World) (K:PySem.W.Frag) (mg:Str→Option Value) (base:Heap) (A:Around) (outer:List Env) (s:Shared) (H:aj):Prop where
 frames:A.frames=some outer
 mod:Mod K mg base
 bs:∀b o,base.get? b=some o→s.heap.get? b=some o∧H b=none
 iO:base.objs.size≤s.heap.objs.size
 hF:s.heap.FunFrames base outer
 jz:∀b∈fo outer,H b=none
 bC:ep P w H s.heap
 bare:AllBare s.gens
def Fz (outer:List Env) (P:Program) (w:World) (H:aj) (s:Shared) (Q:ct) (u:Value) (aL:Shared):Prop :=
 ∃v af,aL.os=s.os∧AllBare aL.gens∧gW (fo outer) [] H af s.heap aL.heap∧ep P w af aL.heap∧RelV v u∧Q v af
def bI (eG:lQ) (outer:List Env) (P:Program) (w:World) (H:aj) (s:Shared) (Q:ct) (E:gh) (r:Result) (aL:Shared):Prop :=
 match r with
 | .ok (.ret u)=>Fz outer P w H s Q u aL
 | .ok _=>False
 | .error e=>eG outer H s E e aL
structure a5 (P:Program) (w:World) (K:PySem.W.Frag) (mg:Str→Option Value) (base:Heap) (eG:lQ) (k:Nat) (f:Addr) (fd:FuncData) (aB:List Str) (sp:dg):Prop where
 len:∀vs H Q E,sp vs H Q E→vs.length=aB.length
 run:∀(A:Around) (outer:List Env) (s:Shared) (H:aj) (args:Args) (us:List Value) (vs:List V) (Q:ct) (E:gh),fS k A→q9 P w K mg base A outer s H→BindsTo s fd args (aB.zip us)→Vals vs us→sp vs H Q E →
  codeAny (model P w) A (.call (.ref f) args) (bI eG outer P w H s Q E) s
theorem q9.make {P:Program}{w:World}{K:PySem.W.Frag}{mg:Str→Option Value}{base:Heap}{A:Around}{outer:List Env}{s:Shared}{H:aj}(e:q9 P w K mg base A outer s H) (C:Addr) (us:List Value) (kw:List (Str × Value)) :
  q9 P w K mg base (A.under (.builtin "type.__call__" ⟨.ref C::us,kw⟩)) outer s H:=⟨by first | exact e.frames | (simpa[Around.under,Code.envs,Code.isFrame,pushEnvs] using e.frames),e.mod,e.bs,e.iO,e.hF,e.jz,e.bC,e.bare⟩
section
variable {X:br}{pins:List (Addr × Obj)}{σ:St}{H:aj}{s aL:Shared}
theorem Inv.JO (I:Inv X pins σ H s):q9 X.prog X.w X.K X.mg X.base X.A X.stack s H :=
 ⟨I.ok.frames,I.ok.mod,I.bs,le_trans I.ok.iO I.ez,I.stack,I.xP,I.bC,I.bare⟩
theorem Inv.after {Q:ct}{u:Value}(I:Inv X pins σ H s) (h:Fz X.stack X.prog X.w H s Q u aL):g8 X pins σ Q u aL:=by
 obtain⟨v,af,os,bare,un,bC,r,q⟩:=h
 obtain⟨du,g,d,t,os'⟩:=aL
 obtain rfl:os'=s.os:=os
 exact⟨v,af,I.call (h':=du) (g':=g) (d':=d) (t':=t) (ch:=[]) un bC bare (fun b z=>absurd z (by simp)),r,q⟩
end
def Tz (sp:dg) (hs:List V) (E:gh) (t:hR):TE:=fun σ H Q=>t σ H fun vs H1=>sp (vs++hs) H1 Q E
def Ik (C:Addr) (m:Str) (sp:dg) (hs:List V) (E:gh) (c5:TE) (t:hR):TE:=fun σ H Q=>c5 σ H fun x H1=>∃a dx bF,x=.ref a∧H1 a=some (.ins C dx bF)∧bF.lookup m=none ∧
 t σ H1 fun vs aq=>sp (x::(vs++hs)) aq Q E
def Tr (C:Addr) (sp:dg) (hs:List V) (E:gh) (t:hR):TE:=fun σ H Q=>t σ H fun vs H1=>∀x dx,H1 x=none→H1 dx=none→dx≠x →
 sp (.ref x::(vs++hs)) (upd (upd H1 dx (.own x)) x (.ins C dx [])) (fun v aq=>v=.cc∧Q (.ref x) aq) E
def Binds (K:PySem.W.Frag) (fd:FuncData) (aB:List Str) (ds:List Value):Prop :=
 ∀(s:Shared) (us:List Value),K.In s.heap→(us++ds).length=aB.length→BindsTo s fd ⟨us,[]⟩ (aB.zip (us++ds))
theorem Binds.all {K:PySem.W.Frag}{fd:FuncData}{aB:List Str}(h:∀us:List Value,us.length=aB.length→bindArgs fd ⟨us,[]⟩=pure (aB.zip us)):Binds K fd aB []:=fun s us _ aG=>by
 rw[append_nil]at aG ⊢
 exact .of_eq (h us aG)
def Passes (eG:lQ) (X:br) (E:gh):Prop:=∀(pins:List (Addr × Obj)) (σ:St) (H:aj) (s:Shared) (e:Value) (aL:Shared),Inv X pins σ H s→eG X.stack H s E e aL→X.dp e aL
section
variable {X:br}{eG:lQ}{k:Nat}{f C:Addr}{fd:FuncData}{aB:List Str}{sp:dg}{hs:List V}{ds:List Value}{E:gh}{x m:Str}{p pos apos:Pos}{e o:Expr}{aM:List Expr}{c5:TE}{t:hR}
theorem BV {pins:List (Addr × Obj)}{σ:St}{H:aj}{s:Shared}{Q:ct}{us:List Value}{vs:List V}(F:a5 X.prog X.w X.K X.mg X.base eG k f fd aB sp) (aI:fS k X.A) (aa:Binds X.K fd aB ds) (hd:Vals hs ds) (aZ:Passes eG X E)
  (I:Inv X pins σ H s) (r:Vals vs us) (h:sp (vs++hs) H Q E):wpAny (model X.prog X.w) X.A (call (.ref f) us) (g8 X pins σ Q) X.dp s:=by
 have b7:Vals (vs++hs) (us++ds):=r.append hd
 have aG:(us++ds).length=aB.length:=by rw[←b7.length];exact F.len _ _ _ _ h
 refine wpAny_call (codeAny_mono (F.run X.A X.stack s H ⟨us,[]⟩ (us++ds) (vs++hs) Q E aI I.JO (aa s us I.fJ aG) b7 h) fun r aL bN=>?_)
 cases r with
 | error e=>exact aZ pins σ H s e aL I bN
 | ok fs =>
  cases fs with
  | ret u=>exact I.after bN
  | next=>exact False.elim bN
  | brk=>exact False.elim bN
  | cont=>exact False.elim bN
theorem dj (F:a5 X.prog X.w X.K X.mg X.base eG k f fd aB sp) (aI:fS k X.A) (cJ:iX X x) (hm:X.mg x=some (.ref f)) (a4:keepIn X.K (.ref f)=true) (aa:Binds X.K fd aB ds) (hd:Vals hs ds) (aZ:Passes eG X E)
  (bf:kZ X (e::aM) t) (rr:(x == ("__debug__":Str))=false:=by decide) (he:starEach (e::aM) X.env=(false,eval e X.env)::starEach aM X.env:=by rfl) (hc:(backTo pos (starEach aM X.env)).any (·.1)=false:=by rfl) :
  b4 X (.Call (.Name x p) (e::aM) [] pos) (Tz sp hs E t):=by
 intro pins s σ H Q I h
 refine wpAny_Call_Name_kw (qH I cJ hm ?_ rr)
 refine PySem.W.callWith_K (h₀:=X.base) I.ok.mod.sX a4 (bV (bf pos pins s σ H _ I h) fun us s1 ⟨vs,H1,aR,r,q⟩=>⟨aR.fJ,?_⟩) he hc
 exact BV F aI aa hd aZ aR r q
theorem fB {pl:Sem Bool}(he:b4 X o c5) (c:j7 X.K C) (hm:Meth X.K C m f) (F:a5 X.prog X.w X.K X.mg X.base eG k f fd aB sp) (aI:fS k X.A) (aa:Binds X.K fd aB ds) (hd:Vals hs ds) (aZ:Passes eG X E) (bf:kZ X (e::aM) t)
  (hb:starEach (e::aM) X.env=(false,eval e X.env)::starEach aM X.env:=by rfl) (hc:(backTo pos (starEach aM X.env)).any (·.1)=false:=by rfl)
  (bG:eval (.Call (.Attribute o m apos) (e::aM) [] pos) X.env=(do
   let bW ← eval o X.env
   standAt apos.atName
   let (f,first) ← holding [bW] (getMethod bW m pl)
   callWith pos f first (backTo pos (starEach (e::aM) X.env)) (backToKw pos (keywordEach [] X.env))):=by rfl) :
  b4 X (.Call (.Attribute o m apos) (e::aM) [] pos) (Ik C m sp hs E c5 t):=by
 intro pins s σ H Q I h
 refine PySem.W.methodCall_KW (pl:=pl) (bV (he pins s σ H _ I h) fun u s1 ⟨x,H1,aR,bu,a,dx,bF,ex,az,l,q⟩=>?_) bG
 subst ex
 obtain rfl:u=Value.ref a:=bu
 refine AL aR az c hm l ?_
 refine PySem.W.callWith_K (first:=[.ref a]) (h₀:=X.base) I.ok.mod.sX hm.bK (bV (bf pos pins s1 σ H1 _ aR q) fun us s2 ⟨vs,aq,cF,r,aU⟩=>⟨cF.fJ,?_⟩) hb hc
 exact BV (us:=.ref a::us) (vs:=.ref a::vs) F aI aa hd aZ cF (.cons rfl r) aU
theorem so {pl:Sem Bool}(he:b4 X o c5) (c:j7 X.K C) (hm:Meth X.K C m f) (F:a5 X.prog X.w X.K X.mg X.base eG k f fd aB sp) (aI:fS k X.A) (aa:Binds X.K fd aB ds) (hd:Vals hs ds) (aZ:Passes eG X E)
  (bG:eval (.Call (.Attribute o m apos) [] [] pos) X.env=(do
   let bW ← eval o X.env
   standAt apos.atName
   let (f,first) ← holding [bW] (getMethod bW m pl)
   callWith pos f first (backTo pos (starEach [] X.env)) (backToKw pos (keywordEach [] X.env))):=by rfl) :
  b4 X (.Call (.Attribute o m apos) [] [] pos) (Ik C m sp hs E c5 Jc):=by
 intro pins s σ H Q I h
 refine PySem.W.methodCall_KW (pl:=pl) (bV (he pins s σ H _ I h) fun u s1 ⟨x,H1,aR,bu,a,dx,bF,ex,az,l,q⟩=>?_) bG
 subst ex
 obtain rfl:u=Value.ref a:=bu
 refine AL aR az c hm l ?_
 exact PySem.W.callWith_K0 (first:=[.ref a]) aR.fJ hm.bK (BV (us:=[.ref a]) (vs:=[.ref a]) F aI aa hd aZ aR (.cons rfl .nil) q)
structure r6 (K:PySem.W.Frag) (C f:Addr):Prop where
 makes:PySem.W.makesIn K C=true
 init:findIn K (.ref C) "__init__"=some (some (.ref f))
 fn:PySem.W.isFn K (.ref f)=true
 bK:keepIn K (.ref C)=true
theorem QJ {pins:List (Addr × Obj)}{σ:St}{H:aj}{s:Shared}{Q:ct}{us:List Value}{vs:List V}(M:r6 X.K C f) (F:a5 X.prog X.w X.K X.mg X.base eG k f fd aB sp) (aI:fS (k+1) X.A) (aa:Binds X.K fd aB ds) (hd:Vals hs ds)
  (aZ:Passes eG X E) (I:Inv X pins σ H s) (r:Vals vs us)
  (h:∀x dx,H x=none→H dx=none→dx≠x→sp (.ref x::(vs++hs)) (upd (upd H dx (.own x)) x (.ins C dx [])) (fun v aq=>v=.cc∧Q (.ref x) aq) E) :
  wpAny (model X.prog X.w) X.A (call (.ref C) us) (g8 X pins σ Q) X.dp s:=by
 have bN:=h (s.heap.objs.size+1) s.heap.objs.size (I.bC.fresh (le_succ _)) (I.bC.fresh (le_refl _)) (ne_of_lt (Nat.lt_succ_self _))
 have cF:=Inv.made (C:=C) I
 have b7:Vals (V.ref (s.heap.objs.size+1)::(vs++hs)) (Value.ref (s.heap.objs.size+1)::(us++ds)):=.cons rfl (r.append hd)
 have aG:(Value.ref (s.heap.objs.size+1)::us++ds).length=aB.length:=by
  have e:=b7.length
  rw[F.len _ _ _ _ bN]at e
  exact e.symm
 refine wpAny_call (Rk (f:=f) I.fJ M.makes M.init (beq_iff_eq.mp M.fn) (codeAny_mono (F.run _ X.stack _ _ ⟨Value.ref (s.heap.objs.size+1)::us,[]⟩ (Value.ref (s.heap.objs.size+1)::(us++ds)) _ _ E (aI.make C us [])
  (cF.JO.make C us []) (aa _ (Value.ref (s.heap.objs.size+1)::us) cF.fJ aG) b7 bN) fun r aL vA=>?_))
 cases r with
 | error e=>exact aZ pins σ _ _ e aL cF vA
 | ok fs =>
  cases fs with
  | ret u =>
   obtain⟨v,af,cS,bD,ev,fp⟩:=cF.after vA
   subst ev
   exact⟨bD,⟨V.ref (s.heap.objs.size+1),af,cS,rfl,fp⟩⟩
  | next=>exact False.elim vA
  | brk=>exact False.elim vA
  | cont=>exact False.elim vA
theorem xX (M:r6 X.K C f) (F:a5 X.prog X.w X.K X.mg X.base eG k f fd aB sp) (aI:fS (k+1) X.A) (cJ:iX X x) (hm:X.mg x=some (.ref C)) (aa:Binds X.K fd aB ds) (hd:Vals hs ds) (aZ:Passes eG X E)
  (bf:kZ X (e::aM) t) (rr:(x == ("__debug__":Str))=false:=by decide) (he:starEach (e::aM) X.env=(false,eval e X.env)::starEach aM X.env:=by rfl) (hc:(backTo pos (starEach aM X.env)).any (·.1)=false:=by rfl) :
  b4 X (.Call (.Name x p) (e::aM) [] pos) (Tr C sp hs E t):=by
 intro pins s σ H Q I h
 refine wpAny_Call_Name_kw (qH I cJ hm ?_ rr)
 refine PySem.W.callWith_K (h₀:=X.base) I.ok.mod.sX M.bK (bV (bf pos pins s σ H _ I h) fun us s1 ⟨vs,H1,aR,r,q⟩=>⟨aR.fJ,?_⟩) he hc
 exact QJ M F aI aa hd aZ aR r q
end
section
variable {X:br}{eG:lQ}{k:Nat}{f C:Addr}{fd:FuncData}{aB ic:List Str}{sp:dg}{E:gh}{x m:Str}{p pos apos Zp:Pos}{e o:Expr}{aM:List Expr}{ZR:List Keyword}{bS c5:TE}{t bz:hR}{nm:Option Str}
structure Zl (K:PySem.W.Frag) (fd:FuncData) (aB ic:List Str) (g:List Value→List Value→List Value) (OD:List V→List V→List V):Prop where
 to:∀(s:Shared) (us ws:List Value),K.In s.heap→(g us ws).length=aB.length→BindsTo s fd ⟨us,ic.zip ws⟩ (aB.zip (g us ws))
 rel:∀{vs:List V} {us:List Value} {zs:List V} {ws:List Value},Vals vs us→Vals zs ws→Vals (OD vs zs) (g us ws)
variable {g:List Value→List Value→List Value}{OD:List V→List V→List V}
end
structure dE (N P:List Str) (sc:Scope):Prop where
 kind:sc.kind=.function
 co:sc.isCoroutine=false
 gen:sc.isGenerator=false
 bk:N.Nodup
 pre:N.take P.length=P
 par:∀x∈P,sc.names.lookup x=some .local∨sc.names.lookup x=some .cell
 SY:∀y∈sc.names,y.2≠.free
theorem GD {kindOf:Str→Option NameKind}{x:Str}:∀{binds:List (Str × Value)}{m:Str→Option Value},(∀v,(x,v)∉binds)→bindL kindOf binds m x=m x
 | [],_,_=>rfl
 | (n,v)::r,m,h=>by
  unfold bindL
  rw[GD fun w hw=>h w (mem_cons_of_mem _ hw)]
  split
  ·have:x≠n:=by rintro rfl;exact h v mem_cons_self
   simp[this]
  ·rfl
theorem GG {kindOf:Str→Option NameKind}{x:Str}:∀{binds:List (Str × Value)}{m:Str→Option Value},(∀v,(x,v)∉binds)→bindC kindOf binds m x=m x
 | [],_,_=>rfl
 | (n,v)::r,m,h=>by
  unfold bindC
  rw[GG fun w hw=>h w (mem_cons_of_mem _ hw)]
  split
  ·rfl
  ·have:x≠n:=by rintro rfl;exact h v mem_cons_self
   simp[this]
theorem GF {kindOf:Str→Option NameKind}{x:Str}{v:Value}:∀{P:List Str}{vs:List Value}{i:Nat}{m:Str→Option Value},P.Nodup→P[i]?=some x→vs[i]?=some v→kindOf x=some .local →
  bindL kindOf (P.zip vs) m x=some v
 | [],_,_,_,_,h,_,_=>by simp at h
 | _::_,[],_,_,_,_,h,_=>by simp at h
 | p::P,w::vs,0,m,bk,av,aC,a4=>by
  simp at av aC;subst av;subst aC
  show bindL kindOf ((p,w)::P.zip vs) m p=_
  unfold bindL
  rw[GD fun v bA=>(nodup_cons.mp bk).1 (of_mem_zip bA).1,if_pos a4]
  simp
 | p::P,w::vs,i+1,m,bk,av,aC,a4=>by
  show bindL kindOf ((p,w)::P.zip vs) m x=_
  unfold bindL
  exact GF (i:=i) (nodup_cons.mp bk).2 (by simpa using av) (by simpa using aC) a4
theorem GH {kindOf:Str→Option NameKind}{x:Str}{v:Value}:∀{P:List Str}{vs:List Value}{i:Nat}{m:Str→Option Value},P.Nodup→P[i]?=some x→vs[i]?=some v→kindOf x≠some .local →
  bindC kindOf (P.zip vs) m x=some v
 | [],_,_,_,_,h,_,_=>by simp at h
 | _::_,[],_,_,_,_,h,_=>by simp at h
 | p::P,w::vs,0,m,bk,av,aC,a4=>by
  simp at av aC;subst av;subst aC
  show bindC kindOf ((p,w)::P.zip vs) m p=_
  unfold bindC
  rw[GG fun v bA=>(nodup_cons.mp bk).1 (of_mem_zip bA).1,if_neg a4]
  simp
 | p::P,w::vs,i+1,m,bk,av,aC,a4=>by
  show bindC kindOf ((p,w)::P.zip vs) m x=_
  unfold bindC
  exact GH (i:=i) (nodup_cons.mp bk).2 (by simpa using av) (by simpa using aC) a4
def start (N:List Str) (vs:List V):St:=vs.map some++List.replicate (N.length - vs.length) none
def fm (eG:lQ) (P:Program) (w:World) (K:PySem.W.Frag) (mg:Str→Option Value) (base:Heap) (N:List Str) (qual:Str) (scope:Scope) (f:Addr) (cd:Value) (A:Around) (outer:List Env) (s:Shared) (H:aj) (E:gh):br where
 prog:=P
 w:=w
 K:=K
 mg:=mg
 base:=base
 A:=A.deeper (envOfC qual scope s.heap.objs.size f cd)
 N:=N
 ff:=s
 w4:=H
 env:=envOfC qual scope s.heap.objs.size f cd
 outer:=outer
 stack:=envOfC qual scope s.heap.objs.size f cd::outer
 ex:=[]
 calm:=true
 fn:=fun _=>true
 bR:=[]
 dp:=fun e aL=>wpAny (model P w) (A.deeper (envOfC qual scope s.heap.objs.size f cd)) (leaving (envOfC qual scope s.heap.objs.size f cd) e) (fun _ vc=>eG outer H s E e vc) (fun dH vc=>eG outer H s E dH vc) aL
theorem G8 {sc:Scope}{n:Nat}{x:Str}(h:sc.names.lookup x=some .cell):∃c,(cellsFrom n sc.names []).lookup x=some c:=by
 have q:=PySem.W.cellsFrom_some sc.names n [] (.inl h)
 exact Option.isSome_iff_exists.mp q
theorem Qm {eG:lQ}{P:Program}{w:World}{K:PySem.W.Frag}{mg:Str→Option Value}{base:Heap}{N aB:List Str}{qual:Str}{scope:Scope}{f:Addr}{cd:Value}{A:Around}{outer:List Env}{s s1:Shared}{H:aj}{E:gh}{us:List Value}{vs:List V}
  (S:dE N aB scope) (hd:A.handled=none) (e0:q9 P w K mg base A outer s H) (aG:vs.length=aB.length) (r:Vals vs us)
  (x:InCallC s s.heap.objs.size (bindL (envOfC qual scope s.heap.objs.size f cd).kindOf (aB.zip us) fun _=>none) (cellsFrom (s.heap.objs.size+1) scope.names []) (bindC (envOfC qual scope s.heap.objs.size f cd).kindOf (aB.zip us) fun _=>none) s1) :
  Inv (fm eG P w K mg base N qual scope f cd A outer s H E) [] (start N vs) H s1:=by
 have hc:aB.length≤N.length:=by have:=congrArg List.length S.pre;rw[length_take]at this;omega
 obtain⟨av,bz,rfl,a4⟩:=x.done
 have vl:∀b:Addr,b∉(fm eG P w K mg base N qual scope f cd A outer s H E).ex:=fun b z=>absurd (show b∈([]:List Addr) from z) (by simp)
 refine⟨⟨e0.mod,S.kind,rfl,rfl,le_refl _,fun y z c av aC=>?_,fun y cA=>?_,fun y c _ h=>?_,fun _=>hd,Around.frames_deeper e0.frames,.inr ⟨rfl,rfl⟩,fun b z=>absurd z (vl b),e0.bs,e0.iO,fun b _ _=>vl b,fun b z=>absurd z (vl b),e0.hF,e0.jz⟩,
  rfl,e0.bare,gW.kept a4,⟨_,x.toInCall.ns,fun i y v av aC cB=>?_⟩,fun y c h=>⟨_,x.cell y c h⟩,e0.bC.fresh (le_refl _),fun y c h=>?_,fun p aD=>absurd (show p∈([]:List (Addr × Obj)) from aD) (by simp),e0.bC.kept a4,?_⟩
 ·exact name_of_addr x.apart (PySem.mem_of_lookup av) (PySem.mem_of_lookup aC)
 ·have cA:scope.names.lookup y=some .cell∨scope.names.lookup y=some .free:=cA
  rcases cA with cA | cA
  ·exact G8 cA
  ·exact absurd rfl (S.SY _ (PySem.mem_of_lookup cA))
 ·exact le_of_lt (x.above y c (PySem.mem_of_lookup h))
 ·have aW:i<vs.length:=by
   unfold start at aC
   by_cases aW:i<vs.length
   ·exact aW
   ·rw[getElem?_append_right (by simpa using aW)]at aC
    rw[List.getElem?_replicate]at aC
    split at aC <;> cases aC
  have bf:vs[i]?=some v:=by
   unfold start at aC
   rw[getElem?_append_left (by simpa using aW),getElem?_map]at aC
   cases e:vs[i]? with
   | none=>rw[e]at aC;cases aC
   | some a=>rw[e]at aC;cases aC;rfl
  obtain⟨u,bp,bD⟩:=r.get bf
  have aD:aB[i]?=some y:=by
   rw[←S.pre,List.getElem?_take_of_lt (by omega)];exact av
  have K1:aB.Nodup:=by rw[←S.pre];exact S.bk.sublist (List.take_sublist _ _)
  refine⟨u,bD,?_⟩
  rcases S.par y (mem_of_getElem? aD) with k | k
  ·exact .inl ⟨k,GF K1 aD bp k⟩
  ·obtain⟨c,e⟩:=G8 (n:=s.heap.objs.size+1) k
   refine .inr ⟨.inl k,c,e,?_⟩
   have q:=x.cell y c e
   rw[GH K1 aD bp (by show scope.names.lookup y≠_;rw[k];decide)]at q
   exact q
 ·exact e0.bC.fresh (le_of_lt (x.above y c (PySem.mem_of_lookup h)))
 ·unfold start
  show _=N.length
  rw[length_append,length_map,List.length_replicate]
  omega
theorem IT {eG:lQ}{P:Program}{w:World}{K:PySem.W.Frag}{mg:Str→Option Value}{base:Heap}{k:Nat}{f:Addr}{name qual:Str}{params:Arguments}{body:List Stmt}{scope:Scope}{Ah dZ doc pm cg e1 lT:Value}{an e7:Option Addr}
  {ow:Array (Option Value)} {N aB:List Str} {sp:dg} (lk:K.lookup f=some ⟨lT,e7,.func (PySem.W.fnOf name qual params body scope Ah dZ doc pm an cg e1),ow⟩) (j4:PySem.W.codeIn K cg qual=true) (S:dE N aB scope)
  (len:∀vs H Q E,sp vs H Q E→vs.length=aB.length)
  (uO:∀(A:Around) (outer:List Env) (s:Shared) (H:aj) (vs:List V) (Q:ct) (E:gh),fS k (A.deeper (envOfC qual scope s.heap.objs.size f cg))→sp vs H Q E →
   ∃t,f9 (fm eG P w K mg base N qual scope f cg A outer s H E) body t∧t { c9:=fun _ af=>Q .cc af,j9:=Q } (start N vs) H) :
  a5 P w K mg base eG (k+1) f (PySem.W.fnOf name qual params body scope Ah dZ doc pm an cg e1) aB sp:=by
 refine⟨len,fun A outer s H args us vs Q E aI e0 aa r nD=>?_⟩
 have aG:=len _ _ _ _ nD
 have m8:K.In s.heap:=e0.mod.sX.keeps fun b o e=>(e0.bs b o e).1
 have lim:s.heap.NoLimit:=e0.mod.nolimit.keeps fun b o e=>(e0.bs b o e).1
 have Cj:∀y∈aB.zip us,scope.names.lookup y.1=some .local∨(scope.names.lookup y.1=some .cell∧((cellsFrom (s.heap.objs.size+1) scope.names []).lookup y.1).isSome=true):=fun ⟨n,v⟩ cA=>by
  rcases S.par n (of_mem_zip cA).1 with q | q
  ·exact .inl q
  ·exact .inr ⟨q,PySem.W.cellsFrom_some _ _ _ (.inl q)⟩
 refine codeAny_call_function aI.depth (m8 _ _ lk) rfl S.co S.gen rfl (PySem.W.codeRec_of m8 j4) (aa _ _ _ _ ?_)
 refine wpAny_newFunctionEnv_cells S.kind Cj fun env he s1 x=>?_
 subst he
 refine⟨lim.keeps x.toInCall.keep,codeAny_func ?_⟩
 obtain⟨t,bG,bN⟩:=uO A outer s H vs Q E (aI.deeper _) nD
 have I:Inv (fm eG P w K mg base N qual scope f cg A outer s H E) [] (start N vs) H s1:=Qm S aI.hd e0 aG r x
 refine wpAny_mono (bG [] s1 (start N vs) H _ I bN) (fun fs aL aS=>?_) fun e aL aS=>aS
 have fin:∀{bq:St} {af:aj} {v:V} {u:Value},Inv (fm eG P w K mg base N qual scope f cg A outer s H E) [] bq af aL→RelV v u→Q v af→Fz outer P w H s Q u aL :=
  fun {bq af v u} J bD q=>⟨v,af,J.os,J.bare,J.base,J.bC,bD,q⟩
 cases fs with
 | ret u =>
  obtain⟨v,bq,af,J,bD,q⟩:=aS
  exact fin J bD q
 | next =>
  obtain⟨bq,af,J,q⟩:=aS
  exact fin (v:=V.cc) (u:=Value.none) J rfl q
 | brk =>
  obtain⟨_,_,_,q⟩:=aS
  exact False.elim q
 | cont =>
  obtain⟨_,_,_,q⟩:=aS
  exact False.elim q
section
variable {X:br}{x:Str}{p pos:Pos}{e:Expr}{aM:List Expr}{t:hR}{id T:String}{r:List V→aj→ct→Prop}
def KJ (r:List V→aj→ct→Prop) (t:hR):TE:=fun σ H Q=>t σ H fun vs H1=>r vs H1 Q
theorem eV (ai:lq X (.builtin id) r) (cJ:iX X x) (hm:X.mg x=none) (bA:bootBuiltins x=some (.builtin id)) (bf:kZ X (e::aM) t) (aN:x≠"__name__":=by decide) (rr:(x == ("__debug__":Str))=false:=by decide)
  (he:starEach (e::aM) X.env=(false,eval e X.env)::starEach aM X.env:=by rfl) (hc:(backTo pos (starEach aM X.env)).any (·.1)=false:=by rfl):b4 X (.Call (.Name x p) (e::aM) [] pos) (KJ r t):=by
 intro pins s σ H Q I h
 refine wpAny_Call_Name_kw (pF I cJ hm bA ?_ aN rr)
 exact PyProof.Rows.callWith_builtin1 (bV (bf pos pins s σ H _ I h) fun us s1 ⟨vs,H1,aR,bx,bw⟩=>ai pins s1 σ H1 vs us Q aR bx bw) he hc
theorem hl (ai:lq X (.type T) r) (cJ:iX X x) (hm:X.mg x=none) (bA:bootBuiltins x=some (.type T)) (bf:kZ X (e::aM) t) (aN:x≠"__name__":=by decide) (rr:(x == ("__debug__":Str))=false:=by decide)
  (he:starEach (e::aM) X.env=(false,eval e X.env)::starEach aM X.env:=by rfl) (hc:(backTo pos (starEach aM X.env)).any (·.1)=false:=by rfl):b4 X (.Call (.Name x p) (e::aM) [] pos) (KJ r t):=by
 intro pins s σ H Q I h
 refine wpAny_Call_Name_kw (pF I cJ hm bA ?_ aN rr)
 exact PyProof.Rows.callWith_type1 (bV (bf pos pins s σ H _ I h) fun us s1 ⟨vs,H1,aR,bx,bw⟩=>ai pins s1 σ H1 vs us Q aR bx bw) he hc
end
end L2
namespace iG
open PySem PyProof.Rows
section
open PySem.SeqAt
open PySem.AutoSeq1 (wpAny_loadPart')
open PySem.MeetsSeq PySem.MeetsSeq2 PySem.MeetsSeq3
end
section
variable {prog:Program}{w:World}{A:Around}{E:Value→Shared→Prop}{s:Shared}
def iL (n d:Nat):Option Int→Nat
 | none=>d
 | some v=>if v<0 then (v+(n:Int)).toNat else min v.toNat n
theorem QI (n d:Nat):iL n d none=d:=rfl
theorem RO (n d k:Nat):iL n d (some (k:Int))=min k n:=by
 show (if (k:Int)<0 then ((k:Int)+(n:Int)).toNat else min (k:Int).toNat n)=min k n
 rw[if_neg (by omega),Int.toNat_natCast]
end
end iG
namespace L2
open PySem PySem.Spec PyProof.Rows
abbrev w0:=St→aj→(Option Int→aj→Prop)→Prop
def Ao (X:br) (e:Option Expr) (t:w0):Prop :=
 ∀(pins:List (Addr × Obj)) (s:Shared) (σ:St) (H:aj) (Q:Option Int→aj→Prop),Inv X pins σ H s→t σ H Q →
  wpAny (model X.prog X.w) X.A (evalPart e X.env) (fun u aL=>∃o af,Inv X pins σ af aL∧IsPart u o∧Q o af) X.dp s
def RD:w0:=fun _ H Q=>Q none H
def To (t:TE):w0:=fun σ H Q=>t σ H fun x H1=>∃i,x=.int i∧Q (some i) H1
section
variable {X:br}{e:Expr}{bS:TE}{lo aW:Option Expr}{i_ z3:w0}{pos cI:Pos}
theorem xV:Ao X none RD:=by
 intro pins s σ H Q I h
 rw[evalPart_none]
 exact wpAny_pure ⟨none,H,I,.none,h⟩
theorem xU (h:b4 X e bS):Ao X (some e) (To bS):=by
 intro pins s σ H Q I hw
 rw[evalPart_some]
 refine bV (h pins s σ H _ I hw) fun u s1 ⟨x,H1,aR,bx,bw⟩=>?_
 obtain⟨i,rfl,q⟩:=bw
 obtain⟨t,rfl⟩:=bx
 exact⟨some i,H1,aR,.int i t,q⟩
def NJ (X:br) (r:V→Option Int→Option Int→aj→ct→Prop):Prop :=
 ∀(pins:List (Addr × Obj)) (s:Shared) (σ:St) (H:aj) (x:V) (v p8 p7:Value) (lo aW:Option Int) (dC:Addr) (Q:ct),Inv X pins σ H s→RelV x v→s.heap.IsSliceOf dC p8 p7 .none→IsPart p8 lo→IsPart p7 aW→r x lo aW H Q →
  ∃T id,typeLookup (.type T) "__getitem__"=pure (some (.builtin id))∧s.TypeIs v T∧wpAny (model X.prog X.w) X.A (getItem v (.ref dC)) (g8 X pins σ Q) X.dp s
def VG (r:V→Option Int→Option Int→aj→ct→Prop) (bS:TE) (i_ z3:w0):TE:=fun σ H Q=>bS σ H fun x H1=>i_ σ H1 fun l aq=>z3 σ aq fun u a3=>r x l u a3 Q
theorem xG {r:V→Option Int→Option Int→aj→ct→Prop}(aI:NJ X r) (he:b4 X e bS) (aG:Ao X lo i_) (bp:Ao X aW z3):b4 X (.Subscript e (.Slice lo aW none cI) pos) (VG r bS i_ z3):=by
 intro pins s σ H Q I h
 refine Subscript_ (bV (he pins s σ H _ I h) fun v s1 ⟨x,H1,aR,bx,bw⟩=>?_)
 refine wpAny_Slice (bV (aG pins s1 σ H1 _ aR bw) fun p8 s2 ⟨l,aq,cF,pl,aU⟩=>bV (bp pins s2 σ aq _ cF aU) fun p7 s3 ⟨u,a3,cS,pu,fp⟩=>?_)
 rw[evalPart_none]
 refine wpAny_pure ?_
 have gL:Inv X pins σ a3 { s3 with heap:=s3.heap.push { cls:=.type "slice",data:=.fields #[p8,p7,.none] } }:=cS.kept (t':=s3.toks) fun b bT q=>get?_push_of_some _ q
 obtain⟨T,id,ig,bG,cJ⟩:=aI pins { s3 with heap:=s3.heap.push { cls:=.type "slice",data:=.fields #[p8,p7,.none] } } σ a3 x v p8 p7 l u s3.heap.objs.size Q gL bx (Heap.IsSliceOf.new ..) pl pu fp
 show wpAny (model X.prog X.w) X.A (subscriptTail e (.Slice lo aW none cI) v (.ref s3.heap.objs.size)) (g8 X pins σ Q) X.dp { s3 with heap:=s3.heap.push { cls:=.type "slice",data:=.fields #[p8,p7,.none] } }
 exact tail_any (ops:=[.ref s3.heap.objs.size,v]) bG ig cJ (by with_unfolding_all rfl)
def ly (xs:List V) (lo aW:Option Int):List V:=(xs.drop (iG.iL xs.length 0 lo)).take (iG.iL xs.length xs.length aW - iG.iL xs.length 0 lo)
theorem Pw (xs:List V) (lo aW:Option Int):(ly xs lo aW).length≤xs.length:=by
 unfold ly
 rw[length_take,length_drop]
 omega
end
def nC (n:Nat) (i:Int):Option Nat:=if 0≤i then (if i<n then some i.toNat else none) else if -(n:Int)≤i then some (i+n).toNat else none
def nK {α:Type}(xs:List α) (i:Int):Option α:=(nC xs.length i).bind fun j=>xs[j]?
theorem HM {n:Nat}{i:Int}{j:Nat}(h:nC n i=some j):seqIndex? i n=some j∧j<n ∧ -(n:Int)≤i∧i<n:=by
 unfold nC at h
 by_cases h0:0≤i
 ·rw[if_pos h0]at h
  by_cases av:i<n
  ·rw[if_pos av]at h
   have e:i.toNat=j:=Option.some.inj h
   exact⟨by rw[seqIndex_of h0 av,e],by omega,by omega,av⟩
  ·rw[if_neg av]at h;cases h
 ·rw[if_neg h0]at h
  by_cases av : -(n:Int)≤i
  ·rw[if_pos av]at h
   have e:(i+n).toNat=j:=Option.some.inj h
   exact⟨by rw[seqIndex_neg (by omega) av,e],by omega,av,by omega⟩
  ·rw[if_neg av]at h;cases h
theorem HR {α:Type}{xs:List α}{i:Int}{v:α}(h:nK xs i=some v):∃j,seqIndex? i xs.length=some j∧xs[j]?=some v∧j<xs.length ∧ -(xs.length:Int)≤i∧i<xs.length:=by
 unfold nK at h
 cases e:nC xs.length i with
 | none=>rw[e]at h;cases h
 | some j =>
  rw[e]at h
  obtain⟨av,aC,cB,dw⟩:=HM e
  exact⟨j,av,h,aC,cB,dw⟩
theorem ng {α:Type}{xs:List α}{j:Nat}{v:α}(h:xs[j]?=some v):nK xs (j:Int)=some v:=by
 have cK:j<xs.length:=(List.getElem?_eq_some_iff.mp h).1
 have e:nC xs.length (j:Int)=some j:=by
  unfold nC
  rw[if_pos (by omega),if_pos (by omega)];simp
 unfold nK;rw[e];exact h
def Si (b:Expr):Prop:=∀o i,subscripted b false o i=operate [o,i] (getItem o i)
def zQ (X:br) (r:iV):Prop :=
 ∀(value slice:Expr) (pins:List (Addr × Obj)) (s:Shared) (σ:St) (H:aj) (x y:V) (v u:Value) (Q:ct),Inv X pins σ H s→RelV x v→RelV y u→r x y H Q →
  subscripted slice false v u=operate [v,u] (getItem v u)→wpAny (model X.prog X.w) X.A (subscriptTail value slice v u) (g8 X pins σ Q) X.dp s
def NP (X:br) (id:String) (r:V→List V→aj→ct→Prop):Prop :=
 ∀(pins:List (Addr × Obj)) (s:Shared) (σ:St) (H:aj) (x:V) (xs:List V) (v:Value) (us:List Value) (Q:ct),Inv X pins σ H s→RelV x v→Vals xs us→r x xs H Q →
  wpAny (model X.prog X.w) X.A (call (.builtin id) (v::us)) (g8 X pins σ Q) X.dp s
section
variable {X:br}{a b:Expr}{c5 dB:TE}{pos:Pos}
theorem bP {r:iV}(aI:zQ X r) (bf:b4 X a c5) (aa:b4 X b dB) (aS:Si b):b4 X (.Subscript a b pos) (y3 r c5 dB):=by
 intro pins s σ H Q I h
 exact Subscript_ (CS bf aa I h fun v u s2 x y aq cF bu bL q=>aI a b pins s2 σ aq x y v u Q cF bu bL q (aS _ _))
def Cx (K:PySem.W.Frag):iV:=fun x y H Q=>∃p xs i v,x=.ref p∧y=.int i∧aV K H p xs∧nK xs i=some v∧Q v H
def UU (K:PySem.W.Frag):iV:=fun x y H Q=>∃p xs i v,x=.ref p∧y=.int i∧aP K H p xs∧nK xs i=some v∧Q v H
theorem ee:zQ X (Cx X.K):=by
 intro value slice pins s σ H x y v u Q I bu bL h aS
 obtain⟨p,xs,i,z,rfl,rfl,bN,he,q⟩:=h
 cases bu
 obtain⟨t,rfl⟩:=bL
 obtain⟨its,r,pl,hz⟩:=I.list bN
 obtain⟨j,av,aC,cB,dw,gs⟩:=HR he
 obtain⟨w,ko,jr⟩:=r.get aC
 have aG:=r.length
 have aN:=yg
 have fin:g8 X pins σ Q w s:=⟨z,H,I,jr,q⟩
 by_cases h0:0≤i
 ·have cK:i.toNat=j:=by
   rw[seqIndex_of h0 gs]at av
   exact Option.some.inj av
  exact item_listR pl.isList h0 (by omega) (by rw[cK];simpa using ko) fin aS
 ·have cK:(i+(its.toArray.size:Int)).toNat=j:=by
   rw[seqIndex_neg (by omega) dw]at av
   rw[size_toArray,←aG]
   exact Option.some.inj av
  exact subscriptTail_builtinR (x:=w) pl.isList.typeIs slot_list_getitem.lookup
   (wpAny_getItem_list_neg (Q:=fun r aL=>r=w∧g8 X pins σ Q r aL) pl.isList (by omega) (by rw[size_toArray] <;> omega) (by omega) (by rw[cK];simpa using ko) ⟨rfl,fin⟩) aS
theorem cH:zQ X (UU X.K):=by
 intro value slice pins s σ H x y v u Q I bu bL h aS
 obtain⟨p,xs,i,z,rfl,rfl,bN,he,q⟩:=h
 cases bu
 obtain⟨t,rfl⟩:=bL
 obtain⟨its,r,pl,hz⟩:=I.tuple bN
 obtain⟨j,av,aC,cB,dw,gs⟩:=HR he
 obtain⟨w,ko,jr⟩:=r.get aC
 have aG:=r.length
 have aN:=yg
 have fin:g8 X pins σ Q w s:=⟨z,H,I,jr,q⟩
 exact subscriptTail_builtinR (x:=w) pl.typeIs slot_tuple_getitem.lookup
  (getItem_tuple (j:=j) (Q:=fun r aL=>r=w∧g8 X pins σ Q r aL) pl (by omega) (by omega) (by rw[size_toArray,←aG];exact av) (by simpa using ko) ⟨rfl,fin⟩) aS
theorem PJ (its:List Value) (n j:Nat) (u:Value):Obj.mapSeq (·.setIfInBounds j u) { cls:=.type "list",data:=.seq its.toArray n }={ cls:=.type "list",data:=.seq (its.set j u).toArray n }:=by
 simp[Obj.mapSeq]
theorem Inv.lst {pins:List (Addr × Obj)}{σ:St}{H:aj}{s:Shared}{p:Addr}{xs:List V}(I:Inv X pins σ H s) (h:H p=some (.lst xs)) :
  ∃(its:List Value) (n:Nat),Vals xs its∧s.heap.get? p=some { cls:=.type "list",data:=.seq its.toArray n }∧xs.length≤sizeLine:=by
 obtain⟨z,its,n,r,e⟩:=I.bC p _ h
 exact⟨its,n,r,e,z⟩
theorem Inv.S0 {pins:List (Addr × Obj)}{σ:St}{H:aj}{s:Shared}{p:Addr}{xs ys:List V}{its its':List Value}{n z9:Nat}{f:Obj→Obj}(I:Inv X pins σ H s) (h:H p=some (.lst xs))
  (aF:s.heap.get? p=some { cls:=.type "list",data:=.seq its.toArray n }) (hf:f { cls:=.type "list",data:=.seq its.toArray n }={ cls:=.type "list",data:=.seq its'.toArray z9 }) (r:Vals ys its') (hz:ys.length≤sizeLine) (t:Nat) :
  Inv X pins σ (upd H p (.lst ys)) { s with heap:=s.heap.update p f,toks:=t }:=by
 have e:(s.heap.update p f).get? p=some { cls:=.type "list",data:=.seq its'.toArray z9 }:=by
  rw[get?_update_self f aF (by rw[hf] <;> rfl),hf]
 refine I.write (x:=p) (e:=p) (by rw[h];trivial) (.inl rfl) (fun b u aa q=>(get?_update_other _ _ (Ne.symm aa)).trans q) ⟨_,e⟩ ?_
 exact⟨hz,its',z9,r,e⟩
def TL:V→V→V→aj→(aj→Prop)→Prop:=fun o i v H Q=>∃p xs k j,o=.ref p∧i=.int k∧H p=some (.lst xs)∧nC xs.length k=some j∧Q (upd H p (.lst (xs.set j v)))
theorem set_list:Kg X TL:=by
 intro pins s σ H o i v bW ie u Q I Yn Yo bD h
 obtain⟨p,xs,k,j,rfl,rfl,aD,cK,q⟩:=h
 cases Yn
 obtain⟨t,rfl⟩:=Yo
 obtain⟨its,n,r,aF,hz⟩:=I.lst aD
 obtain⟨av,aC,cB,dw⟩:=HM cK
 have aG:=r.length
 have aN:=yg
 have fP:Inv X pins σ (upd H p (.lst (xs.set j v))) { s with heap:=s.heap.update p (Obj.mapSeq (·.setIfInBounds j u)) } :=
  I.S0 aD aF (PJ its n j u) (r.set bD j) (by rw[length_set];exact hz) s.toks
 by_cases h0:0≤k
 ·have a4:k.toNat=j:=by
   rw[seqIndex_of h0 dw]at av
   exact Option.some.inj av
  exact PySem.W.ki_setAt aF h0 (by omega) (by rw[size_toArray,←aG];exact dw) (by rw[a4];exact⟨_,fP,q⟩)
 ·have a4:(k+(its.toArray.size:Int)).toNat=j:=by
   rw[seqIndex_neg (by omega) cB]at av
   rw[size_toArray,←aG]
   exact Option.some.inj av
  exact PySem.W.ki_setBack aF (by omega) (by rw[size_toArray,←aG];exact cB) (by omega) (by rw[a4];exact⟨_,fP,q⟩)
theorem Pb (lo aW:Option Int) (n:Nat):(sliceBounds lo aW none n).1=((iG.iL n 0 lo:Nat):Int)∧(sliceBounds lo aW none n).2.1=((iG.iL n n aW:Nat):Int)∧(sliceBounds lo aW none n).2.2=1:=by
 refine⟨?_,?_,rfl⟩
 ·cases lo with
  | none=>simp[sliceBounds,iG.iL]
  | some i =>
   simp only[sliceBounds,iG.iL,Option.getD_none,show (1:Int) > 0 by decide,if_true]
   by_cases h:i<0
   ·simp only[h,if_true] <;> omega
   ·simp only[h,if_false] <;> omega
 ·cases aW with
  | none=>simp[sliceBounds,iG.iL]
  | some i =>
   simp only[sliceBounds,iG.iL,Option.getD_none,show (1:Int) > 0 by decide,if_true]
   by_cases h:i<0
   ·simp only[h,if_true] <;> omega
   ·simp only[h,if_false] <;> omega
theorem O7 (its:List Value) (lo aW:Option Int):slicePick its.toArray lo aW none=((its.drop (iG.iL its.length 0 lo)).take (iG.iL its.length its.length aW - iG.iL its.length 0 lo)).toArray:=by
 obtain⟨av,aC,cB⟩:=Pb lo aW its.toArray.size
 unfold slicePick
 rw[av,aC,cB]
 simp only[sliceRange_one,pick_run,size_toArray] <;> rfl
def US (K:PySem.W.Frag):V→Option Int→Option Int→aj→ct→Prop:=fun x lo aW H Q=>∃a xs,x=.ref a∧aV K H a xs∧∀p,H p=none→Q (.ref p) (upd H p (.lst (ly xs lo aW)))
theorem xS:NJ X (US X.K):=by
 intro pins s σ H x v p8 p7 lo aW dC Q I bu aS pl pu h
 obtain⟨a,xs,rfl,aZ,q⟩:=h
 cases bu
 obtain⟨its,r,bG,hz⟩:=I.list aZ
 have hlen:=r.length
 refine⟨"list",_,slot_list_getitem.lookup,bG.isList.typeIs,?_⟩
 refine wpAny_getItem_list_slice bG.isList aS pl pu .none (by simp) ?_ (by rw[size_toArray] <;> omega)
 rw[O7,←hlen]
 refine⟨.ref s.heap.objs.size,_,I.laid (t':=s.toks) (o:=.lst (ly xs lo aW)) (fun b bT q=>get?_push_of_some _ q) (le_refl _) ?_,rfl,q _ (I.bC.fresh (le_refl _))⟩
 exact⟨le_trans (Pw xs lo aW) hz,_,0,(r.drop (iG.iL xs.length 0 lo)).take (iG.iL xs.length xs.length aW - iG.iL xs.length 0 lo),get?_push_size _ rfl⟩
def nk:V→Bool
 | .cc=>true
 | .b8 _=>true
 | .int _=>true
 | .str _=>true
 | _=>false
def oH:V→V→Bool
 | .cc,.cc=>true
 | .b8 a,.b8 b=>a == b
 | .b8 a,.int b=>(if a then 1 else 0) == b
 | .int a,.b8 b=>a == (if b then 1 else 0)
 | .int a,.int b=>a == b
 | .str a,.str b=>a == b
 | _,_=>false
theorem Tg {A:Around}{s:Shared}{y x:V}{u v:Value}(bL:RelV y u) (bu:RelV x v) (qg:nk y=true) (kW:nk x=true):SeqAt.EqAt A s u v (oH y x):=by
 cases y with
 | cc =>
  cases bL
  cases x with
  | cc=>cases bu;exact SeqAt.EqAt.same _
  | b8 b=>cases bu;exact SeqAt.EqAt.none_bool b
  | int b=>obtain⟨t,rfl⟩:=bu;exact SeqAt.EqAt.none_int b t
  | str b=>obtain⟨t,rfl⟩:=bu;exact SeqAt.EqAt.none_str b t
  | _=>exact absurd (show false=true from kW) Bool.false_ne_true
 | b8 a =>
  cases bL
  cases x with
  | cc=>cases bu;exact SeqAt.EqAt.bool_none a
  | b8 b=>cases bu;exact SeqAt.EqAt.bool_bool a b
  | int b=>obtain⟨t,rfl⟩:=bu;exact SeqAt.EqAt.bool_int a b t
  | str b=>obtain⟨t,rfl⟩:=bu;exact SeqAt.EqAt.bool_str a b t
  | _=>exact absurd (show false=true from kW) Bool.false_ne_true
 | int a =>
  obtain⟨t',rfl⟩:=bL
  cases x with
  | cc=>cases bu;exact SeqAt.EqAt.int_none a t'
  | b8 b=>cases bu;exact SeqAt.EqAt.int_bool a t' b
  | int b=>obtain⟨t,rfl⟩:=bu;exact SeqAt.EqAt.int_int a t' b t
  | str b=>obtain⟨t,rfl⟩:=bu;exact SeqAt.EqAt.int_str a t' b t
  | _=>exact absurd (show false=true from kW) Bool.false_ne_true
 | str a =>
  obtain⟨t',rfl⟩:=bL
  cases x with
  | cc=>cases bu;exact SeqAt.EqAt.str_none a t'
  | b8 b=>cases bu;exact SeqAt.EqAt.str_bool a t' b
  | int b=>obtain⟨t,rfl⟩:=bu;exact SeqAt.EqAt.str_int a t' b t
  | str b=>obtain⟨t,rfl⟩:=bu;exact SeqAt.EqAt.str_str a t' b t
  | _=>exact absurd (show false=true from kW) Bool.false_ne_true
 | _=>exact absurd (show false=true from qg) Bool.false_ne_true
def jA (x:V) (u:Value):Bool:=match u with
 | .none=>oH .cc x
 | .bool b=>oH (.b8 b) x
 | .int i _=>oH (.int i) x
 | .str z _=>oH (.str z) x
 | _=>false
theorem Ib {x y:V}{u:Value}(r:RelV y u) (f:nk y=true):jA x u=oH y x:=by
 cases y with
 | cc=>cases r;rfl
 | b8 b=>cases r;rfl
 | int i=>obtain⟨t,rfl⟩:=r;rfl
 | str z=>obtain⟨t,rfl⟩:=r;rfl
 | _=>exact absurd (show false=true from f) Bool.false_ne_true
theorem um {x:V}:∀{xs:List V}{us:List Value},Vals xs us→xs.all nk=true→us.any (jA x)=xs.any fun y=>oH y x
 | _,_,.nil,_=>rfl
 | y::xs,u::us,.cons r t,f=>by
  rw[List.all_cons,and_eq_true]at f
  rw[any_cons,any_cons,Ib r f.1,um t f.2]
theorem uc {A:Around}{s:Shared}{x:V}{v:Value}(bu:RelV x v) (kW:nk x=true):∀{xs:List V}{us:List Value},Vals xs us→xs.all nk=true→∀u∈us,SeqAt.EqAt A s u v (jA x u)
 | _,_,.nil,_=>fun u bp=>by cases bp
 | y::xs,u::us,.cons r t,f=>fun lR bp=>by
  rw[List.all_cons,and_eq_true]at f
  rcases mem_cons.mp bp with rfl | bp
  ·rw[Ib r f.1];exact Tg r bu f.1 kW
  ·exact uc bu kW t f.2 lR bp
def gq (x:V) (xs:List V):Bool:=xs.any fun y=>oH y x
def KS (K:PySem.W.Frag) (neg:Bool):iV:=fun x y H Q=>∃p xs,y=.ref p∧(aV K H p xs∨aP K H p xs)∧nk x=true∧xs.all nk=true∧Q (.b8 (if neg then !gq x xs else gq x xs)) H
theorem xy:gQ X (compareOp .In) (KS X.K false):=by
 intro pins s σ H x y v u Q I bu bL h
 obtain⟨p,xs,rfl,bN,kW,bF,q⟩:=h
 cases bL
 rcases bN with bN | bN
 ·obtain⟨its,r,pl,hz⟩:=I.list bN
  refine SeqAt.in_listAt (jA x) pl.isList (fun w hw=>uc bu kW r bF w (by simpa using hw)) ⟨.b8 _,H,I,rfl,?_⟩
  rw[show its.toArray.any (jA x)=its.any (jA x) by simp,um r bF]
  exact q
 ·obtain⟨its,r,pl,hz⟩:=I.tuple bN
  refine SeqAt.in_tupleAt (jA x) pl (fun w hw=>uc bu kW r bF w (by simpa using hw)) ⟨.b8 _,H,I,rfl,?_⟩
  rw[show its.toArray.any (jA x)=its.any (jA x) by simp,um r bF]
  exact q
theorem Pc:gQ X (compareOp .NotIn) (KS X.K true):=by
 intro pins s σ H x y v u Q I bu bL h
 obtain⟨p,xs,rfl,bN,kW,bF,q⟩:=h
 cases bL
 rcases bN with bN | bN
 ·obtain⟨its,r,pl,hz⟩:=I.list bN
  refine SeqAt.notIn_listAt (jA x) pl.isList (fun w hw=>uc bu kW r bF w (by simpa using hw)) ⟨.b8 _,H,I,rfl,?_⟩
  rw[show its.toArray.any (jA x)=its.any (jA x) by simp,um r bF]
  exact q
 ·obtain⟨its,r,pl,hz⟩:=I.tuple bN
  refine SeqAt.notIn_tupleAt (jA x) pl (fun w hw=>uc bu kW r bF w (by simpa using hw)) ⟨.b8 _,H,I,rfl,?_⟩
  rw[show its.toArray.any (jA x)=its.any (jA x) by simp,um r bF]
  exact q
theorem hX:lq X (.builtin "len") (fun xs H Q=>∃p ys,xs=[.ref p]∧(aV X.K H p ys∨aP X.K H p ys)∧Q (.int ys.length) H):=by
 intro pins s σ H xs us Q I r h
 obtain⟨p,ys,rfl,bN,q⟩:=h
 obtain⟨u,rfl,bu⟩:=vals1 r
 cases bu
 have aN:=yg
 rcases bN with bN | bN
 ·obtain⟨its,fh,pl,hz⟩:=I.list bN
  have hlen:=fh.length
  exact Calls.call_len_list pl.isList (by simp only[size_toArray] <;> omega) ⟨.int ys.length,H,I.tok _,⟨s.toks+1,by rw[size_toArray,hlen]⟩,q⟩
 ·obtain⟨its,fh,pl,hz⟩:=I.tuple bN
  have hlen:=fh.length
  exact len_tuple pl (by simp only[size_toArray] <;> omega) ⟨.int ys.length,H,I.tok _,⟨s.toks+1,by rw[size_toArray,hlen]⟩,q⟩
theorem n0:lq X (.type "list") (fun xs H Q=>∃p ys,xs=[.ref p]∧(aV X.K H p ys∨aP X.K H p ys)∧∀l,H l=none→Q (.ref l) (upd H l (.lst ys))):=by
 intro pins s σ H xs us Q I r h
 obtain⟨p,ys,rfl,bN,q⟩:=h
 obtain⟨u,rfl,bu⟩:=vals1 r
 cases bu
 have fin:∀(its:List Value),Vals ys its→ys.length≤sizeLine→∀(h':Heap) (gK:Nat),(∀b eO,s.heap.get? b=some eO→h'.get? b=some eO) →
   h'.get? s.heap.objs.size=some { cls:=.type "list",dict:=none,data:=.seq its.toArray gK,slots := #[] }→g8 X pins σ Q (.ref s.heap.objs.size) { s with heap:=h' }:=fun its fh hz h' gK bK e =>
  ⟨.ref s.heap.objs.size,_,I.laid (t':=s.toks) bK (le_refl _) (show fa X.prog X.w _ h' _ (.lst ys) from ⟨hz,its,gK,fh,e⟩),rfl,q _ (I.bC.fresh (le_refl _))⟩
 rcases bN with bN | bN
 ·obtain⟨its,fh,pl,hz⟩:=I.list bN
  have hlen:=fh.length
  obtain⟨o,aF,ai,n,hd⟩:=pl.isList
  exact call_list_seq p (.inl rfl) aF ai hd (fun h' gK bK e=>fin its fh hz h' gK bK e) (by simp only[size_toArray] <;> omega)
 ·obtain⟨its,fh,pl,hz⟩:=I.tuple bN
  have hlen:=fh.length
  obtain⟨o,aF,ai,n,hd⟩:=pl
  exact call_list_seq p (.inr rfl) aF ai hd (fun h' gK bK e=>fin its fh hz h' gK bK e) (by simp only[size_toArray] <;> omega)
def C0 (K:PySem.W.Frag) (T:String) (x:V) (H:aj):Prop:=match x with
 | .str _=>T="str"
 | .int _=>T="int"
 | .ref p=>(T="list"∧∃xs,aV K H p xs)∨(T="tuple"∧∃o,K.lookup p=some o∧o.cls=.type "tuple"∧o.dict=none) ∨
   (T="dict"∧((∃kvs,H p=some (.b2 kvs))∨∃kvs,H p=some (.hj kvs)))∨(T="set"∧∃S n,H p=some (.set S n))
 | _=>False
theorem HV {pins:List (Addr × Obj)}{σ:St}{H:aj}{s:Shared}{T:String}{x:V}{v:Value}(I:Inv X pins σ H s) (r:RelV x v) (ty:C0 X.K T x H) :
  s.TypeIs v T∧∀a,v=.ref a→∃bT,s.heap.get? a=some bT∧bT.dict=none:=by
 cases x with
 | str z =>
  obtain⟨t,rfl⟩:=r
  cases (show T="str" from ty)
  exact⟨typeIs_str s z t,fun _ e=>nomatch e⟩
 | int i =>
  obtain⟨t,rfl⟩:=r
  cases (show T="int" from ty)
  exact⟨typeIs_int s i t,fun _ e=>nomatch e⟩
 | ref p =>
  cases r
  rcases ty with ⟨rfl,xs,bN⟩ | ⟨rfl,o,a4,ai,hd⟩ | ⟨rfl,a4⟩ | ⟨rfl,S,n,a4⟩
  ·obtain⟨its,_,pl,_⟩:=I.list bN
   refine⟨pl.isList.typeIs,fun a e=>?_⟩
   cases e
   obtain⟨o,n,e,c,hd,_⟩:=pl
   exact⟨o,e,hd⟩
  ·refine⟨⟨o,I.fJ p o a4,ai⟩,fun a e=>?_⟩
   cases e
   exact⟨o,I.fJ _ o a4,hd⟩
  ·have z:∃o,s.heap.get? p=some o∧o.ExactDict:=by
    rcases a4 with ⟨kvs,a4⟩ | ⟨kvs,a4⟩
    ·obtain⟨_,_,_,_,o,_,_,e,ex,_⟩:=I.bC p _ a4
     exact⟨o,e,ex⟩
    ·obtain⟨_,_,_,_,o,_,_,e,ex,_⟩:=I.bC p _ a4
     exact⟨o,e,ex⟩
   obtain⟨o,e,ex⟩:=z
   refine⟨⟨o,e,ex.1⟩,fun a aQ=>?_⟩
   cases aQ
   exact⟨o,e,ex.2.1⟩
  ·obtain⟨o,_,_,_,e,ex,_⟩:=I.bC p _ a4
   refine⟨⟨o,e,ex.1⟩,fun a aQ=>?_⟩
   cases aQ
   exact⟨o,e,ex.2.1⟩
 | _=>exact False.elim ty
def Uz (K:PySem.W.Frag) (T:String) (r:V→List V→aj→ct→Prop) (to:TE):TE:=fun σ H Q=>to σ H fun x H1=>C0 K T x H1∧r x [] H1 Q
def VH (K:PySem.W.Frag) (T:String) (r:V→List V→aj→ct→Prop) (to:TE) (t:hR):TE:=fun σ H Q=>to σ H fun x H1=>C0 K T x H1∧t σ H1 fun xs aq=>r x xs aq Q
variable {o e:Expr}{aM:List Expr}{to:TE}{t:hR}{name:Str}{apos gn:Pos}{T id:String}{r:V→List V→aj→ct→Prop}
theorem BX (ER:PlainAttrs T) (slot:Slot T name id) (oz:typeOf (.builtin id)=pure (.type "method_descriptor")) (hm:NP X id r) (aF:b4 X o to)
  (Cm:attributeBase o name X.env (eval o X.env)=eval o X.env:=by rfl) (Ci:(apos.endLine == gn.line)=true:=by rfl):b4 X (.Call (.Attribute o name apos) [] [] gn) (Uz X.K T r to):=by
 intro pins s σ H Q I h
 refine wpAny_Call_method0_late Cm Ci (bV (aF pins s σ H _ I h) fun v s1 ⟨x,H1,aR,bx,ty,bw⟩=>?_)
 obtain⟨av,aC⟩:=HV aR bx ty
 exact⟨T,id,ER,slot,oz,av,aC,Calls.callWith_builtin rfl (PySem.evalArgs_none (hm pins s1 σ H1 x [] v [] Q aR bx .nil bw))⟩
theorem i2 (ER:PlainAttrs T) (slot:Slot T name id) (oz:typeOf (.builtin id)=pure (.type "method_descriptor")) (hm:NP X id r) (aF:b4 X o to) (bf:kZ X (e::aM) t)
  (Cm:attributeBase o name X.env (eval o X.env)=eval o X.env:=by rfl)
  (Vo:((backTo gn (starEach (e::aM) X.env)).all (fun x => !x.1) && (backToKw gn (keywordEach [] X.env)).all (fun x=>x.1.isSome)
   && decide ((e::aM).length+([]:List Keyword).length+(if ([]:List Keyword).isEmpty then 0 else 1)<30))=true:=by rfl)
  (Ci:(apos.endLine == gn.line)=true:=by rfl) (aS:starEach (e::aM) X.env=(false,eval e X.env)::starEach aM X.env:=by rfl) (S9:(backTo gn (starEach aM X.env)).any (·.1)=false:=by rfl) :
  b4 X (.Call (.Attribute o name apos) (e::aM) [] gn) (VH X.K T r to t):=by
 intro pins s σ H Q I h
 refine wpAny_Call_method_late Cm Vo Ci rfl (bV (aF pins s σ H _ I h) fun v s1 ⟨x,H1,aR,bx,ty,bw⟩=>?_)
 obtain⟨av,aC⟩:=HV aR bx ty
 refine⟨T,id,ER,slot,oz,av,aC,?_⟩
 have rT:=bf gn pins s1 σ H1 _ aR bw
 rw[aS]at rT ⊢
 refine Calls.callWith_builtin (by show (false || (backTo gn (starEach aM X.env)).any (·.1))=false;rw[S9] <;> rfl) (Calls.evalArgs_plain ?_)
 exact bV rT fun us s2 ⟨vs,aq,cF,b7,aU⟩=>hm pins s2 σ aq x vs v us Q cF bx b7 aU
end
def te (X:br) (id:String) (r:V→List V→aj→ct→Prop):Prop :=
 ∀(pins:List (Addr × Obj)) (s:Shared) (σ:St) (H:aj) (x:V) (xs:List V) (v:Value) (us:List Value) (Q:ct),Inv X pins σ H s→RelV x v→Vals xs us→r x xs H Q →
  wpAny (model X.prog X.w) X.A (call (.builtin id) (v::us)) (g8 X pins σ Q) X.dp s
theorem Vals.one:∀{x:V}{us:List Value},Vals [x] us→∃u,us=[u]∧RelV x u
 | _,_,.cons r .nil=>⟨_,rfl,r⟩
theorem Vals.two:∀{x y:V}{us:List Value},Vals [x,y] us→∃u v,us=[u,v]∧RelV x u∧RelV y v
 | _,_,_,.cons r (.cons q .nil)=>⟨_,_,rfl,r,q⟩
theorem Vals.zero:∀{us:List Value},Vals [] us→us=[]
 | _,.nil=>rfl
theorem Vals.dropLast {xs:List V}{us:List Value}(h:Vals xs us):Vals xs.dropLast us.dropLast:=by
 induction h with
 | nil=>exact .nil
 | cons r t dt =>
  cases t with
  | nil=>exact .nil
  | cons q t'=>exact .cons r dt
theorem Vals.reverse {xs:List V}{us:List Value}(h:Vals xs us):Vals xs.reverse us.reverse:=by
 induction h with
 | nil=>exact .nil
 | cons r t dt=>rw[List.reverse_cons,List.reverse_cons];exact Vals.append dt (.cons r .nil)
theorem PR {α:Type}(l:List α):l.eraseIdx (l.length - 1)=l.dropLast:=by
 induction l with
 | nil=>rfl
 | cons a r dt =>
  cases r with
  | nil=>rfl
  | cons b r =>
   have e:(a::b::r).length - 1=((b::r).length - 1)+1:=by
    have av:(a::b::r).length=r.length+2:=rfl
    have aC:(b::r).length=r.length+1:=rfl
    omega
   rw[e,List.eraseIdx_cons_succ,dt]
   all_goals rfl
section
variable {X:br}{pins:List (Addr × Obj)}{σ:St}{H:aj}{s:Shared}{l b:Addr}{xs ys zs:List V}
theorem Inv.u0 {its its':List Value}{n:Nat}{f:Array Value→Array Value}{t':Nat}(I:Inv X pins σ H s) (gI:H l=some (.lst xs))
  (e:s.heap.get? l=some { cls:=.type "list",data:=.seq its.toArray n }) (hf:f its.toArray=its'.toArray) (bA:Vals ys its') (hz:ys.length≤sizeLine) :
  Inv X pins σ (upd H l (.lst ys)) { s with heap:=s.heap.update l (Obj.mapSeq f),toks:=t' }:=by
 have q:=PySem.IsL.update e f
 rw[hf]at q
 refine I.write (x:=l) (e:=l) (by rw[gI];exact trivial) (.inl rfl) (fun wX u aa bp=>(get?_update_other s.heap (Obj.mapSeq f) (Ne.symm aa)).trans bp) ⟨_,q⟩ ?_
 exact⟨hz,its',_,bA,q⟩
theorem Inv.CE {its:List Value}{t':Nat}(I:Inv X pins σ H s) (bA:Vals ys its) (hz:ys.length≤sizeLine) :
  Inv X pins σ (upd H s.heap.objs.size (.lst ys)) { s with heap:=s.heap.push { cls:=.type "list",data:=.seq its.toArray },toks:=t' } :=
 I.laid (fun _ _ q=>get?_push_of_some _ q) (le_refl _) ⟨hz,its,0,bA,get?_push_size _ rfl⟩
theorem Inv.fresh (I:Inv X pins σ H s):H s.heap.objs.size=none:=I.bC.fresh (le_refl _)
theorem Inv.oc (I:Inv X pins σ H s) (gI:H l=some (.lst xs)):xs.length≤sizeLine∧∃(its:List Value) (n:Nat),Vals xs its∧xs.length=its.length∧s.heap.get? l=some { cls:=.type "list",data:=.seq its.toArray n }:=by
 obtain⟨z,its,n,r,e⟩:=I.bC l _ gI
 exact⟨z,its,n,r,r.length,e⟩
theorem GW {n:Nat}(h:n≤sizeLine):Builtin.List.listTooLong n=false:=by
 unfold Builtin.List.listTooLong
 exact decide_eq_false (by omega)
end
section
variable {X:br}
def RT:V→List V→aj→ct→Prop:=fun x vs H Q=>∃l xs y,x=.ref l∧vs=[y]∧H l=some (.lst xs)∧xs.length<sizeLine∧Q .cc (upd H l (.lst (xs++[y])))
theorem iY:te X "list.append" RT:=by
 intro pins s σ H x vs v us Q I bu bD h
 obtain⟨l,xs,y,rfl,rfl,gI,hz,q⟩:=h
 cases bu
 obtain⟨u,rfl,dW⟩:=bD.one
 obtain⟨z,its,n,r,aG,e⟩:=I.oc gI
 refine call_meets F.slot_list_append ⟨_,e,rfl⟩ F.entry_list_append (F.args_list_append_2 _ _) (PySem.list_append l its.toArray n u (by rw[size_toArray];omega)) ⟨e,?_⟩
 refine⟨.cc,_,I.u0 (its':=its++[u]) gI e (by simp) (r.append (.cons dW .nil)) ?_,rfl,q⟩
 rw[length_append,length_singleton]
 omega
def RS:V→List V→aj→ct→Prop:=fun x vs H Q=>∃l b xs zs,x=.ref l∧vs=[.ref b]∧H l=some (.lst xs)∧H b=some (.lst zs)∧xs.length+zs.length≤sizeLine∧Q .cc (upd H l (.lst (xs++zs)))
theorem Qe:te X "list.extend" RS:=by
 intro pins s σ H x vs v us Q I bu bD h
 obtain⟨l,b,xs,zs,rfl,rfl,gI,o1,hz,q⟩:=h
 cases bu
 obtain⟨u,rfl,dW⟩:=bD.one
 cases dW
 obtain⟨z,its,n,r,aG,e⟩:=I.oc gI
 obtain⟨d6,i6,c_,b7,zB,aQ⟩:=I.oc o1
 have hsz:its.toArray.size+i6.toArray.size≤sizeLine:=by rw[size_toArray,size_toArray];omega
 have Cg:¬(!its.toArray.isEmpty && Builtin.List.listTooLong (its.toArray.size+i6.toArray.size))=true:=by
  rw[GW hsz,Bool.and_false]
  exact Bool.false_ne_true
 refine call_meets F.slot_list_extend ⟨_,e,rfl⟩ F.entry_list_extend (F.args_list_extend_2 _ _)
  (AutoSeq1.list_extend_list_list_0 l its.toArray n b i6.toArray c_ Cg (by rw[size_toArray];omega) (by omega)) ⟨e,aQ,?_⟩
 refine⟨.cc,_,I.u0 (its':=its++i6) gI e (by simp) (r.append b7) ?_,rfl,q⟩
 rw[length_append]
 omega
def UT:V→List V→aj→ct→Prop:=fun x vs H Q=>∃l xs y,x=.ref l∧vs=[]∧H l=some (.lst xs)∧xs[xs.length - 1]?=some y∧Q y (upd H l (.lst xs.dropLast))
theorem H8:te X "list.pop" UT:=by
 intro pins s σ H x vs v us Q I bu bD h
 obtain⟨l,xs,y,rfl,rfl,gI,cA,q⟩:=h
 cases bu
 have vu:=bD.zero
 subst vu
 obtain⟨z,its,n,r,aG,e⟩:=I.oc gI
 obtain⟨u,bp,dW⟩:=r.get cA
 have sZ:its.toArray[its.toArray.size - 1]?=some u:=by
  show its.toArray[its.length - 1]?=some u
  rw[←Array.getElem?_toList,←aG]
  exact bp
 refine call_meets F.slot_list_pop ⟨_,e,rfl⟩ F.entry_list_pop (F.args_list_pop_1 _) (MeetsSeq.list_pop_last l its.toArray n u sZ (by rw[size_toArray];omega)) ⟨e,?_⟩
 refine⟨y,_,I.u0 (its':=its.dropLast) gI e ?_ r.dropLast ?_,dW,q⟩
 ·show its.toArray.eraseIdxIfInBounds (its.toArray.size - 1)=its.dropLast.toArray
  rw[size_toArray,List.eraseIdxIfInBounds_toArray,PR]
 ·rw[List.length_dropLast]
  omega
def QS:V→List V→aj→ct→Prop:=fun x vs H Q=>∃l xs,x=.ref l∧vs=[]∧H l=some (.lst xs)∧Q .cc (upd H l (.lst xs.reverse))
theorem PH:te X "list.reverse" QS:=by
 intro pins s σ H x vs v us Q I bu bD h
 obtain⟨l,xs,rfl,rfl,gI,q⟩:=h
 cases bu
 have vu:=bD.zero
 subst vu
 obtain⟨z,its,n,r,aG,e⟩:=I.oc gI
 refine call_meets F.slot_list_reverse ⟨_,e,rfl⟩ F.entry_list_reverse (F.args_list_reverse_1 _) (AutoSeq1.list_reverse_list_0 l its.toArray n (by rw[size_toArray];omega)) ⟨e,?_⟩
 refine⟨.cc,_,I.u0 (its':=its.reverse) gI e (by simp) r.reverse ?_,rfl,q⟩
 rw[length_reverse]
 omega
def UX:iV:=fun x y H Q=>∃l b xs zs,x=.ref l∧y=.ref b∧H l=some (.lst xs)∧H b=some (.lst zs)∧xs.length+zs.length≤sizeLine∧∀p,H p=none→Q (.ref p) (upd H p (.lst (xs++zs)))
theorem yf:gQ X (binaryOp .Add) UX:=by
 intro pins s σ H x y v u Q I bu bL h
 obtain⟨l,b,xs,zs,rfl,rfl,gI,o1,hz,q⟩:=h
 cases bu
 cases bL
 obtain⟨z,its,n,r,aG,e⟩:=I.oc gI
 obtain⟨d6,i6,c_,b7,zB,aQ⟩:=I.oc o1
 refine PySem.P.add_list e aQ ?_ (by rw[size_toArray,size_toArray];omega)
 have az:its.toArray++i6.toArray=(its++i6).toArray:=by simp
 rw[az]
 exact⟨.ref _,_,I.CE (t':=s.toks) (r.append b7) (by rw[length_append];omega),rfl,q _ I.fresh⟩
end
section
variable {prog:Program}{w:World}{A:Around}{E:Value→Shared→Prop}{s:Shared}
end
section
variable {X:br}
end
section
variable {κ:Type} [DecidableEq κ]
def dk (kvs:List (κ × V)) (k:κ):Option V:=(kvs.find? fun cy=>decide (cy.1=k)).map (·.2)
def putK (kvs:List (κ × V)) (k:κ) (v:V):List (κ × V) :=
 if (kvs.any fun cy=>decide (cy.1=k))=true then kvs.map (fun cy=>if cy.1=k then (cy.1,v) else cy) else kvs++[(k,v)]
def lp (kvs:List (κ × V)) (k:κ):List (κ × V):=kvs.filter fun cy=>decide (cy.1≠k)
theorem GJ {k:κ}:dk ([]:List (κ × V)) k=none:=rfl
theorem k7 {p:κ × V}{r:List (κ × V)}{k:κ}(e:p.1=k):dk (p::r) k=some p.2:=by simp[dk,find?_cons,e]
theorem k8 {p:κ × V}{r:List (κ × V)}{k:κ}(e:¬p.1=k):dk (p::r) k=dk r k:=by simp[dk,find?_cons,e]
theorem t9 (k:κ):∀kvs:List (κ × V),(kvs.any fun cy=>decide (cy.1=k))=(dk kvs k).isSome
 | []=>rfl
 | p::r=>by
  rw[any_cons]
  by_cases e:p.1=k
  ·simp only[k7 e,decide_eq_true e,Bool.true_or,Option.isSome_some]
  ·rw[k8 e,decide_eq_false e,Bool.false_or];exact t9 k r
theorem GK (k j:κ) (y:V):∀kvs:List (κ × V),dk (kvs.map fun cy=>if cy.1=k then (cy.1,y) else cy) j=(dk kvs j).map fun x=>if j=k then y else x
 | []=>rfl
 | p::r=>by
  have dt:=GK k j y r
  rw[map_cons]
  by_cases h:p.1=k
  ·rw[if_pos h]
   by_cases e:p.1=j
   ·rw[k7 (p:=(p.1,y)) e,k7 e,Option.map_some,if_pos (e.symm.trans h)]
   ·rw[k8 (p:=(p.1,y)) e,k8 e,dt]
  ·rw[if_neg h]
   by_cases e:p.1=j
   ·rw[k7 (p:=p) e,k7 e,Option.map_some,if_neg (fun z=>h (e.trans z))]
   ·rw[k8 (p:=p) e,k8 e,dt]
theorem Gk (k j:κ) (y:V):∀kvs:List (κ × V),dk kvs k=none→dk (kvs++[(k,y)]) j=if j=k then some y else dk kvs j
 | [],_=>by
  by_cases e:k=j
  ·rw[if_pos e.symm];exact k7 (p:=(k,y)) e
  ·rw[if_neg (fun z=>e z.symm)];exact k8 (p:=(k,y)) e
 | p::r,aN=>by
  rw[List.cons_append]
  have a4:¬p.1=k:=fun z=>by rw[k7 z]at aN;cases aN
  rw[k8 a4]at aN
  have dt:=Gk k j y r aN
  by_cases e:p.1=j
  ·rw[k7 e,k7 e,if_neg (fun z=>a4 (e.trans z))]
  ·rw[k8 e,k8 e,dt]
theorem t8 (kvs:List (κ × V)) (k j:κ) (y:V):dk (putK kvs k y) j=if j=k then some y else dk kvs j:=by
 unfold putK
 by_cases a:(kvs.any fun cy=>decide (cy.1=k))=true
 ·rw[if_pos a,GK]
  rw[t9]at a
  by_cases e:j=k
  ·obtain⟨x,aZ⟩:=Option.isSome_iff_exists.mp a
   rw[if_pos e,e,aZ,Option.map_some,if_pos rfl]
  ·rw[if_neg e]
   cases dk kvs j with
   | none=>rfl
   | some x=>rw[Option.map_some,if_neg e]
 ·rw[if_neg a]
  refine Gk k j y kvs ?_
  rw[t9]at a
  cases q:dk kvs k with
  | none=>rfl
  | some x=>rw[q]at a;exact (a rfl).elim
theorem pg (kvs:List (κ × V)) (k:κ) (v:V):(putK kvs k v).length≤kvs.length+1:=by
 unfold putK
 split
 ·rw[length_map];omega
 ·rw[length_append,length_cons,length_nil];omega
theorem QV {kvs:List (κ × V)}{k:κ}(v:V) (h:dk kvs k=none):putK kvs k v=kvs++[(k,v)]:=by
 unfold putK
 rw[t9,h]
 exact if_neg (by decide)
theorem h2.sj {o:Option V}{u:Option Value}(r:h2 o u):o.isSome=u.isSome:=by
 cases o with
 | none=>cases u with
  | none=>rfl
  | some _=>exact (show False from r).elim
 | some _=>cases u with
  | none=>exact (show False from r).elim
  | some _=>rfl
theorem h2.getD {o:Option V}{u:Option Value}{d:V}{d':Value}(r:h2 o u) (ja:RelV d d'):RelV (o.getD d) (u.getD d'):=by
 cases o with
 | none=>cases u with
  | none=>exact ja
  | some _=>exact (show False from r).elim
 | some _=>cases u with
  | none=>exact (show False from r).elim
  | some _=>exact r
theorem fl.val {kvs:List (κ × V)}{vs:List (κ × Value)}(r:fl kvs vs) (k:κ):h2 (dk kvs k) (valueAt vs k):=by
 unfold fl at r
 induction r with
 | nil=>exact True.intro
 | @cons p q aB lS h t dt =>
  obtain⟨av,aC⟩:=h
  by_cases e:p.1=k
  ·have dH:q.1=k:=av.symm.trans e
   have b:valueAt (q::lS) k=some q.2:=by simp[valueAt,find?_cons,dH]
   rw[k7 e,b];exact aC
  ·have dH:¬q.1=k:=fun z=>e (av.trans z)
   have b:valueAt (q::lS) k=valueAt lS k:=by simp[valueAt,find?_cons,dH]
   rw[k8 e,b];exact dt
theorem fl.any {kvs:List (κ × V)}{vs:List (κ × Value)}(r:fl kvs vs) (k:κ):(kvs.any fun cy=>decide (cy.1=k))=vs.any fun cy=>decide (cy.1=k):=by
 unfold fl at r
 induction r with
 | nil=>rfl
 | cons h t dt=>rw[any_cons,any_cons,dt,h.1]
theorem fl.Cv {kvs:List (κ × V)}{vs:List (κ × Value)}(r:fl kvs vs) (k:κ) {y:V}{u:Value}(bL:RelV y u) :
  fl (kvs.map fun cy=>if cy.1=k then (cy.1,y) else cy) (vs.map fun cy=>if cy.1=k then (cy.1,u) else cy):=by
 unfold fl at r ⊢
 induction r with
 | nil=>exact .nil
 | @cons p q aB lS h t dt =>
  rw[map_cons,map_cons]
  refine .cons ?_ dt
  obtain⟨av,aC⟩:=h
  by_cases e:p.1=k
  ·rw[if_pos e,if_pos (av.symm.trans e)];exact⟨av,bL⟩
  ·rw[if_neg e,if_neg (fun z=>e (av.trans z))];exact⟨av,aC⟩
theorem fl.put {kvs:List (κ × V)}{vs:List (κ × Value)}(r:fl kvs vs) (k:κ) {y:V}{u:Value}(bL:RelV y u):fl (putK kvs k y) (stored vs k u):=by
 unfold putK stored
 rw[r.any k]
 by_cases e:(vs.any fun cy=>decide (cy.1=k))=true
 ·rw[if_pos e,if_pos e];exact r.Cv k bL
 ·rw[if_neg e,if_neg e];exact Paired.snoc r ⟨rfl,bL⟩
theorem fl.drop {kvs:List (κ × V)}{vs:List (κ × Value)}(r:fl kvs vs) (k:κ):fl (lp kvs k) (without vs k):=by
 unfold fl at r ⊢
 unfold lp without
 induction r with
 | nil=>exact .nil
 | @cons p q aB lS h t dt =>
  obtain⟨av,aC⟩:=h
  rw[filter_cons,filter_cons]
  by_cases e:p.1=k
  ·have a:¬decide (p.1≠k)=true:=by simp[e]
   have b:¬decide (q.1≠k)=true:=by simp[av.symm.trans e]
   rw[if_neg a,if_neg b];exact dt
  ·have dH:¬q.1=k:=fun z=>e (av.trans z)
   have a:decide (p.1≠k)=true:=by simp[e]
   have b:decide (q.1≠k)=true:=by simp[dH]
   rw[if_pos a,if_pos b];exact .cons ⟨av,aC⟩ dt
theorem fl.keys {kvs:List (κ × V)}{vs:List (κ × Value)}(r:fl kvs vs):kvs.map (·.1)=vs.map (·.1):=by
 unfold fl at r
 induction r with
 | nil=>rfl
 | cons h t dt=>rw[map_cons,map_cons,dt,h.1]
theorem fl.length {kvs:List (κ × V)}{vs:List (κ × Value)}(r:fl kvs vs):kvs.length=vs.length:=Paired.length r
theorem G6 (kvs:List (κ × V)) (k:κ):(lp kvs k).length≤kvs.length:=length_filter_le _ _
end
theorem nj {P:Program}{w:World}{k:Key}{u:Value}(r:RelV (dZ k) u):(ho P w).is k u=true:=by
 cases k with
 | inl i=>obtain⟨t,e⟩:=(show ∃t,u=Value.int i t from r);subst e;exact Pp P w i t
 | inr x=>obtain⟨t,e⟩:=(show ∃t,u=Value.str x t from r);subst e;exact Po P w x t
theorem Gw {P:Program}{w:World}:∀{ic:List Key}{us:List Value},Vals (ic.map dZ) us→ItemsAre (ho P w) ic us
 | [],_,r=>by rw[map_nil]at r;cases r;exact .nil
 | k::ic,_,r=>by
  rw[map_cons]at r
  cases r with
  | cons h t=>exact .cons (nj h) (Gw t)
abbrev KT (H:aj):List (List Key × V)→List (List Key × Addr × Value)→Prop:=Paired fun p q=>p.1=q.1∧H q.2.1=some (.tup (p.1.map dZ))∧RelV p.2 q.2.2
theorem KT.val {H:aj}{kvs:List (List Key × V)}{xs:List (List Key × Addr × Value)}(r:KT H kvs xs) (k:List Key):h2 (dk kvs k) ((atKey xs k).map (·.2)):=by
 induction r with
 | nil=>exact True.intro
 | @cons p q aB lS h t dt =>
  obtain⟨av,_,aC⟩:=h
  by_cases e:p.1=k
  ·have dH:q.1=k:=av.symm.trans e
   have b:atKey (q::lS) k=some q.2:=by simp[atKey,find?_cons,dH]
   rw[k7 e,b];exact aC
  ·have dH:¬q.1=k:=fun z=>e (av.trans z)
   have b:atKey (q::lS) k=atKey lS k:=by simp[atKey,find?_cons,dH]
   rw[k8 e,b];exact dt
theorem KT.Cv {H:aj}{kvs:List (List Key × V)}{xs:List (List Key × Addr × Value)}(r:KT H kvs xs) (k:List Key) {y:V}{u:Value}(bL:RelV y u) :
  KT H (kvs.map fun cy=>if cy.1=k then (cy.1,y) else cy) (xs.map (putAt k u)):=by
 induction r with
 | nil=>exact .nil
 | @cons p q aB lS h t dt =>
  rw[map_cons,map_cons]
  refine .cons ?_ dt
  obtain⟨av,aC,cB⟩:=h
  unfold putAt
  by_cases e:p.1=k
  ·rw[if_pos e,if_pos (av.symm.trans e)];exact⟨av,aC,bL⟩
  ·rw[if_neg e,if_neg (fun z=>e (av.trans z))];exact⟨av,aC,cB⟩
theorem KT.put {H:aj}{kvs:List (List Key × V)}{xs:List (List Key × Addr × Value)}(r:KT H kvs xs) (k:List Key) {b:Addr}{y:V}{u:Value}(aa:H b=some (.tup (k.map dZ))) (bL:RelV y u) :
  KT H (putK kvs k y) (storedH xs k b u):=by
 have e:(kvs.any fun cy=>decide (cy.1=k))=(atKey xs k).isSome:=by
  rw[t9,(r.val k).sj,Option.isSome_map]
 unfold putK storedH
 rw[e]
 by_cases q:(atKey xs k).isSome=true
 ·rw[if_pos q,if_pos q];exact r.Cv k bL
 ·rw[if_neg q,if_neg q];exact Paired.snoc r ⟨rfl,aa,bL⟩
theorem KT.keeps {H af:aj}{kvs:List (List Key × V)}{xs:List (List Key × Addr × Value)}(r:KT H kvs xs) (bG:∀b ys,H b=some (.tup ys)→af b=some (.tup ys)):KT af kvs xs :=
 Paired.CD r fun _ _ z=>⟨z.1,bG _ _ z.2.1,z.2.2⟩
section
variable {P:Program}{w:World}{H:aj}{h:Heap}{a:Addr}
theorem Io {u:eU}(ok:ep P w H h) (e:m7 H a u):fa P w H h a u:=e.ok ok
theorem qR {kvs:List (Key × V)}(ok:ep P w H h) (e:m7 H a (.b2 kvs)):kvs.length≤sizeLine∧(a == sysModules)=false∧∃vs,fl kvs vs∧h.DictOf (ho P w) a vs :=
 show fa P w H h a (.b2 kvs) from Io ok e
theorem sJ {kvs:List (Key × V)}(ok:ep P w H h) (e:H a=some (.b2 kvs)):kvs.length≤sizeLine∧(a == sysModules)=false∧∃vs,fl kvs vs∧h.DictOf (ho P w) a vs:=qR ok (.inl e)
theorem sC {ic:List Key}(ok:ep P w H h) (e:H a=some (.tup (ic.map dZ))):(tupleKind (ho P w)).is h ic a:=by
 obtain⟨_,its,r,o,av,aC,n,cB⟩:=(show fa P w H h a (.tup (ic.map dZ)) from ok a _ e)
 exact⟨o,its.toArray,n,av,aC,cB,by simpa using Gw r⟩
theorem qQ {kvs:List (List Key × V)}(ok:ep P w H h) (e:m7 H a (.hj kvs)):kvs.length≤sizeLine∧(a == sysModules)=false ∧
  ∃xs,KT H kvs xs∧h.DictOfH (tupleKind (ho P w)) a xs:=by
 obtain⟨z,y,xs,r,o,aM,cL,av,aC,cB,dw,gs⟩:=(show fa P w H h a (.hj kvs) from Io ok e)
 refine⟨z,y,xs,r,o,aM,cL,av,aC,cB,dw,fun x aZ=>?_,gs⟩
 have all:∀{l:List (List Key × V)} {m:List (List Key × Addr × Value)},KT H l m→∀x∈m,(tupleKind (ho P w)).is h x.1 x.2.1:=by
  intro l m q
  induction q with
  | nil=>intro x aZ;exact nomatch aZ
  | @cons p q aB lS bN t dt =>
   intro x aZ
   rcases mem_cons.mp aZ with e | aZ
   ·subst e
    exact sC ok (by rw[←bN.1];exact bN.2.1)
   ·exact dt x aZ
 exact all r x aZ
theorem Uj {kvs:List (List Key × V)}(ok:ep P w H h) (e:H a=some (.hj kvs)):kvs.length≤sizeLine∧(a == sysModules)=false ∧
  ∃xs,KT H kvs xs∧h.DictOfH (tupleKind (ho P w)) a xs:=qQ ok (.inl e)
end
def fb (H:aj) (a:Addr) (y:V) (r:Option V):Prop :=
 (∃kvs k,m7 H a (.b2 kvs)∧y=dZ k∧r=dk kvs k)∨∃kvs k b,m7 H a (.hj kvs)∧y=.ref b∧H b=some (.tup (k.map dZ))∧r=dk kvs k
def om (H:aj) (a:Addr) (y v:V) (af:aj):Prop :=
 (∃kvs k,H a=some (.b2 kvs)∧y=dZ k∧kvs.length<sizeLine∧af=upd H a (.b2 (putK kvs k v))) ∨
 ∃kvs k b,H a=some (.hj kvs)∧y=.ref b∧H b=some (.tup (k.map dZ))∧kvs.length<sizeLine∧af=upd H a (.hj (putK kvs k v))
theorem fb.k {H:aj}{a:Addr}{kvs:List (Key × V)}{k:Key}(e:H a=some (.b2 kvs)):fb H a (dZ k) (dk kvs k):=.inl ⟨kvs,k,.inl e,rfl,rfl⟩
theorem om.k {H:aj}{a:Addr}{kvs:List (Key × V)}{k:Key}{v:V}(e:H a=some (.b2 kvs)) (aG:kvs.length<sizeLine):om H a (dZ k) v (upd H a (.b2 (putK kvs k v))):=.inl ⟨kvs,k,e,rfl,aG,rfl⟩
section
variable {X:br}{pins:List (Addr × Obj)}{σ:St}{H:aj}{s:Shared}{a:Addr}{y v:V}{u r:Value}{o:Option V}{A:Around}{E:Value→Shared→Prop}
theorem Inv.big (I:Inv X pins σ H s):sysModules<s.heap.objs.size:=by
 have h:mainGlobals<s.heap.objs.size:=(I.mod.glob.keeps I.hk).lt
 exact Nat.lt_trans (by decide) h
theorem Qw {Q:Value→Shared→Prop}(bp:A.units+1<cLine) (I:Inv X pins σ H s) (g:fb H a y (some v)) (bL:RelV y u) (h:∀d5 aL,Inv X pins σ H aL→RelV v d5→Q d5 aL) :
  wpAny (model X.prog X.w) A (getItem (.ref a) u) Q E s:=by
 rcases g with ⟨kvs,k,e,fu,l⟩ | ⟨kvs,k,b,e,fu,es,l⟩
 ·subst fu
  obtain⟨z,hd,vs,rel,dd⟩:=qR I.bC e
  obtain⟨d5,hw,jr⟩:=h2.some_of (v:=v) (o:=valueAt vs k) (by rw[l];exact rel.val k)
  exact wpAny_getItem_of (nj bL) dd.mapOf hw (h d5 _ (I.tok _) jr)
 ·subst fu
  cases (show u=Value.ref b from bL)
  obtain⟨z,hd,xs,rel,dd⟩:=qQ I.bC e
  obtain⟨d5,hw,jr⟩:=h2.some_of (v:=v) (o:=(atKey xs k).map (·.2)) (by rw[l];exact rel.val k)
  obtain⟨p,aD,WL⟩:=Option.map_eq_some_iff.mp hw
  refine wpAny_getItem_heap (tupleKind_room_in1 bp) (sC I.bC es) dd aD ?_
  rw[WL]
  exact h d5 _ (I.tok _) jr
theorem Vt {Q:Value→Shared→Prop}(bp:A.units+1<cLine) (I:Inv X pins σ H s) (g:fb H a y o) (bL:RelV y u) (h:∀aL,Inv X pins σ H aL→Q (.bool o.isSome) aL) :
  wpAny (model X.prog X.w) A (compareOp .In u (.ref a)) Q E s:=by
 rcases g with ⟨kvs,k,e,fu,l⟩ | ⟨kvs,k,b,e,fu,es,l⟩
 ·subst fu
  obtain⟨z,hd,vs,rel,dd⟩:=qR I.bC e
  refine wpAny_in_of (nj bL) hd dd.mapOf ?_
  rw[←(rel.val k).sj,←l]
  exact h _ (I.tok _)
 ·subst fu
  cases (show u=Value.ref b from bL)
  obtain⟨z,hd,xs,rel,dd⟩:=qQ I.bC e
  refine wpAny_in_heap (tupleKind_room_in1 bp) (sC I.bC es) hd dd ?_
  have q:=(rel.val k).sj
  rw[Option.isSome_map]at q
  rw[←q,←l]
  exact h _ (I.tok _)
theorem Sf {Q:Value→Shared→Prop}(bp:A.units+1<cLine) (I:Inv X pins σ H s) (g:fb H a y o) (bL:RelV y u) (h:∀aL,Inv X pins σ H aL→Q (.bool (!o.isSome)) aL) :
  wpAny (model X.prog X.w) A (compareOp .NotIn u (.ref a)) Q E s:=by
 rcases g with ⟨kvs,k,e,fu,l⟩ | ⟨kvs,k,b,e,fu,es,l⟩
 ·subst fu
  obtain⟨z,hd,vs,rel,dd⟩:=qR I.bC e
  refine wpAny_notIn_of (nj bL) hd dd.mapOf ?_
  rw[←(rel.val k).sj,←l]
  exact h _ (I.tok _)
 ·subst fu
  cases (show u=Value.ref b from bL)
  obtain⟨z,hd,xs,rel,dd⟩:=qQ I.bC e
  refine wpAny_notIn_heap (tupleKind_room_in1 bp) (sC I.bC es) hd dd ?_
  have q:=(rel.val k).sj
  rw[Option.isSome_map]at q
  rw[←q,←l]
  exact h _ (I.tok _)
theorem sv {h':Heap}{t':Nat}{bT:eU}(I:Inv X pins σ H s) (kh:vR (H a)) (aS:Heap.SameBut a s.heap h') (he:∃q,h'.get? a=some q) (new:fa X.prog X.w (upd H a bT) h' a bT) :
  Inv X pins σ (upd H a bT) { s with heap:=h',toks:=t' } :=
 I.write (x:=a) (e:=a) kh (.inl rfl) (fun b q aa z=>(aS.2 b aa).trans z) he new
theorem uG {P:Program}{w:World}{af:aj}{h':Heap}{kvs:List (Key × V)}{vs:List (Key × Value)}(z:kvs.length≤sizeLine) (hd:(a == sysModules)=false) (rel:fl kvs vs) (dd:h'.DictOf (ho P w) a vs) :
  fa P w af h' a (.b2 kvs):=⟨z,hd,vs,rel,dd⟩
theorem Qv {af:aj}{Q:Unit→Shared→Prop}(bp:A.units+1<cLine) (I:Inv X pins σ H s) (g:om H a y v af) (bL:RelV y u) (bD:RelV v r) (h:∀aL,Inv X pins σ af aL→Q () aL) :
  wpAny (model X.prog X.w) A (setItem (.ref a) u r) Q E s:=by
 rcases g with ⟨kvs,k,e,fu,l,E8⟩ | ⟨kvs,k,b,e,fu,es,l,E8⟩
 ·subst fu E8
  obtain⟨z,hd,vs,rel,dd⟩:=sJ I.bC e
  have hz:vs.length≤sizeLine:=by rw[←rel.length];exact z
  have aG:(putK kvs k v).length≤sizeLine:=by have:=pg kvs k v;omega
  refine wpAny_setItem_pairs (hsz:=hz) (nj bL) dd fun h' jB aS=>h _ ?_
  have he:∃q,h'.get? a=some q:=let ⟨q,_,_,bN,_⟩:=jB;⟨q,bN⟩
  exact sv I (by rw[e];exact True.intro) aS he (uG aG hd (rel.put k bD) jB)
 ·subst fu E8
  cases (show u=Value.ref b from bL)
  obtain⟨z,hd,xs,rel,dd⟩:=Uj I.bC e
  have hz:xs.length≤sizeLine:=by rw[←Paired.length rel];exact z
  have aG:(putK kvs k v).length≤sizeLine:=by have:=pg kvs k v;omega
  refine wpAny_setItem_heap (hsz:=hz) (tupleKind_room_in1 bp) (sC I.bC es) dd fun h' jB aS=>h _ ?_
  obtain⟨q,aM,cL,bN,aC,cB,dw,_,gs⟩:=jB
  refine sv I (by rw[e];exact True.intro) aS ⟨q,bN⟩ ⟨aG,hd,_,(rel.put k es bD).keeps fun c ys gJ=>?_,q,aM,cL,bN,aC,cB,dw,gs⟩
  rw[ay (dv gJ e (fun z=>nomatch z))]
  exact gJ
end
section
variable {X:br}{pins:List (Addr × Obj)}{σ:St}{H:aj}{s:Shared}{a:Addr}{kvs:List (Key × V)}{k:Key}{u:Value}{A:Around}{E:Value→Shared→Prop}
theorem Zj {Q:Unit→Shared→Prop}(I:Inv X pins σ H s) (e:H a=some (.b2 kvs)) (bL:RelV (dZ k) u) (l:(dk kvs k).isSome=true) (h:∀aL,Inv X pins σ (upd H a (.b2 (lp kvs k))) aL→Q () aL) :
  wpAny (model X.prog X.w) A (delItem (.ref a) u) Q E s:=by
 obtain⟨z,hd,vs,rel,dd⟩:=sJ I.bC e
 refine wpAny_delItem_slot dd.typeIs (by decide) PySem.F.slot_dict_delitem
  (call_meetsIn PySem.F.slot_dict_delitem dd.typeIs PySem.F.entry_dict_delitem (PySem.F.args_dict_delitem_2 _ _) (meets_dict_delitem_pairs (ho X.prog X.w) a (nj bL)) ⟨vs,dd,by rw[←rel.length];exact z,by rw[←(rel.val k).sj];exact l,fun h' jB aS=>h _ ?_⟩)
 have he:∃q,h'.get? a=some q:=let ⟨q,_,_,bN,_⟩:=jB;⟨q,bN⟩
 exact sv I (by rw[e];exact True.intro) aS he (uG (le_trans (G6 kvs k) z) hd (rel.drop k) jB)
theorem Uk {v:V}{more:List Value}{Q:Value→Shared→Prop}(I:Inv X pins σ H s) (e:H a=some (.b2 kvs)) (bL:RelV (dZ k) u) (l:dk kvs k=some v) (hm:more=[]∨∃x,more=[x])
  (h:∀d5 aL,Inv X pins σ (upd H a (.b2 (lp kvs k))) aL→RelV v d5→Q d5 aL):wpAny (model X.prog X.w) A (call (.builtin "dict.pop") (.ref a::u::more)) Q E s:=by
 obtain⟨z,hd,vs,rel,dd⟩:=sJ I.bC e
 obtain⟨d5,hw,jr⟩:=h2.some_of (v:=v) (o:=valueAt vs k) (by rw[←l];exact rel.val k)
 have aD:(keyPart u).isSome=true:=by
  cases k with
  | inl i=>obtain⟨t,q⟩:=(show ∃t,u=Value.int i t from bL);subst q;rfl
  | inr x=>obtain⟨t,q⟩:=(show ∃t,u=Value.str x t from bL);subst q;rfl
 have bf:argsOk "dict.pop" ⟨.ref a::u::more,[]⟩:=by
  rcases hm with q | ⟨x,q⟩
  ·subst q;exact PySem.F.args_dict_pop_2 _ _
  ·subst q;exact PySem.F.args_dict_pop_3 _ _ _
 refine call_meetsIn PySem.F.slot_dict_pop dd.typeIs PySem.F.entry_dict_pop bf (meets_dict_pop_there (ho X.prog X.w) a (nj bL) more hm aD)
  ⟨vs,d5,dd,by rw[←rel.length];exact z,hw,fun h' jB aS=>h d5 _ ?_ jr⟩
 have he:∃q,h'.get? a=some q:=let ⟨q,_,_,bN,_⟩:=jB;⟨q,bN⟩
 exact sv I (by rw[e];exact True.intro) aS he (uG (le_trans (G6 kvs k) z) hd (rel.drop k) jB)
end
def Kh (i:Expr):Prop:=∀bW ie,subscripted i false bW ie=operate [bW,ie] (getItem bW ie)
theorem RG {prog:Program}{w:World}{A:Around}{E:Value→Shared→Prop}{s:Shared}{env:Env}{value slice:Expr}{pos:Pos}{T id:String}{Q:Value→Shared→Prop}
  (aG:typeLookup (.type T) "__getitem__"=pure (some (.builtin id))) (aS:Kh slice)
  (h:wpAny (model prog w) A (eval value env) (fun o c2=>wpAny (model prog w) A (eval slice env) (fun i hK=>hK.TypeIs o T∧wpAny (model prog w) A (getItem o i) Q E hK) E c2) E s) :
  wpAny (model prog w) A (eval (.Subscript value slice pos) env) Q E s:=by
 refine Subscript_ (wpAny_mono h (fun o c2 gH=>wpAny_mono gH (fun i hK lZ=>?_) fun _ _ x=>x) fun _ _ x=>x)
 obtain⟨ig,lZ⟩:=lZ
 unfold subscriptTail
 refine wpAny_bind ?_
 rw[getitemInPython_of_ne ig.not_modules]
 refine wpAny_bind (wpAny_specialOf ig aG ?_)
 have fin:wpAny (model prog w) A (subscripted slice false o i) (fun r hI=>wpAny (model prog w) A (letTemporaryGo value o r >>= fun _=>pure r) Q E hI) E hK:=by
  rw[aS o i]
  exact wpAny_operating (wpAny_mono lZ (fun r hI wA=>wpAny_bind (wpAny_letTemporaryGo (wpAny_pure wA))) fun _ _ x=>x)
 first
  | exact wpAny_pure (wpAny_bind fin)
  | exact wpAny_bind (wpAny_pure (wpAny_bind fin))
  | exact wpAny_bind fin
theorem Pu {X:br}{pins:List (Addr × Obj)}{σ:St}{H:aj}{s:Shared}{a:Addr}{y:V}{o:Option V}(I:Inv X pins σ H s) (g:fb H a y o):s.TypeIs (.ref a) "dict":=by
 rcases g with ⟨kvs,k,e,_,_⟩ | ⟨kvs,k,b,e,_,_,_⟩
 ·obtain⟨_,_,vs,_,dd⟩:=qR I.bC e
  exact dd.typeIs
 ·obtain⟨_,_,xs,_,dd⟩:=qQ I.bC e
  exact dd.typeIs
def Tu (gE ty:TE):TE:=fun σ H Q=>gE σ H fun x H1=>ty σ H1 fun y aq=>∃a v,x=.ref a∧fb aq a y (some v)∧Q v aq
def Uy (ty gE:TE):TE:=fun σ H Q=>ty σ H fun y H1=>gE σ H1 fun x aq=>∃a o,x=.ref a∧fb aq a y o∧Q (.b8 o.isSome) aq
def RE (ty gE:TE):TE:=fun σ H Q=>ty σ H fun y H1=>gE σ H1 fun x aq=>∃a o,x=.ref a∧fb aq a y o∧Q (.b8 (!o.isSome)) aq
def TJ (gE ty iC:TE):d8:=fun D σ H=>iC σ H fun v H1=>gE σ H1 fun x aq=>ty σ aq fun y a3=>∃a c6,x=.ref a∧om a3 a y v c6∧D.c9 σ c6
section
variable {X:br}{o i e value:Expr}{pos pos' Ja:Pos}{gE ty iC:TE}
theorem ew (bp:X.A.units+1<cLine) (aF:b4 X o gE) (aW:b4 X i ty) (aS:Kh i):b4 X (.Subscript o i pos) (Tu gE ty):=by
 intro pins s σ H Q I h
 refine RG PySem.F.slot_dict_getitem.lookup aS (bV (aF pins s σ H _ I h) fun u s1 ⟨x,H1,aR,bu,bw⟩=>bV (aW pins s1 σ H1 _ aR bw) fun ie s2 ⟨y,aq,cF,bL,a,v,ex,g,aU⟩=>?_)
 subst ex
 obtain rfl:u=Value.ref a:=bu
 exact⟨Pu cF g,Qw bp cF g bL fun d5 s3 cS jr=>⟨v,aq,cS,jr,aU⟩⟩
theorem BY (bp:X.A.units+1<cLine) (aW:b4 X i ty) (aF:b4 X o gE):Ff X .In i o (Uy ty gE):=by
 intro pins s σ H Q I h
 refine bV (aW pins s σ H _ I h) fun ie s1 ⟨y,H1,aR,bL,bw⟩=>bV (aF pins s1 σ H1 _ aR bw) fun u s2 ⟨x,aq,cF,bu,a,bW,ex,g,aU⟩=>?_
 subst ex
 obtain rfl:u=Value.ref a:=bu
 exact Vt bp cF g bL fun s3 cS=>⟨.b8 bW.isSome,aq,cS,rfl,aU⟩
theorem Gs (bp:X.A.units+1<cLine) (aW:b4 X i ty) (aF:b4 X o gE):Ff X .NotIn i o (RE ty gE):=by
 intro pins s σ H Q I h
 refine bV (aW pins s σ H _ I h) fun ie s1 ⟨y,H1,aR,bL,bw⟩=>bV (aF pins s1 σ H1 _ aR bw) fun u s2 ⟨x,aq,cF,bu,a,bW,ex,g,aU⟩=>?_
 subst ex
 obtain rfl:u=Value.ref a:=bu
 exact Sf bp cF g bL fun s3 cS=>⟨.b8 (!bW.isSome),aq,cS,rfl,aU⟩
theorem nd (bp:X.A.units+1<cLine) (aF:b4 X o gE) (aW:b4 X i ty) (bA:b4 X value iC) (aS:swapsWith value (some (.Subscript o i pos')) pos.line X.env=pure false) :
  jg X (.Assign [.Subscript o i pos'] value pos) (TJ gE ty iC):=by
 intro pins s σ H D I h
 refine wpAny_Assign_Subscript (bV (bA pins s σ H _ I h) fun r s1 ⟨v,H1,aR,bD,bw⟩=>bV (aF pins s1 σ H1 _ aR bw) fun u s2 ⟨x,aq,cF,bu,aU⟩=>bV (aW pins s2 σ aq _ cF aU) fun ie s3 ⟨y,a3,cS,bL,a,c6,ex,g,fp⟩=>?_) aS
 subst ex
 obtain rfl:u=Value.ref a:=bu
 exact Qv bp cS g bL bD fun s4 gL=>⟨σ,c6,gL,fp⟩
end
theorem A7 {P:Program}{w:World}{H:aj}(h:Heap) (aa:sysModules<h.objs.size):fa P w H (h.push { cls:=.type "dict",data:=.dict #[] }) h.objs.size (.b2 []) :=
 ⟨zero_le _,beq_eq_false_iff_ne.mpr (Ne.symm (ne_of_lt aa)),[],.nil,Heap.DictOf.new h⟩
def Sm:TE:=fun _ H Q=>∀p,H p=none→Q (.ref p) (upd H p (.b2 []))
section
variable {X:br}{pos:Pos}
theorem xH:b4 X (.Dict [] [] pos) Sm:=fun pins s σ H Q I h =>
 wpAny_Dict_empty ⟨.ref s.heap.objs.size,_,I.laid (a:=s.heap.objs.size) (o:=.b2 []) (t':=s.toks) (fun _ _ q=>get?_push_of_some _ q) (le_refl _) (A7 s.heap I.big),rfl,h _ (I.bC.fresh (le_refl _))⟩
end
def Bt:List (TE × TE)→St→aj→(List (V × V)→aj→Prop)→Prop
 | [],_,H,Q=>Q [] H
 | (bz,iC)::r,σ,H,Q=>bz σ H fun x H1=>iC σ H1 fun y aq=>Bt r σ aq fun aB a3=>Q ((x,y)::aB) a3
abbrev OS:List (V × V)→List (Value × Value)→Prop:=Paired fun p q=>RelV p.1 q.1∧RelV p.2 q.2
def zN (X:br) (pos:Pos) (keys:List (Option Expr)) (values:List Expr) (oo:List (TE × TE)):Prop :=
 ∀(pins:List (Addr × Obj)) (s:Shared) (σ:St) (H:aj) (Q:List (V × V)→aj→Prop),Inv X pins σ H s→Bt oo σ H Q →
  wpAny (model X.prog X.w) X.A (evalPairs (pairTrees keys values X.env pos)) (fun vs aL=>∃aB af,Inv X pins σ af aL∧OS aB vs∧Q aB af) X.dp s
theorem RU {X:br}{pos:Pos}:zN X pos [] [] []:=fun pins s σ H Q I h=>pairTrees_nil_walk ⟨[],H,I,.nil,h⟩
theorem xF {X:br}{pos:Pos}{k v:Expr}{ic:List (Option Expr)}{vs:List Expr}{bz iC:TE}{oo:List (TE × TE)}(a4:b4 X k bz) (bA:b4 X v iC) (aI:zN X pos ic vs oo) :
  zN X pos (some k::ic) (v::vs) ((bz,iC)::oo):=fun pins s σ H Q I h =>
 pairTrees_cons_walk (bV (a4 pins s σ H _ I h) fun u s1 ⟨x,H1,aR,bu,bw⟩=>bV (bA pins s1 σ H1 _ aR bw) fun eL s2 ⟨y,aq,cF,bL,aU⟩ =>
  bV (aI pins s2 σ aq _ cF aU) fun ws s3 ⟨aB,a3,cS,rel,fp⟩=>⟨(x,y)::aB,a3,cS,.cons ⟨bu,bL⟩ rel,fp⟩)
def lg (kvs more:List (Key × V)):List (Key × V):=more.foldl (fun acc cy=>putK acc cy.1 cy.2) kvs
theorem fl.merge:∀{more:List (Key × V)}{rs:List (Key × Value)}{kvs:List (Key × V)}{vs:List (Key × Value)},fl more rs→fl kvs vs→fl (lg kvs more) (merged vs rs):=by
 intro more rs kvs vs r
 unfold fl at r
 induction r generalizing kvs vs with
 | nil=>intro q;exact q
 | @cons p q aB lS h t dt =>
  intro z6
  have e:fl (putK kvs p.1 p.2) (stored vs q.1 q.2):=by
   have:=z6.put p.1 h.2
   rw[←h.1];exact this
  exact dt e
theorem AA:∀(more kvs:List (Key × V)),(lg kvs more).length≤kvs.length+more.length
 | [],kvs=>by show kvs.length≤kvs.length+0;omega
 | p::r,kvs=>by
  have av:=AA r (putK kvs p.1 p.2)
  have aC:=pg kvs p.1 p.2
  show (lg (putK kvs p.1 p.2) r).length≤_
  rw[length_cons];omega
theorem Gi {P:Program}{w:World}:∀{kvs:List (Key × V)}{ws:List (Value × Value)},OS (kvs.map fun cy=>(dZ cy.1,cy.2)) ws→∃rs,Carries (ho P w) ws rs∧fl kvs rs
 | [],_,r=>by rw[map_nil]at r;cases r;exact⟨[],True.intro,.nil⟩
 | p::kvs,_,r=>by
  rw[map_cons]at r
  cases r with
  | @cons a b as bs h t =>
   obtain⟨rs,c,q⟩:=Gi (P:=P) (w:=w) t
   obtain⟨en,fk⟩:=b
   exact⟨(p.1,fk)::rs,⟨nj h.1,rfl,c⟩,.cons ⟨rfl,h.2⟩ q⟩
def Tt (oo:List (TE × TE)):TE:=fun σ H Q=>∀p,H p=none→Bt oo σ (upd H p (.b2 [])) fun aB aq=>aq p=some (.b2 [])∧∃kvs:List (Key × V),aB=kvs.map (fun cy=>(dZ cy.1,cy.2))∧kvs.length≤15∧Q (.ref p) (upd aq p (.b2 (lg [] kvs)))
theorem RW {X:br}{pos:Pos}{keys:List (Option Expr)}{values:List Expr}{oo:List (TE × TE)}(h:zN X pos keys values oo) (sP:keys.all (·.isSome)=true) (aG:keys.length=values.length) (h0:keys≠[])
  (Xf:keys.length≤15):b4 X (.Dict keys values pos) (Tt oo):=by
 intro pins s σ H Q I q
 have aN:=I.bC.fresh (le_refl s.heap.objs.size)
 have aR:=I.laid (a:=s.heap.objs.size) (o:=.b2 []) (h':=s.heap.push { cls:=.type "dict",data:=.dict #[] }) (t':=s.toks) (fun _ _ q=>get?_push_of_some _ q) (le_refl _) (A7 s.heap I.big)
 refine wpAny_Dict_walk (knd:=ho X.prog X.w) sP aG h0 Xf (bV (h pins _ σ _ _ aR (q _ aN)) fun ws s2 ⟨aB,aq,cF,rel,e,kvs,cL,lk,aU⟩=>?_)
 subst cL
 obtain⟨rs,c,EN⟩:=Gi (P:=X.prog) (w:=X.w) rel
 obtain⟨z,hd,Zx,z6,dd⟩:=sJ cF.bC e
 cases z6
 refine⟨rs,c,dd,fun h' jB aS=>⟨.ref s.heap.objs.size,_,?_,rfl,aU⟩⟩
 have hz:(lg [] kvs).length≤sizeLine:=by
  have av:=AA kvs []
  rw[length_nil]at av
  rw[sizeLine_eq];omega
 have he:∃q,h'.get? s.heap.objs.size=some q:=let ⟨q,_,_,bN,_⟩:=jB;⟨q,bN⟩
 exact sv cF (by rw[e];exact True.intro) aS he (uG hz hd (EN.merge .nil) jB)
structure Za (X:br) (o:Expr) (m:Str) (apos:Pos) (e:Expr) (gn:Pos):Prop where
 base:attributeBase o m X.env (eval o X.env)=eval o X.env
 DR:((backTo gn (starEach [e] X.env)).all (fun x => !x.1) && (backToKw gn (keywordEach [] X.env)).all (fun x=>x.1.isSome)
  && decide (([e]:List Expr).length+([]:List Keyword).length+(if ([]:List Keyword).isEmpty then 0 else 1)<30))=true
 line:(apos.endLine == gn.line)=true
 trees:backTo gn (starEach [e] X.env)=[(false,eval e X.env)]
structure M2 (X:br) (o:Expr) (m:Str) (apos:Pos) (e f:Expr) (gn:Pos):Prop where
 base:attributeBase o m X.env (eval o X.env)=eval o X.env
 DR:((backTo gn (starEach [e,f] X.env)).all (fun x => !x.1) && (backToKw gn (keywordEach [] X.env)).all (fun x=>x.1.isSome)
  && decide (([e,f]:List Expr).length+([]:List Keyword).length+(if ([]:List Keyword).isEmpty then 0 else 1)<30))=true
 line:(apos.endLine == gn.line)=true
 trees:backTo gn (starEach [e,f] X.env)=[(false,eval e X.env),(false,eval f X.env)]
def D_ (H:aj) (a:Addr):Prop:=(∃kvs,m7 H a (.b2 kvs))∨∃kvs,m7 H a (.hj kvs)
theorem H9 {X:br}{pins:List (Addr × Obj)}{σ:St}{H:aj}{s:Shared}{a:Addr}(I:Inv X pins σ H s) (d:D_ H a) :
  s.TypeIs (.ref a) "dict"∧(∀b,Value.ref a=.ref b→∃bT,s.heap.get? b=some bT∧bT.dict=none)∧(a == sysModules)=false:=by
 rcases d with ⟨kvs,e⟩ | ⟨kvs,e⟩
 ·obtain⟨_,hd,vs,_,dd⟩:=qR I.bC e
  refine⟨dd.typeIs,fun b q=>?_,hd⟩
  cases q
  obtain⟨bT,_,_,av,aC,_⟩:=dd
  exact⟨bT,av,aC.2.1⟩
 ·obtain⟨_,hd,xs,_,dd⟩:=qQ I.bC e
  refine⟨dd.typeIs,fun b q=>?_,hd⟩
  cases q
  obtain⟨bT,_,_,av,aC,_⟩:=dd
  exact⟨bT,av,aC.2.1⟩
section
variable {X:br}{pins:List (Addr × Obj)}{σ:St}{H:aj}{s:Shared}{a:Addr}{y d:V}{u r:Value}{o:Option V}{A:Around}{E:Value→Shared→Prop}
theorem Ti {Q:Value→Shared→Prop}(bp:A.units+1<cLine) (I:Inv X pins σ H s) (g:fb H a y o) (bL:RelV y u) (ja:RelV d r) (h:∀d5 aL,Inv X pins σ H aL→RelV (o.getD d) d5→Q d5 aL) :
  wpAny (model X.prog X.w) A (call (.builtin "dict.get") [.ref a,u,r]) Q E s:=by
 rcases g with ⟨kvs,k,e,fu,l⟩ | ⟨kvs,k,b,e,fu,es,l⟩
 ·subst fu
  obtain⟨z,hd,vs,rel,dd⟩:=qR I.bC e
  refine call_meetsIn slot_dict_get dd.typeIs PySem.F.entry_dict_get (PySem.F.args_dict_get_3 _ _ _) (meets_dict_get_default (ho X.prog X.w) a (nj bL) hd r) ⟨_,dd.mapOf,h _ _ (I.tok _) ?_⟩
  rw[l]
  exact (rel.val k).getD ja
 ·subst fu
  cases (show u=Value.ref b from bL)
  obtain⟨z,hd,xs,rel,dd⟩:=qQ I.bC e
  refine call_meetsIn slot_dict_get dd.typeIs PySem.F.entry_dict_get (PySem.F.args_dict_get_3 _ _ _) (meetsH_dict_get_default (tupleKind (ho X.prog X.w)) a b hd r) ⟨tupleKind_room_in1 bp,k,xs,sC I.bC es,dd,h _ _ (I.tok _) ?_⟩
  rw[l]
  exact (rel.val k).getD ja
end
def Sn (gE ty z1:TE):TE:=fun σ H Q=>gE σ H fun x H1=>∃a,x=.ref a∧D_ H1 a∧ty σ H1 fun y aq=>z1 σ aq fun z a3=>∃o,fb a3 a y o∧Q (o.getD z) a3
def Sl (gE ty:TE):TE:=fun σ H Q=>gE σ H fun x H1=>∃a,x=.ref a∧D_ H1 a∧ty σ H1 fun y aq=>∃kvs k v,aq a=some (.b2 kvs)∧y=dZ k∧dk kvs k=some v∧Q v (upd aq a (.b2 (lp kvs k)))
section
variable {X:br}{o e f:Expr}{apos gn:Pos}{gE ty z1:TE}
theorem QY (bp:X.A.units+1<cLine) (aF:b4 X o gE) (he:b4 X e ty) (hf:b4 X f z1) (m:M2 X o "get" apos e f gn):b4 X (.Call (.Attribute o "get" apos) [e,f] [] gn) (Sn gE ty z1):=by
 intro pins s σ H Q I h
 refine wpAny_Call_method m.base m.DR m.line PySem.F.plainAttrs_dict slot_dict_get PySem.F.type_dict_get (bV (aF pins s σ H _ I h) fun u s1 ⟨x,H1,aR,bu,a,ex,d,bw⟩=>?_)
 subst ex
 obtain rfl:u=Value.ref a:=bu
 obtain⟨t1,ek,_⟩:=H9 aR d
 refine⟨t1,ek,?_⟩
 rw[m.trees]
 refine Calls.callWith_builtin rfl (Calls.evalArgs_plain (Calls.spliced_cons (bV (he pins s1 σ H1 _ aR bw) fun ie s2 ⟨y,aq,cF,bL,aU⟩ =>
  Calls.spliced_cons (bV (hf pins s2 σ aq _ cF aU) fun fv s3 ⟨z,a3,cS,wc,bW,g,fp⟩=>Calls.spliced_nil ?_))))
 exact Ti bp cS g bL wc fun d5 s4 gL jr=>⟨_,a3,gL,jr,fp⟩
theorem GU (aF:b4 X o gE) (he:b4 X e ty) (m:Za X o "pop" apos e gn):b4 X (.Call (.Attribute o "pop" apos) [e] [] gn) (Sl gE ty):=by
 intro pins s σ H Q I h
 refine wpAny_Call_method m.base m.DR m.line PySem.F.plainAttrs_dict PySem.F.slot_dict_pop PySem.F.type_dict_pop (bV (aF pins s σ H _ I h) fun u s1 ⟨x,H1,aR,bu,a,ex,d,bw⟩=>?_)
 subst ex
 obtain rfl:u=Value.ref a:=bu
 obtain⟨t1,ek,_⟩:=H9 aR d
 refine⟨t1,ek,?_⟩
 rw[m.trees]
 refine Calls.callWith_builtin rfl (Calls.evalArgs_plain (Calls.spliced_cons (bV (he pins s1 σ H1 _ aR bw) fun ie s2 ⟨y,aq,cF,bL,kvs,k,v,az,fu,l,aU⟩=>Calls.spliced_nil ?_)))
 subst fu
 exact Uk cF az bL l (.inl rfl) fun d5 s3 cS jr=>⟨v,_,cS,jr,aU⟩
end
section
variable {X:br}{pins:List (Addr × Obj)}{σ:St}{H:aj}{s:Shared}{a:Addr}{kvs:List (Key × V)}{A:Around}{E:Value→Shared→Prop}
end
section
variable {X:br}{pins:List (Addr × Obj)}{σ:St}{H:aj}{s:Shared}{a:Addr}{y:V}{u:Value}{A:Around}{E:Value→Shared→Prop}
end
end L2
namespace N4
open PySem PySem.W PySem.Calls PyProof.Rows
theorem O5 {P:Params}{h:Heap}:∀(ns:List Int) (vs:List Value),WellAll P h vs (ns.map WData.int)→IntsAre vs ns:=by
 intro ns
 induction ns with
 | nil =>
  intro vs w
  rw[map_nil]at w
  cases w
  exact .nil
 | cons n ns dt =>
  intro vs w
  rw[map_cons]at w
  cases w with
  | cons a b =>
   cases a
   exact .cons _ _ (dt _ b)
theorem P5 {l:OpenLaw}{n:Nat}(aN:l.most=some n) {P:Params}{h:Heap}{args:List WData}{vals:List Value}
  (yX:l.row.toRowW.claim.pre args=true) (Du:WellAll P h vals args) :
  ∃a vs ns,vals=[Value.ref a]∧args=[WData.list (ns.map WData.int)]∧h.get? a=some { cls:=.type "list",data:=.seq vs.toArray }∧IntsAre vs ns∧ns.length≤n:=by
 have WE:WShape.hasAll [] args [.list .int]=true:=(pre_splitW yX).1
 have ai:l.pre.holds [] { args:=args }=true:=(pre_splitW yX).2
 obtain⟨d,r,rfl,av,aC⟩:=hasAllW_cons WE
 obtain rfl:=hasAllW_nil aC
 obtain⟨xs,rfl,cB⟩:=hasW_list av
 obtain⟨ns,rfl⟩:=items_int cB
 have hlen:ns.length≤n:=by
  unfold OpenLaw.pre at ai
  have dw:(WTm.not (.lt (.lit (.int (n:Int))) (.len (.arg 0)))).holds [] { args:=[.list (ns.map .int)] }=true:=by
   have dw:=(holds_andW ai).1
   rw[aN]at dw
   exact dw
  have gs:=condW_of dw (w_not (w_lt w_lit (w_len_list (w_arg rfl))))
  rw[length_map]at gs
  refine Nat.le_of_not_lt fun q=>?_
  have nR:(n:Int)<((ns.length:Nat):Int):=by omega
  first
   | (rw[decide_eq_true nR]at gs;exact absurd gs (by decide))
   | (simp at gs;omega)
 cases Du with
 | cons fe eL =>
  cases eL
  cases fe with
  | list aF sP=>exact⟨_,_,ns,rfl,rfl,aF,O5 ns _ sP,hlen⟩
theorem P6 (l:OpenLaw) (args:List WData):l.row.toRowW.claim.post args (.bool true) args=true :=
 postW_of (r:=l.row.toRowW) (X:=(true == true))
  (show WShape.has [] (.bool true) .bool=true by first | rfl | decide | simp[WShape.has,WShape.arms,WShape.armsAll])
  (show (WTm.eq .res (.lit (.bool true))).value [] { args:=args,res:=some (.bool true),after:=args }=some (.bool (true == true)) from w_eq_bool (w_res rfl) w_lit) rfl
theorem PA {l:OpenLaw}{n:Nat}{q:Program}{loose:List Str}{tK:(Str→Option Value)→Heap→Prop}{ql:World→Heap→Prop}{d:DefRec}
  (aN:l.most=some n) (vG:d.params.defaults=[])
  (call:∀(w:World) (ff c2:Shared) (mg lU:Str→Option Value) (fO:Addr) (o:Obj) (pm cd doc:Value) (a:Addr) (vs:List Value) (ns:List Int),
   Ground q loose [] tK w ff mg lU c2.heap→ql w c2.heap →
   c2.heap.get? fO=some o→o.data=.func (docDef d.name d.params d.body d.scope pm cd doc)→c2.heap.CodeRec cd d.name→mg d.name=some (.ref fO) →
   c2.heap.get? a=some { cls:=.type "list",data:=.seq vs.toArray }→IntsAre vs ns→ns.length≤n→c2.gens = #[] →
   codeAny (model l.prog w) callerA (.call (.ref fO) ⟨[.ref a],[]⟩) (fun r aL=>r=.ok (.ret (.bool true))∧OldK c2.heap aL.heap∧aL.os=c2.os∧AllBare aL.gens) c2) :
  WalkO q loose tK ql l.row.toRowW d [] (fun f vs=>PySem.call f vs):=by
 intro w ff c2 mg lU G Y fO o pm cd doc Ah dZ aF hd j4 eZ vD cJ args vals as yX Zq ZU Du lJ
 obtain rfl:Ah=.none:=Dflts.none eZ vG
 obtain rfl:dZ=.none:=Dflts.noKw eZ
 obtain⟨a,vs,ns,rfl,rfl,CH,hints,hlen⟩:=P5 aN yX Du
 refine enter_call (codeAny_mono (call w ff c2 mg lU fO o pm cd doc a vs ns G Y aF (fd_plain hd) j4 vD CH hints hlen cJ) fun r aL bN=>?_)
 obtain⟨rfl,aC,cB,dw⟩:=bN
 exact⟨.inl ⟨.bool true,.bool true,[],rfl,fun _=>rfl,.bool true,P6 l _,fun _=>⟨List.Pairwise.nil,fun _ hm=>(nomatch hm)⟩⟩,aC,cB,dw⟩
section
variable {prog:Program}{w:World}{A:Around}{E:Value→Shared→Prop}{s:Shared}{K:Frag}
end
end N4
namespace L2
open PySem PySem.Spec PyProof.Rows
theorem Gj:∀{vs:List Value}{ns:List Int},IntsAre vs ns→Vals (ns.map V.int) vs
 | _,_,.nil=>.nil
 | _,_,.cons n t h=>.cons ⟨t,rfl⟩ (Gj h)
def CV (H:aj):Prop:=∀b,H b=none∨∃o xs,H b=some (.iN o (.lst xs))
theorem Rm {P:Program}{w:World}{K:PySem.W.Frag}{mg lU:Str→Option Value}{eG:lQ}{k:Nat}{fO a:Addr}{fd:FuncData}{x:Str}{sp:dg}{c2:Shared}{vs:List Value}{ns:List Int}
  (m8:K.In c2.heap) (Mp:c2.heap.Ns mainGlobals mg) (aa:c2.heap.Ns builtinsNs lU) (Xa:∀x:Str,x≠"__name__"→lU x=bootBuiltins x) (Vi:c2.heap.NoLimit) (cJ:c2.gens = #[])
  (bf:c2.heap.get? a=some { cls:=.type "list",data:=.seq vs.toArray }) (aW:IntsAre vs ns) (aG:ns.length≤sizeLine) (aI:fS k callerA)
  (F:∀base:Heap,K.In base→base.Ns mainGlobals mg→a5 P w K mg base eG k fO fd [x] sp) (Ug:∀(s:Shared) (u:Value),BindsTo s fd ⟨[u],[]⟩ [(x,u)])
  (nD:∀H:aj,CV H→aV K H a (ns.map V.int)→sp [.ref a] H (fun v _=>v=.b8 true) fun _ _ _=>False)
  (DQ:∀H e aL,eG [] H c2 (fun _ _ _=>False) e aL→False) :
  codeAny (model P w) callerA (.call (.ref fO) ⟨[.ref a],[]⟩) (fun r aL=>r=.ok (.ret (.bool true))∧OldK c2.heap aL.heap∧aL.os=c2.os∧AllBare aL.gens) c2:=by
 have bD:=Gj aW
 have U6:=aW.length
 have core:∀H:aj,CV H→aV K H a (ns.map V.int)→ep P w H c2.heap→(∀b,H b≠none→b=a)→(H a≠none→K.lookup a=none) →
   codeAny (model P w) callerA (.call (.ref fO) ⟨[.ref a],[]⟩) (fun r aL=>r=.ok (.ret (.bool true))∧OldK c2.heap aL.heap∧aL.os=c2.os∧AllBare aL.gens) c2:=by
  intro H wB l0 bC rT iR
  have HQ:∀{b:Addr} {o:Obj},c2.heap.get? b=some o→H b=none→(oe c2.heap H).get? b=some o:=fun e n=>Rr e n
  have vl:∀{b:Addr} {o:Obj} {aM:Array DictEntry} {cL:Nat},c2.heap.get? b=some o→o.data=.dict aM cL→H b=none:=fun {b o aM cL} e d=>by
   cases q:H b with
   | none=>rfl
   | some u =>
    have dH:b=a:=rT b (by rw[q];simp)
    subst dH
    rw[bf]at e;cases e
    have d':Data.seq vs.toArray _=Data.dict aM cL:=d
    cases d'
  have zb:∀{b:Addr} {m:Str→Option Value},c2.heap.Ns b m→(oe c2.heap H).Ns b m:=fun {b m} ⟨o,aM,cL,e,d,r⟩=>⟨o,aM,cL,HQ e (vl e d),d,r⟩
  have MB:K.In (oe c2.heap H):=fun b o e=>HQ (m8 b o e) (by
   cases q:H b with
   | none=>rfl
   | some u =>
    have dH:b=a:=rT b (by rw[q];simp)
    subst dH
    rw[iR (by rw[q];simp)]at e;cases e)
  have YF:Mod K mg (oe c2.heap H):=⟨MB,zb Mp,⟨lU,zb aa,Xa⟩,let ⟨qa,av,aC⟩:=Vi;⟨qa,zb av,aC⟩⟩
  have e0:q9 P w K mg (oe c2.heap H) callerA [] c2 H:=⟨rfl,YF,fun b o e=>R5 e,le_of_eq (Qo _ _),trivial,fun b aa=>absurd (show b∈([]:List Addr) from aa) (by simp),bC,.of_eq cJ⟩
  refine codeAny_mono ((F _ MB (zb Mp)).run callerA [] c2 H ⟨[.ref a],[]⟩ [.ref a] [.ref a] _ _ aI e0 (Ug c2 (.ref a)) (.cons rfl .nil) (nD H wB l0)) fun r aL h=>?_
  cases r with
  | error e=>exact (DQ H e aL h).elim
  | ok fs =>
   cases fs with
   | next=>exact False.elim h
   | brk=>exact False.elim h
   | cont=>exact False.elim h
   | ret u =>
    obtain⟨v,af,os,bare,un,Vf,fh,q⟩:=h
    have nR:v=.b8 true:=q
    subst nR
    obtain rfl:u=Value.bool true:=fh
    refine⟨rfl,OldK.of_keep fun b o e=>?_,os,bare⟩
    cases q:H b with
    | none=>exact un.keep b o e q (by intro z;exact absurd (show b∈([]:List Addr) from z) (by simp)) (by simp)
    | some u =>
     rcases wB b with z | ⟨bT,xs,z⟩
     ·rw[q]at z;cases z
     ·have d6:=un.ml b bT _ z
      obtain⟨aJ,_⟩:=bC b _ z
      obtain⟨aQ,_⟩:=Vf b _ d6
      rw[e]at aJ;cases aJ
      exact aQ
 cases a4:K.lookup a with
 | some o =>
  have e:=m8 a o a4
  rw[bf]at e
  cases e
  refine core (fun _=>none) (fun _=>.inl rfl) (.inr ⟨_,vs.toArray,_,a4,rfl,rfl,rfl,by rw[size_toArray,U6];exact aG,by simpa using bD⟩) (fun b u z=>by have hg:(none:Option eU)=some u:=z;cases hg) (fun b z=>absurd rfl z) fun z=>absurd rfl z
 | none =>
  refine core (fun b=>if b=a then some (.iN { cls:=.type "list",data:=.seq vs.toArray } (.lst (ns.map V.int))) else none) (fun b=>?_) (.inl (.inr ⟨{ cls:=.type "list",data:=.seq vs.toArray },if_pos rfl⟩)) (fun b u z=>?_) (fun b z=>?_) fun _=>a4
  ·by_cases aa:b=a
   ·exact .inr ⟨_,_,if_pos aa⟩
   ·exact .inl (if_neg aa)
  ·by_cases aa:b=a
   ·have hg:=(if_pos aa).symm.trans z
    cases hg
    subst aa
    exact⟨bf,by rw[length_map];exact aG,vs,_,bD,bf⟩
   ·have hg:=(if_neg aa).symm.trans z
    cases hg
  ·by_cases aa:b=a
   ·exact aa
   ·exact absurd (if_neg aa) z
theorem RC {l:PySem.W.OpenLaw}{n k:Nat}{q:Program}{loose:List Str}{tK:(Str→Option Value)→Heap→Prop}{ql:World→Heap→Prop}{d:DefRec}{K:Params→PySem.W.Frag}{eG:World→lQ}{sp:World→dg}{x:Str}
  (aN:l.most=some n) (zA:n≤sizeLine) (vG:d.params.defaults=[]) (aI:fS k callerA)
  (EY:∀(w:World) (h:Heap),ql w h→(K w.params).In h)
  (F:∀(w:World) (mg:Str→Option Value) (fO:Addr) (h:Heap),(K w.params).In h→h.Ns mainGlobals mg→mg d.name=some (.ref fO) →
   ∃fd:FuncData,(∀(s:Shared) (u:Value),BindsTo s fd ⟨[u],[]⟩ [(x,u)]) ∧
    ∀base:Heap,(K w.params).In base→base.Ns mainGlobals mg→a5 l.prog w (K w.params) mg base (eG w) k fO fd [x] (sp w))
  (nD:∀(w:World) (H:aj) (a:Addr) (ns:List Int),ns.length≤n→CV H→aV (K w.params) H a (ns.map V.int)→sp w [.ref a] H (fun v _=>v=.b8 true) fun _ _ _=>False)
  (DQ:∀(w:World) (H:aj) (s:Shared) (e:Value) (aL:Shared),eG w [] H s (fun _ _ _=>False) e aL→False) :
  PySem.W.WalkO q loose tK ql l.row.toRowW d [] (fun f vs=>PySem.call f vs):=by
 refine N4.PA aN vG fun w ff c2 mg lU fO o pm cd doc a vs ns G Y aF hd j4 vD CH hints hlen cJ=>?_
 have m8:=EY w _ Y
 obtain⟨fd,aa,YH⟩:=F w mg fO _ m8 G.T.g vD
 exact Rm m8 G.T.g G.T.b G.T.builtins G.T.nolimit cJ CH hints (le_trans hlen zA) aI YH aa (fun H wB l0=>nD w H a ns hlen wB l0) fun H e aL=>DQ w H c2 e aL
end L2
namespace L2
open PySem PySem.Spec PyProof.Rows
def inClass (s:Stmt) (j:Nat):Stmt:=match s with
 | .ClassDef _ _ _ body _ _ _ _ _ _ _=>body.getD j (.Pass ⟨0,0,0,0⟩)
 | _=>.Pass ⟨0,0,0,0⟩
def pC (s:Stmt):Arguments:=match s with
 | .FunctionDef _ a _ _ _ _ _ _ _ _=>a
 | _=>{ posonlyargs:=[],args:=[],vararg:=none,kwonlyargs:=[],kw_defaults:=[],kwarg:=none,defaults:=[] }
def h1 (s:Stmt):List Stmt:=match s with
 | .FunctionDef _ _ b _ _ _ _ _ _ _=>b
 | _=>[]
def cT (s:Stmt):Scope:=match s with
 | .FunctionDef _ _ _ _ _ _ sc _ _ _=>sc
 | _=>{ kind:=.function,names:=[],isGenerator:=false,isCoroutine:=false }
abbrev b1:lQ:=fun _ _ _ _ _ _=>False
abbrev O1:gh:=fun _ _ _=>False
theorem cW {X:br}:Passes b1 X O1:=fun _ _ _ _ _ _ _ h=>h.elim
structure bZ (K:PySem.W.Frag) (x qual:Str) (st:Stmt) (f:Addr) (fd:FuncData):Prop where
 ex:∃(lT:Value) (e7:Option Addr) (dZ doc pm:Value) (an:Option Addr) (cg e1:Value) (ow:Array (Option Value)),
  fd=PySem.W.fnOf x qual (pC st) (h1 st) (cT st) .none dZ doc pm an cg e1∧K.lookup f=some ⟨lT,e7,.func fd,ow⟩∧PySem.W.codeIn K cg qual=true
 bK:keepIn K (.ref f)=true
section
variable {P:Program}{w:World}{K:PySem.W.Frag}{mg:Str→Option Value}{base:Heap}
theorem bZ.ok {x qual:Str}{st:Stmt}{f:Addr}{fd:FuncData}{N aB:List Str}{k:Nat}{sp:dg}(F:bZ K x qual st f fd) (S:dE N aB (cT st)) (len:∀vs H Q E,sp vs H Q E→vs.length=aB.length)
  (uO:∀(cg:Value) (A:Around) (outer:List Env) (s:Shared) (H:aj) (vs:List V) (Q:ct) (E:gh),fS k (A.deeper (envOfC qual (cT st) s.heap.objs.size f cg))→sp vs H Q E →
   ∃t,f9 (fm b1 P w K mg base N qual (cT st) f cg A outer s H E).lD (h1 st) t∧t { c9:=fun _ af=>Q .cc af,j9:=Q } (start N vs) H):a5 P w K mg base b1 (k+1) f fd aB sp:=by
 obtain⟨lT,e7,dZ,doc,pm,an,cg,e1,ow,rfl,lk,j4⟩:=F.ex
 refine IT lk j4 S len fun A outer s H vs Q E aI nD=>?_
 obtain⟨t,h,q⟩:=uO cg A outer s H vs Q E aI nD
 exact⟨t,h.lD,q⟩
theorem bZ.binds {x qual:Str}{st:Stmt}{f:Addr}{fd:FuncData}{aB:List Str}(F:bZ K x qual st f fd)
  (h:∀(dZ doc pm:Value) (an:Option Addr) (cg e1:Value) (us:List Value),us.length=aB.length→bindArgs (PySem.W.fnOf x qual (pC st) (h1 st) (cT st) .none dZ doc pm an cg e1) ⟨us,[]⟩=pure (aB.zip us)):Binds K fd aB []:=by
 obtain⟨lT,e7,dZ,doc,pm,an,cg,e1,ow,rfl,lk,j4⟩:=F.ex
 exact .all (h dZ doc pm an cg e1)
theorem Td {x qual:Str}{st:Stmt}{f:Addr}{lT:Value}{e7 an:Option Addr}{ow:Array (Option Value)}{dZ doc pm cg e1:Value}(l:K.lookup f=some ⟨lT,e7,.func (PySem.W.fnOf x qual (pC st) (h1 st) (cT st) .none dZ doc pm an cg e1),ow⟩)
  (c:PySem.W.codeIn K cg qual=true) (k:keepIn K (.ref f)=true):bZ K x qual st f (PySem.W.fnOf x qual (pC st) (h1 st) (cT st) .none dZ doc pm an cg e1):=⟨⟨lT,e7,dZ,doc,pm,an,cg,e1,ow,rfl,l,c⟩,k⟩
end
theorem hp {A:Around}{k:Nat}(aI:fS k A):A.units+1<cLine:=lt_of_le_of_lt (Nat.add_le_add_left (by decide:1≤64) _) aI.units
theorem P4 {n:Nat}(h:n≤1000):n<sizeLine:=lt_of_le_of_lt h (by decide)
section
variable {X:br}
theorem ah (i:Nat) {x:Str}{pos:Pos}(e8:X.N[i]?=some x:=by rfl) (bA:zL X.env.scope x:=by first | exact Or.inl rfl | exact Or.inr (Or.inl rfl) | exact Or.inr (Or.inr rfl)) (hd:(x == ("__debug__":Str))=false:=by decide)
  (j4:(x == ("__classdict__":Str))=false:=by decide):b4 X (.Name x pos) (Jb i):=SI e8 bA hd j4
end
theorem dQ {A B:Prop}(h:B):if false=true then A else B:=by
 rw[if_neg Bool.false_ne_true]
 exact h
theorem eY {A B:Prop}(h:A):if true=true then A else B:=by
 rw[if_pos rfl]
 exact h
theorem fE {c A B:Prop} [Decidable c] (av:c→A) (aC:¬c→B):if c then A else B:=by
 by_cases h:c
 ·rw[if_pos h]
  exact av h
 ·rw[if_neg h]
  exact aC h
theorem mh {c A B:Prop} [Decidable c] (ai:c) (h:B):if (!decide c)=true then A else B:=by
 rw[decide_eq_true ai]
 exact dQ h
def bY (H af:aj):Prop:=∀b o,H b=some o→af b=some o
theorem bY.refl (H:aj):bY H H:=fun _ _ h=>h
theorem bY.trans {H H1 aq:aj}(a:bY H H1) (b:bY H1 aq):bY H aq:=fun c o h=>b c o (a c o h)
theorem bY.free {H af:aj}(e:bY H af) {l:Addr}(h:af l=Option.none):H l=Option.none:=by
 cases q:H l with
 | none=>rfl
 | some o =>
  rw[e l o q]at h
  cases h
theorem bY.seq {K:PySem.W.Frag}{H af:aj}{a:Addr}{xs:List V}(e:bY H af) (h:aV K H a xs):aV K af a xs:=by
 rcases h with (h | ⟨o,h⟩) | h
 ·exact .inl (.inl (e _ _ h))
 ·exact .inl (.inr ⟨o,e _ _ h⟩)
 ·exact .inr h
section
variable {κ:Type} [DecidableEq κ]
end
section
variable {X:br}{pins:List (Addr × Obj)}{σ:St}{H:aj}{s:Shared}
theorem iK.Wc {x:V}{u t:Value}(I:Inv X pins σ H s) (bu:RelV x u) (ty:iK X.K H x t) :
  ∃Fq:Heap→Prop,PySem.W.KitX X.K u t Fq∧Fq s.heap∧u≠.builtin "__main__.__loader__#opaque":=by
 cases ty with
 | cc=>cases (show u=Value.none from bu);exact⟨_,PySem.W.kitx_none,True.intro,fun z=>nomatch z⟩
 | b8 y=>cases (show u=Value.bool y from bu);exact⟨_,PySem.W.kitx_bool,True.intro,fun z=>nomatch z⟩
 | int i=>obtain⟨t,q⟩:=(show ∃t,u=Value.int i t from bu);cases q;exact⟨_,PySem.W.kitx_int,True.intro,fun z=>nomatch z⟩
 | str y=>obtain⟨t,q⟩:=(show ∃t,u=Value.str y t from bu);cases q;exact⟨_,PySem.W.kitx_str,True.intro,fun z=>nomatch z⟩
 | p2 y=>obtain⟨t,q⟩:=(show ∃t,u=Value.float y t from bu);cases q;exact⟨_,PySem.W.kitx_float,True.intro,fun z=>nomatch z⟩
 | @lst a xs az =>
  cases (show u=Value.ref a from bu)
  obtain⟨_,_,n,_,av⟩:=(show fa X.prog X.w H s.heap a (.lst xs) from I.bC a _ az)
  exact⟨_,PySem.W.kitx_list,⟨_,av,rfl⟩,fun z=>nomatch z⟩
 | @iN a bT xs az =>
  cases (show u=Value.ref a from bu)
  obtain⟨_,_,_,n,_,av⟩:=(show fa X.prog X.w H s.heap a (.iN bT (.lst xs)) from I.bC a _ az)
  exact⟨_,PySem.W.kitx_list,⟨_,av,rfl⟩,fun z=>nomatch z⟩
 | @tup a xs az =>
  cases (show u=Value.ref a from bu)
  obtain⟨_,_,_,o,av,aC,_⟩:=(show fa X.prog X.w H s.heap a (.tup xs) from I.bC a _ az)
  exact⟨_,PySem.W.kitx_tuple,⟨o,av,aC⟩,fun z=>nomatch z⟩
 | @b2 a kvs az =>
  cases (show u=Value.ref a from bu)
  obtain⟨_,_,vs,_,o,aM,cL,av,aC,_⟩:=(show fa X.prog X.w H s.heap a (.b2 kvs) from I.bC a _ az)
  exact⟨_,PySem.W.kitx_dict,⟨o,av,aC.1⟩,fun z=>nomatch z⟩
 | @hj a kvs az =>
  cases (show u=Value.ref a from bu)
  obtain⟨_,_,xs,_,o,aM,cL,av,aC,_⟩:=(show fa X.prog X.w H s.heap a (.hj kvs) from I.bC a _ az)
  exact⟨_,PySem.W.kitx_dict,⟨o,av,aC.1⟩,fun z=>nomatch z⟩
 | @ins a C dx bF az cl bf aN i9 hm =>
  cases (show u=Value.ref a from bu)
  obtain⟨d3,O,_⟩:=uk I.bC az
  obtain⟨e7,J,_⟩:=O.look
  exact⟨_,PySem.W.kitx_own (cl.get _) cl.hd bf aN i9 hm,J,fun z=>nomatch z⟩
end
section
variable {X:br}
def UW (K:PySem.W.Frag):List V→aj→ct→Prop:=fun xs H Q=>∃x t T b,xs=[x,.ty T]∧iK K H x t∧kitOne K t (.type T)=some b∧Q (.b8 b) H
theorem n4:lq X (.builtin "isinstance") (UW X.K):=by
 intro pins s σ H xs us Q I bD h
 obtain⟨x,t,T,b,rfl,ty,e,q⟩:=h
 obtain⟨u,v,rfl,dW,C6⟩:=bD.two
 have sU:v=Value.type T:=C6
 subst sU
 exact Qk I dW ty e fun bz=>⟨.b8 b,H,I.tok bz,rfl,q⟩
theorem Hg:∀{r1:List String}{its:List Value},Vals (r1.map V.ty) its→its=r1.map Value.type
 | [],_,.nil=>rfl
 | T::r1,_,.cons r t=>by
  have e:_=Value.type T:=r
  rw[e,Hg t]
  all_goals rfl
def TM (K:PySem.W.Frag):List V→aj→ct→Prop:=fun xs H Q=>∃(x:V) (t:Value) (p:Addr) (r1:List String) (b:Bool),xs=[x,.ref p]∧iK K H x t∧H p=some (.tup (r1.map V.ty))∧PySem.W.kitAny K t (r1.map Value.type)=some b∧Q (.b8 b) H
theorem QA:lq X (.builtin "isinstance") (TM X.K):=by
 intro pins s σ H xs us Q I bD h
 obtain⟨x,t,p,r1,b,rfl,ty,aD,e,q⟩:=h
 obtain⟨u,v,rfl,dW,C6⟩:=bD.two
 cases (show v=Value.ref p from C6)
 obtain⟨its,r,⟨o,aF,ai,n,hd⟩,_⟩:=I.tuple (aP.of aD)
 obtain⟨c,dd,OG,dC⟩:=o
 simp only at ai hd
 subst ai hd
 have rX:=Hg r
 subst rX
 obtain⟨Fq,Z,du,aZ⟩:=iK.Wc I dW ty
 exact PySem.W.kia_tup Z I.fJ du aF e aZ fun bz=>⟨.b8 b,H,I.tok bz,rfl,q⟩
def Sy:iV:=fun x y H Q=>∃a b xs,x=.ref a∧y=.ref b∧H a=some (.lst xs)∧H b=some (.lst [])∧Q (.b8 (!xs.isEmpty)) H
theorem GV (bp:X.A.units<cLine):gQ X (compareOp .NotEq) Sy:=by
 intro pins s σ H x y v u Q I bu bL h
 obtain⟨a,b,xs,rfl,rfl,bf,aa,q⟩:=h
 cases bu
 cases bL
 obtain⟨its,r,p,_⟩:=I.list (aV.of bf)
 obtain⟨i6,b7,cI,_⟩:=I.list (aV.of aa)
 cases b7
 cases xs with
 | nil =>
  cases r
  exact SeqAt.RcNeAt.lists (e:=fun _=>true) p.isList cI.isList rfl bp (fun j av _=>absurd av (by simp)) X.prog X.w X.dp _ ⟨.b8 false,H,I,rfl,q⟩
 | cons x xs =>
  cases r
  exact SeqAt.RcNeAt.lists_lengths p.isList cI.isList (by simp) bp X.prog X.w X.dp _ ⟨.b8 true,H,I,rfl,q⟩
section
open AutoSeq1 (wpAny_loadPart')
theorem O3 (l:Addr) (items:Array Value) (n:Nat) (b:Addr) (uD:Array Value) (c_:Nat) (dd:Option Addr) (dC:Array (Option Value)) (ea:¬(!items.isEmpty && Builtin.List.listTooLong (items.size+uD.size))=true) (WH:items.size≤sizeLine) (jv:items.size+uD.size≤sizeLine+1) :
  Meets (Builtin.«list.extend» ⟨[.ref l,.ref b],[]⟩) (fun _ R s=>s.heap.get? l=some { cls:=.type "list",dict:=none,data:=.seq items n,slots := #[] }∧s.heap.get? b=some { cls:=.type "tuple",dict:=dd,data:=.seq uD c_,slots:=dC }∧R (.ok (.ret Value.none)) { s with heap:=s.heap.update l (Obj.mapSeq fun x=>x++uD),toks:=s.toks }) :=
 .of_wp fun prog w A R s h=>by
  obtain⟨aD,g,d,bz,os⟩:=s;obtain⟨aG,aa,h⟩:=h;have f1:=AutoSeq1.idx_int;have f2:=AutoSeq1.sub_tuple_tuple;have fL:=AutoSeq1.sub_list_list;have f4:=AutoSeq1.sub_tuple_list;have gv:=AutoSeq1.sub_list_tuple;
  have Wr:(items++uD).size≤sizeLine+1:=by rw[Array.size_append];exact jv
  wp_walk using (wpAny_updateSeq aG rfl (hz:=WH) (_hz':=Wr)),wpAny_loadPart' aG,wpAny_loadPart' aa;exact⟨_,rfl,h⟩
end
def QT:V→List V→aj→ct→Prop:=fun x vs H Q=>∃l b xs zs,x=.ref l∧vs=[.ref b]∧H l=some (.lst xs)∧H b=some (.tup zs)∧xs.length+zs.length≤sizeLine∧Q .cc (upd H l (.lst (xs++zs)))
theorem PI:te X "list.extend" QT:=by
 intro pins s σ H x vs v us Q I bu bD h
 obtain⟨l,b,xs,zs,rfl,rfl,gI,o1,hz,q⟩:=h
 cases bu
 obtain⟨u,rfl,dW⟩:=bD.one
 cases dW
 obtain⟨z,its,n,r,aG,e⟩:=I.oc gI
 obtain⟨i6,b7,⟨o,aF,ai,c_,hd⟩,_⟩:=I.tuple (aP.of o1)
 obtain⟨c,dd,OG,dC⟩:=o
 simp only at ai hd
 subst ai hd
 have zB:=b7.length
 have hsz:its.toArray.size+i6.toArray.size≤sizeLine:=by rw[size_toArray,size_toArray];omega
 have Cg:¬(!its.toArray.isEmpty && Builtin.List.listTooLong (its.toArray.size+i6.toArray.size))=true:=by
  rw[GW hsz,Bool.and_false]
  exact Bool.false_ne_true
 refine call_meets F.slot_list_extend ⟨_,e,rfl⟩ F.entry_list_extend (F.args_list_extend_2 _ _)
  (O3 l its.toArray n b i6.toArray c_ dd dC Cg (by rw[size_toArray];omega) (by omega)) ⟨e,aF,?_⟩
 refine⟨.cc,_,I.u0 (its':=its++i6) gI e (by simp) (r.append b7) ?_,rfl,q⟩
 rw[length_append]
 omega
def QU:V→List V→aj→ct→Prop:=fun x vs H Q=>∃l b xs zs,x=.ref l∧vs=[.ref b]∧H l=some (.lst xs)∧(H b=some (.lst zs)∨H b=some (.tup zs))∧xs.length+zs.length≤sizeLine∧Q .cc (upd H l (.lst (xs++zs)))
theorem Gd:te X "list.extend" QU:=by
 intro pins s σ H x vs v us Q I bu bD h
 obtain⟨l,b,xs,zs,aJ,aQ,gI,o1 | o1,hz,q⟩:=h
 ·exact Qe pins s σ H x vs v us Q I bu bD ⟨l,b,xs,zs,aJ,aQ,gI,o1,hz,q⟩
 ·exact PI pins s σ H x vs v us Q I bu bD ⟨l,b,xs,zs,aJ,aQ,gI,o1,hz,q⟩
end
section
variable {X:br}{a b:Expr}{jC oq:TT}{pos:Pos}
theorem n8 (bf:hW X a jC) (aa:hW X b oq):hW X (.BoolOp .Or [a,b] pos) (KI jC oq):=(pw_or bf (pw_or1 aa)).pt
theorem qG (bf:hW X a jC) (aa:hW X b oq):hW X (.BoolOp .And [a,b] pos) (Je jC oq):=(pw_and bf (pw_and1 aa)).pt
end
theorem cX {xs:List V}(h:Nat.ble xs.length 1000=true:=by rfl):xs.length≤sizeLine:=le_trans (le_of_ble_eq_true h) (by decide)
theorem Py {prog:Program}{w:World}{A:Around}{R:Result→Shared→Prop}{s:Shared}{elt target iter:Expr}{scope:Scope}{pos:Pos}{it acc:Value}{env:Env}(I:Nat→Shared→Prop)
  (turn:∀n s,I n s→wpAny (model prog w) A (pyNext it) (fun r c2=>match r with
   | none=>R (.ok .next) c2
   | some v=>wpAny (model prog w) A (letOwnedTupleGo target it v) (fun _ hK=>wpAny (model prog w) A (assign target env v) (fun _ hI=>wpAny (model prog w) A (eval elt env) (fun x nP =>
     wpAny (model prog w) A (call (.builtin "list.append") [acc,x]) (fun _ v_=>∃m,m<n∧I m v_) (fun _ _=>False) nP) (fun _ _=>False) hI) (fun _ _=>False) hK) (fun _ _=>False) c2) (fun _ _=>False) s)
  (n:Nat) (h:I n s):codeAny (model prog w) A (.compLoop (.ListComp elt [⟨target,iter,[],0⟩] scope pos) 0 it acc env) R s:=by
 refine codeAny_loop rfl I (fun n s oZ=>?_) n h
 show wpAny _ _ ((compTurn (.ListComp elt [⟨target,iter,[],0⟩] scope pos) 0 it acc env).onRaise (fun x=>do noteFrame x env;theTreesLotGoes x)) _ _ s
 refine wpAny_noted ?_
 rw[compTurn_list1]
 refine wpAny_bind (wpAny_standAt (wpAny_bind (wpAny_mono (turn n s oZ) (fun r c2 gH=>?_) fun _ _ z=>False.elim z)))
 cases r with
 | none=>exact wpAny_pure gH
 | some v =>
  refine wpAny_bind (wpAny_mono gH (fun _ hK lZ=>?_) fun _ _ z=>False.elim z)
  exact wpAny_bind (wpAny_mono lZ (fun _ hI wA=>wpAny_bind (wpAny_bind (wpAny_mono wA (fun x nP Af=>wpAny_bind (wpAny_mono Af
   (fun _ v_ EW=>wpAny_pure (wpAny_pure ⟨rfl,EW⟩)) fun _ _ z=>False.elim z)) fun _ _ z=>False.elim z))) fun _ _ z=>False.elim z)
def gP (X:br) (d1:List Str) (scope:Scope) (cl:List (Str × Addr)) (C:Addr) (s:Shared) (H:aj) (cj:List Addr):br :=
 { X with N:=d1,ff:=s,w4:=H,env:=compEnvC scope cl C X.env,outer:=X.stack,stack:=X.stack,ex:=cj,fn:=fun _=>false,dp:=fun _ _=>False }
def pick (σ:St) (fr:List Nat):St:=fr.map fun j=>(σ[j]?).getD none
structure jU (X:br) (x:Str) (fr:List Nat) (d1:List Str) (scope:Scope) (cl:List (Str × Addr)):Prop where
 u5:closureFor scope X.env=pure cl
 cell:∀y∈scope.names,y.2≠.cell
 kind:scope.kind=.function
 names:∀y∈scope.names,y.2=.local→scope.names.lookup y.1=some .local
 loc:scope.names.lookup x=some .local
 sub:∀y c,cl.lookup y=some c→X.env.cells.lookup y=some c
 has:∀y,((relabel scope X.env).names.lookup y=some .cell∨(relabel scope X.env).names.lookup y=some .free)→∃c,cl.lookup y=some c
 aZ:d1[0]?=some x
 len:d1.length=fr.length+1
 bk:d1.Nodup
 va:∀(i j:Nat) (y:Str),d1[i+1]?=some y→fr[i]?=some j→X.N[j]?=some y∧X.env.scope.names.lookup y=some .cell∧(relabel scope X.env).names.lookup y=some .cell
theorem Az:∀{names:List (Str × NameKind)}{y:Str}{k:NameKind},(∀z∈names,z.2=.local)→names.lookup y=some k→k=.local
 | [],_,_,_,h=>by simp at h
 | (n,iE)::r,y,k,bf,h=>by
  rw[lookup_cons]at h
  cases e:y == n with
  | true =>
   rw[e]at h
   have h':some iE=some k:=h
   cases h'
   exact bf (n,iE) mem_cons_self
  | false =>
   rw[e]at h
   exact Az (fun z hz=>bf z (mem_cons_of_mem _ hz)) h
theorem FD:∀{names:List (Str × NameKind)}{y:Str × NameKind},(∀z∈names,z.2=.local)→y∈names→names.lookup y.1=some .local
 | [],_,_,h=>by simp at h
 | (n,iE)::r,y,bf,h=>by
  rw[lookup_cons]
  cases e:y.1 == n with
  | true =>
   have:=bf (n,iE) mem_cons_self
   dsimp only at this ⊢
   rw[this]
  | false =>
   rcases mem_cons.mp h with z | z
   ·rw[z]at e
    simp at e
   ·exact FD (fun z hz=>bf z (mem_cons_of_mem _ hz)) z
theorem O8 {scope:Scope}{env:Env}(h:∀z∈scope.names,z.2=.local):(relabel scope env).names=scope.names:=by
 unfold relabel
 show scope.names.map _=scope.names
 refine map_eq_self fun z hz=>?_
 obtain⟨n,k⟩:=z
 have:=h (n,k) hz
 dsimp only at this
 subst this
 rfl
theorem jU.plain {X:br}{x:Str}{scope:Scope}(aG:∀z∈scope.names,z.2=.local) (a4:scope.kind=.function) (aZ:scope.names.lookup x=some .local):jU X x [] [x] scope [] where
 u5:=closureFor_none fun z hz e=>by rw[aG z hz]at e;cases e
 cell:=fun y cA e=>by rw[aG y cA]at e;cases e
 kind:=a4
 names:=fun y cA _=>FD aG cA
 loc:=aZ
 sub:=fun y c e=>by simp at e
 has:=fun y e=>by
  rw[O8 aG]at e
  rcases e with e | e
  ·cases Az aG e
  ·cases Az aG e
 aZ:=rfl
 len:=rfl
 bk:=by simp
 va:=fun i j y _ e=>by simp at e
def qS (J:kx) (bS:TE) (bq:St) (Q:ct) (H:aj) (acc:Addr):Prop :=
 ∃(n:Nat) (W:Nat→List V→aj→Prop),W 0 [] (upd H acc (.lst []))∧∀i ys aq,W i ys aq→(J.stop i aq∧Q (.ref acc) aq) ∨
  (J.go i aq∧i<n∧∀v a3,J.pP i aq v a3→bS (some v::bq) a3 fun y c6=>c6 acc=some (.lst ys)∧ys.length<sizeLine∧W (i+1) (ys++[y]) (upd c6 acc (.lst (ys++[y]))))
theorem Qy {X:br}{pins:List (Addr × Obj)}{σ:St}{H:aj}{s:Shared}{x:Str}{jD:Pos}{elt iter:Expr}{scope:Scope}{pos:Pos}{cl:List (Str × Addr)}{d1:List Str}{fr:List Nat}{bS:TE}{J:kx}{cj:List Addr}{it:Addr}
  {gr:Nat→Heap→Prop} {E:Value→Shared→Prop} {RR:Value→Addr→Result→Shared→Prop} {Q:ct} (B:jU X x fr d1 scope cl) (ai:X.calm=true) (I:Inv X pins σ H s) (T:Turn X.prog X.w X.K (.Name x jD) J cj it gr)
  (st:gr 0 s.heap) (hf:∀b∈cj,mu X pins H b) (he:∀C aL af,b4 (gP X d1 scope cl C aL af cj) elt bS) (h:∀acc,H acc=none→qS J bS (pick σ fr) Q H acc)
  (DO:∀acc C af aL m,Inv X pins σ af aL→Q (.ref acc) af→aL.heap.Ns C m→af C=none→C≠X.env.locals→(C∈X.ex∨X.ff.heap.objs.size≤C)→(∀y c,X.env.cells.lookup y=some c→c≠C)→(∀p∈X.bR++pins,p.1≠C)→RR (.ref acc) C (.ok .next) aL) :
  wpAny (model X.prog X.w) X.A (newList []) (fun acc hI=>wpAny (model X.prog X.w) X.A (newFunctionEnv scope X.env.globals cl [] X.env.qual none .none (some X.env)) (fun u6 nP =>
   codeAny (model X.prog X.w) X.A (.compStart (.ListComp elt [⟨.Name x jD,iter,[],0⟩] scope pos) 0 (.ref it) acc { u6 with scope:=relabel scope X.env }) (RR acc u6.locals) nP) E hI) E s:=by
 refine wpAny_newObj_type (wpAny_newFunctionEnv B.cell (by intro y cA;simp at cA) (fun gH q5 q4=>?_) B.kind)
 have cS:Inv X pins σ (upd H s.heap.objs.size (.lst [])) { s with heap:=s.heap.push { cls:=.type "list",data:=.seq ([]:List Value).toArray } }:=I.CE (its:=[]) (t':=s.toks) .nil (zero_le _)
 obtain⟨n,W,rI,turn⟩:=h s.heap.objs.size I.fresh
 dsimp only at q5 q4 ⊢
 generalize vz:({ s with heap:=s.heap.push { cls:=.type "list",data:=.seq ([]:List Value).toArray } }:Shared)=s3 at *
 have vF:s.heap.push { cls:=.type "list",data:=.seq ([]:List Value).toArray }=s3.heap:=by rw[←vz]
 have CL:s.heap.push { cls:=.type "list",dict:=none,data:=.seq ([]:List Value).toArray }=s3.heap:=vF
 rw[CL]at q5 q4 ⊢
 have mD:∀b o,s3.heap.get? b=some o→b≠s3.heap.objs.size:=fun b o e=>ne_of_lt (lt_size e)
 have md:∀b o,s3.heap.get? b=some o→gH.get? b=some o:=fun b o e=>q4.extBut b o (mD b o e) (get?_push_of_some _ e)
 have uM:∀b o,s.heap.get? b=some o→s3.heap.get? b=some o:=fun b o e=>by rw[←vF];exact get?_push_of_some _ e
 have lz:gr 0 gH:=T.keep 0 _ _ st fun b _ o e=>md b o (uM b o e)
 have Cy:∀b∈cj,∃o,s3.heap.get? b=some o:=fun b aa=>by
  obtain⟨o,e,_⟩:=T.obj 0 _ st b aa
  exact⟨o,uM b o e⟩
 have qX:∀b,b≠X.env.locals→b∉X.bF→b∉fo X.stack:=fun b av aC aa=>by
  rcases mem_cons.mp (cS.ur b aa) with z | z
  ·exact av z
  ·exact aC z
 have ok:(gP X d1 scope cl s3.heap.objs.size s3 (upd H s.heap.objs.size (.lst [])) cj).Ok:=by
  refine⟨I.ok.mod,?_,I.ok.glob,I.ok.blt,le_refl _,fun y z c av aC=>I.ok.inj y z c (B.sub y c av) (B.sub z c aC),fun y cA=>B.has y cA,fun y c e _=>absurd (show false=true from e) Bool.false_ne_true,I.ok.hd,I.ok.frames,.inl rfl,fun b aa=>?_,cS.bs,
   le_trans I.ok.iO cS.ez,fun b o e aa=>?_,fun b aa=>qX b (hf b aa).2.1 (hf b aa).2.2.1,cS.stack,cS.xP⟩
  ·exact B.kind
  ·obtain⟨o,e⟩:=Cy b aa
   exact⟨mD b o e,fun y c e=>(hf b aa).2.2.2.2.1 y c (B.sub y c e)⟩
  ·rcases (hf b aa).2.2.2.1 with z | z
   ·exact I.ok.jW b o e z
   ·exact absurd (lt_of_lt_of_le (lt_size (I.ok.bs b o e).1) z) (lt_irrefl _)
 have cellK:∀c v,s3.heap.IsCell c v→gH.IsCell c v:=fun c v ⟨o,aF,hd⟩=>⟨o,md c o aF,hd⟩
 have mj:∀{af:aj},(∀b∈cj,af b=none)→∀b∈cj,mu (gP X d1 scope cl s3.heap.objs.size s3 (upd H s.heap.objs.size (.lst [])) cj) pins af b:=fun aN b aa =>
  ⟨aN b aa,(ok.lN b aa).1,qX b (hf b aa).2.1 (hf b aa).2.2.1,.inl aa,fun y c e=>(hf b aa).2.2.2.2.1 y c (B.sub y c e),(hf b aa).2.2.2.2.2⟩
 have gL:Inv (gP X d1 scope cl s3.heap.objs.size s3 (upd H s.heap.objs.size (.lst [])) cj) pins (none::pick σ fr) (upd H s.heap.objs.size (.lst [])) { s3 with heap:=gH }:=by
  refine⟨ok,rfl,cS.bare,gW.kept md,⟨_,q5,fun i y v av aC cB=>?_⟩,fun y c e=>?_,cS.fresh,fun y c e=>cS.hq y c (B.sub y c e),fun p aD=>?_,cS.bC.kept md,?_⟩
  ·cases i with
   | zero=>cases (show some none=some (some v) from aC)
   | succ i =>
    have aC:(pick σ fr)[i]?=some (some v):=aC
    unfold pick at aC
    rw[getElem?_map]at aC
    cases o3:fr[i]? with
    | none=>rw[o3]at aC;cases aC
    | some j =>
     rw[o3]at aC
     have oE:(σ[j]?).getD none=some v:=Option.some.inj aC
     have EX:σ[j]?=some (some v):=by
      cases q:σ[j]? with
      | none=>rw[q]at oE;cases oE
      | some o =>
       rw[q]at oE
       have:o=some v:=oE
       rw[this]
     obtain⟨en,fk,o6⟩:=B.va i j y av o3
     obtain⟨el,_,DB⟩:=cS.loc
     obtain⟨u,dW,lk⟩:=DB j y v en EX (.inr (.inl fk))
     refine⟨u,dW,.inr ⟨.inl o6,?_⟩⟩
     rcases lk with ⟨k,_⟩ | ⟨_,c,e,z⟩
     ·have iE:X.env.scope.names.lookup y=some .local:=k
      rw[fk]at iE
      cases iE
     ·obtain⟨gK,dH⟩:=B.has y (.inl o6)
      have:=B.sub y gK dH
      rw[e]at this
      cases this
      exact⟨_,dH,cellK _ _ z⟩
  ·obtain⟨v,z⟩:=cS.cell y c (B.sub y c e)
   exact⟨v,cellK c v z⟩
  ·obtain⟨e,tn,ne,jE,d⟩:=cS.pin p aD
   exact⟨md _ _ e,tn,mD _ _ e,qX _ ne jE,d⟩
  ·show (none::pick σ fr).length=d1.length
   rw[B.len,length_cons]
   unfold pick
   rw[length_map]
 have fin:∀{af:aj} {bq:St} {aL:Shared},Inv (gP X d1 scope cl s3.heap.objs.size s3 (upd H s.heap.objs.size (.lst [])) cj) pins bq af aL→Q (.ref s.heap.objs.size) af→RR (.ref s.heap.objs.size) s3.heap.objs.size (.ok .next) aL:=fun {af bq aL} J q=>by
  obtain⟨m,aN,_⟩:=J.loc
  refine DO _ _ af aL m (cS.Cp (ch:=cj) J.os J.base J.bC J.bare fun b aa=>⟨(hf b aa).2.2.2.1,(hf b aa).2.1,(hf b aa).2.2.2.2.1,(hf b aa).2.2.2.2.2⟩) q aN J.free (ne_of_gt cS.lt) (.inr cS.ez) (fun y c e=>?_) fun p aD=>?_
  ·obtain⟨v,o,aF,_⟩:=cS.cell y c e
   exact mD c o aF
  ·exact mD _ _ (cS.pin p aD).1
 have loop:∀hI:Shared,hI={ s3 with heap:=gH }→codeAny (model X.prog X.w) X.A (.compLoop (.ListComp elt [⟨.Name x jD,iter,[],0⟩] scope pos) 0 (.ref it) (.ref s.heap.objs.size) (compEnvC scope cl s3.heap.objs.size X.env)) (RR (.ref s.heap.objs.size) s3.heap.objs.size) hI:=by
  rintro hI rfl
  refine Py (fun m aL=>∃i ys rE af,Inv (gP X d1 scope cl s3.heap.objs.size s3 (upd H s.heap.objs.size (.lst [])) cj) pins (rE::pick σ fr) af aL∧gr i aL.heap∧(∀b∈cj,af b=none)∧W i ys af∧m=n - i) ?_ n ⟨0,[],none,_,gL,lz,fun b aa=>?_,rI,rfl⟩
  ·rintro m aL ⟨i,ys,rE,af,fP,iu,vK,d5,rfl⟩
   rcases turn i ys af d5 with ⟨stop,q⟩ | ⟨go,rp,step⟩
   ·refine bV (T.done (gP X d1 scope cl s3.heap.objs.size s3 (upd H s.heap.objs.size (.lst [])) cj) rfl rfl rfl ai i pins aL _ af (fun _ _=>False) fP (mj vK) iu stop) fun r s1 ⟨aI,aR⟩=>?_
    subst aI
    exact fin aR q
   ·refine bV (T.item (gP X d1 scope cl s3.heap.objs.size s3 (upd H s.heap.objs.size (.lst [])) cj) rfl rfl rfl ai i pins aL _ af (fun _ _=>False) fP (mj vK) iu go) fun r s1 ⟨u,aI,dw⟩=>?_
    subst aI
    refine bV dw fun _ s5 ⟨v,e_,o_,mT,nO,mw,vI⟩=>?_
    have vV:=o_.pinned (mj vI) (T.obj _ _ mw)
    have wk:(relabel scope X.env).names.lookup x=some .local:=lookup_relabel_local B.loc
    refine bV (hY (X:=gP X d1 scope cl s3.heap.objs.size s3 (upd H s.heap.objs.size (.lst [])) cj) (i:=0) (x:=x) B.bk B.aZ (.inl wk) (.inr wk) _ s5 _ e_ v u
     (fun bq iW=>bq=some v::pick σ fr∧iW=e_) vV mT ⟨rfl,rfl⟩) fun _ j8 ⟨EI,iW,k4,aJ,aQ⟩=>?_
    subst aJ aQ
    refine bV (he _ _ _ _ j8 _ _ _ k4 (step v _ nO)) fun y gR ⟨kQ,fy,gi,bL,eg,hlen,rG⟩=>?_
    refine bV (iY _ gR _ fy (.ref s.heap.objs.size) [kQ] (.ref s.heap.objs.size) [y] (fun _ kA=>kA=upd fy s.heap.objs.size (.lst (ys++[kQ]))) gi rfl (.cons bL .nil) ⟨_,ys,kQ,rfl,rfl,eg,hlen,rfl⟩) fun _ iP ⟨_,kA,o9,_,rY⟩=>?_
    subst rY
    refine⟨n - (i+1),by omega,i+1,ys++[kQ],some v,_,o9.t_,T.keep _ _ _ mw fun b aa o e=>(o9.pin (b,o) (mem_append_right _ (mem_append_right _ (sf aa e)))).1,fun b aa=>?_,rG,rfl⟩
    obtain⟨o,e,d⟩:=T.obj _ _ mw b aa
    exact (o9.pin (b,o) (mem_append_right _ (mem_append_right _ (sf aa e)))).2.1
  ·obtain⟨o,e,_⟩:=T.obj 0 _ st b aa
   rw[ay (ne_of_lt (lt_size e))]
   exact (hf b aa).1
 have cC:({ s with heap:=gH,toks:=s.toks+([]:List (Str × Value)).length }:Shared)={ s3 with heap:=gH }:=by rw[←vz];rfl
 rw[cC]
 exact codeAny_compStart_list (loop _ rfl) (T.self _ 0 _ _ _ lz (loop _ rfl))
section
variable {X:br}{x y:Str}{jD py pos yD:Pos}{elt iter:Expr}{scope:Scope}{cl:List (Str × Addr)}{d1:List Str}{fr:List Nat}{hh:TI}{bS:TE}
def Tw (hh:TI) (fr:List Nat) (bS:TE):TE:=fun σ H Q=>hh σ H fun J H1=>∀acc,H1 acc=none→qS J bS (pick σ fr) Q H1 acc
theorem uf (fr:List Nat) (d1:List Str) (B:jU X x fr d1 scope cl) (ai:X.calm=true) (aW:r5 X (.Name x jD) iter hh) (he:∀C aL af cj,b4 (gP X d1 scope cl C aL af cj) elt bS) (aS:∀x,foldedSetIterable iter X.env x=pure x:=by intro _;rfl) :
  b4 X (.ListComp elt [⟨.Name x jD,iter,[],0⟩] scope pos) (Tw hh fr bS):=by
 intro pins s σ H Q I h
 rw[eval_ListComp]
 refine wpAny_comprehension_free (use:=none) rfl aS B.u5 B.kind B.names (bV (aW pins s σ H _ I h) fun v s1 av=>bV av fun zq s2 aC=>?_)
 obtain⟨it,cj,gr,J,aq,e,cF,T,jo,f2,aU⟩:=aC
 subst e
 refine Qy (RR:=fun acc C=>compPost (model X.prog X.w) X.A X.dp none (g8 X pins σ Q) acc C) B ai cF T jo f2 (fun C aL af=>he C aL af cj) aU ?_
 intro acc C af aL m fP q aN h0 av cB dw gs
 refine⟨m,aN,fun h' mS=>⟨.ref acc,af,fP.turned (t':=aL.toks) (fun b o aa e=>(mS.2 b aa).trans e) h0 av cB dw gs,rfl,q⟩⟩
end
inductive D where
 | int (i:Int)
 | str (x:Str)
 | tup (l:List D)
 | lst (l:List D)
mutual
def D.ez:D→Nat
 | .int _=>1
 | .str _=>1
 | .tup l=>1+e6 l
 | .lst l=>1+e6 l
def e6:List D→Nat
 | []=>0
 | d::r=>d.ez+e6 r
end
mutual
def Rep (H:aj):D→V→Prop
 | .int i,v=>v=.int i
 | .str x,v=>v=.str x
 | .tup l,v=>∃a xs,v=.ref a∧H a=some (.tup xs)∧bE H l xs
 | .lst l,v=>∃a xs,v=.ref a∧H a=some (.lst xs)∧bE H l xs
def bE (H:aj):List D→List V→Prop
 | [],xs=>xs=[]
 | d::r,xs=>∃x t,xs=x::t∧Rep H d x∧bE H r t
end
mutual
theorem Rep.mono {H af:aj}(s:bY H af):∀(d:D) (v:V),Rep H d v→Rep af d v
 | .int _,_,h=>h
 | .str _,_,h=>h
 | .tup l,_,h=>by
  unfold Rep at h ⊢
  obtain⟨a,xs,e,q,r⟩:=h
  exact⟨a,xs,e,s _ _ q,bE.mono s l xs r⟩
 | .lst l,_,h=>by
  unfold Rep at h ⊢
  obtain⟨a,xs,e,q,r⟩:=h
  exact⟨a,xs,e,s _ _ q,bE.mono s l xs r⟩
theorem bE.mono {H af:aj}(s:bY H af):∀(l:List D) (xs:List V),bE H l xs→bE af l xs
 | [],_,h=>h
 | d::r,_,h=>by
  unfold bE at h ⊢
  obtain⟨x,t,e,q,z⟩:=h
  exact⟨x,t,e,Rep.mono s d x q,bE.mono s r t z⟩
end
theorem D.Sp:∀d:D,1≤d.ez
 | .int _=>by unfold D.ez;omega
 | .str _=>by unfold D.ez;omega
 | .tup _=>by unfold D.ez;omega
 | .lst _=>by unfold D.ez;omega
theorem ma:e6 []=0:=by unfold e6;rfl
theorem l9 (d:D) (r:List D):e6 (d::r)=d.ez+e6 r:=by rw[e6]
theorem HX (l:List D):(D.tup l).ez=1+e6 l:=by rw[D.ez]
theorem x5 (l:List D):(D.lst l).ez=1+e6 l:=by rw[D.ez]
theorem sz (i:Int):(D.int i).ez=1:=by rw[D.ez]
theorem qK (x:Str):(D.str x).ez=1:=by rw[D.ez]
theorem xm:∀a b:List D,e6 (a++b)=e6 a+e6 b
 | [],b=>by rw[List.nil_append,ma,zero_add]
 | d::r,b=>by rw[List.cons_append,l9,l9,xm r b];omega
theorem Br:∀a:List D,a.length≤e6 a
 | []=>by rw[ma];exact le_refl _
 | d::r=>by
  have av:=Br r
  have aC:=d.Sp
  rw[l9,length_cons]
  omega
theorem bE.nil {H:aj}:bE H [] []:=by unfold bE;rfl
theorem bE.cons {H:aj}{d:D}{r:List D}{x:V}{t:List V}(h:Rep H d x) (q:bE H r t):bE H (d::r) (x::t):=by
 unfold bE
 exact⟨x,t,rfl,h,q⟩
theorem bE.inv {H:aj}{d:D}{r:List D}{xs:List V}(h:bE H (d::r) xs):∃x t,xs=x::t∧Rep H d x∧bE H r t:=by
 unfold bE at h
 exact h
theorem bE.nu {H:aj}{xs:List V}(h:bE H [] xs):xs=[]:=by
 unfold bE at h
 exact h
theorem bE.append {H:aj}:∀{a b:List D}{xs ys:List V},bE H a xs→bE H b ys→bE H (a++b) (xs++ys)
 | [],_,_,_,h,q=>by rw[h.nu];exact q
 | d::r,_,_,_,h,q=>by
  obtain⟨x,t,rfl,av,aC⟩:=h.inv
  exact .cons av (bE.append aC q)
theorem bE.snoc {H:aj}:∀{a:List D}{d:D}{xs:List V},bE H (a++[d]) xs→∃ys x,xs=ys++[x]∧bE H a ys∧Rep H d x
 | [],d,xs,h=>by
  obtain⟨x,t,rfl,av,aC⟩:=bE.inv (r:=[]) h
  rw[aC.nu]
  exact⟨[],x,rfl,.nil,av⟩
 | c::r,d,xs,h=>by
  obtain⟨x,t,rfl,av,aC⟩:=bE.inv (r:=r++[d]) h
  obtain⟨ys,z,rfl,cB,dw⟩:=bE.snoc aC
  exact⟨x::ys,z,rfl,.cons av cB,dw⟩
theorem bE.length {H:aj}:∀{a:List D}{xs:List V},bE H a xs→xs.length=a.length
 | [],_,h=>by rw[h.nu];rfl
 | d::r,_,h=>by
  obtain⟨x,t,rfl,av,aC⟩:=h.inv
  rw[length_cons,length_cons,aC.length]
theorem Rep.int_inv {H:aj}{i:Int}{v:V}(h:Rep H (.int i) v):v=.int i:=by unfold Rep at h;exact h
theorem Rep.str_inv {H:aj}{i:Str}{v:V}(h:Rep H (.str i) v):v=.str i:=by unfold Rep at h;exact h
theorem Rep.qF {H:aj}{l:List D}{v:V}(h:Rep H (.tup l) v):∃a xs,v=.ref a∧H a=some (.tup xs)∧bE H l xs:=by unfold Rep at h;exact h
theorem Rep.lst_inv {H:aj}{l:List D}{v:V}(h:Rep H (.lst l) v):∃a xs,v=.ref a∧H a=some (.lst xs)∧bE H l xs:=by unfold Rep at h;exact h
theorem Rep.f3 {H:aj}{l:List D}{a:Addr}{xs:List V}(h:H a=some (.tup xs)) (r:bE H l xs):Rep H (.tup l) (.ref a):=by unfold Rep;exact⟨a,xs,rfl,h,r⟩
theorem Rep.sG {H:aj}{l:List D}{a:Addr}{xs:List V}(h:H a=some (.lst xs)) (r:bE H l xs):Rep H (.lst l) (.ref a):=by unfold Rep;exact⟨a,xs,rfl,h,r⟩
theorem Rep.ofInt {H:aj}{i:Int}:Rep H (.int i) (.int i):=by unfold Rep;rfl
theorem Rep.ofStr {H:aj}{i:Str}:Rep H (.str i) (.str i):=by unfold Rep;rfl
theorem HB {H:aj}{c:Nat}:∀{xs:List V},(∀v∈xs,∃d,Rep H d v∧d.ez≤c)→∃l,bE H l xs∧e6 l≤xs.length * c
 | [],_=>⟨[],.nil,by rw[ma];exact zero_le _⟩
 | x::r,h=>by
  obtain⟨d,av,aC⟩:=h x mem_cons_self
  obtain⟨l,cB,dw⟩:=HB (xs:=r) fun v bA=>h v (mem_cons_of_mem _ bA)
  refine⟨d::l,.cons av cB,?_⟩
  rw[l9,length_cons,Nat.add_mul,Nat.one_mul]
  omega
def eX (H af:aj):Prop:=∀b xs,H b=some (.tup xs)→af b=some (.tup xs)
theorem bY.gC {H af:aj}(s:bY H af):eX H af:=fun b xs h=>s b _ h
theorem t5 {H:aj}{l:Addr}{xs:List V}{o:eU}(h:H l=some (.lst xs)):eX H (upd H l o):=fun b ys q=>by
 rw[ay (dv q h (fun z=>nomatch z))]
 exact q
theorem b3 {H:aj}{p:Addr}(h:H p=none) (o:eU):bY H (upd H p o):=fun b u q=>by
 rw[ay (cG q h)]
 exact q
theorem bY.iZ {H af:aj}{l:Addr}{o:eU}(s:bY H af) (h:H l=none):bY H (upd af l o):=fun b u q=>by
 rw[ay (cG q h)]
 exact s b u q
theorem B3 {α:Type}{xs:List α}{k:Int}(h0:0≤k) (av:k<xs.length):∃v,nK xs k=some v∧xs[k.toNat]?=some v:=by
 have a4:k.toNat<xs.length:=by omega
 have e:k=((k.toNat:Nat):Int):=by omega
 have q:xs[k.toNat]?=some xs[k.toNat]:=getElem?_eq_getElem a4
 have z:=ng q
 rw[←e]at z
 exact⟨_,z,q⟩
theorem S6 {n:Nat}{k:Int}(h0:0≤k) (av:k<n):nC n k=some k.toNat:=by
 unfold nC
 rw[if_pos h0,if_pos av]
theorem F7 {ns:List Int}{i:Nat}{y:V}(h:(ns.map V.int)[i]?=some y):∃z,y=.int z∧ns[i]?=some z:=by
 rw[getElem?_map]at h
 cases e:ns[i]? with
 | none=>rw[e]at h;cases h
 | some z=>rw[e]at h;exact⟨z,(Option.some.inj h).symm,rfl⟩
def vU (K:PySem.W.Frag) (a:Addr):kx :=
 ⟨fun i H=>∃xs x,aV K H a xs∧xs[i]?=some x,fun i H x af=>∃p v,H p=none∧x=.ref p∧af=upd H p (.tup [.int i,v])∧∀xs,aV K H a xs→xs[i]?=some v,fun i H=>∃xs,aV K H a xs∧xs.length≤i⟩
theorem PZ {P:Program}{w:World}{K:PySem.W.Frag}{aM:List Expr}{k1:Nat}{ti:Pos}(a e it:Addr) (jx:e≠it) :
  Turn P w K (.Tuple aM k1 ti) (vU K a) [e,it] e (fun i h=>∃old,IsEnum h e it ((i:Nat):Int) old∧h.IsListIter it a i) where
 mem:=by simp
 obj:=fun i h ⟨old,he,hit⟩ b aa=>by
  rcases mem_cons.mp aa with z | z
  ·subst z
   exact⟨_,he,fun v z=>by
    have hg:Data.fields _=Data.cell v:=z
    cases hg⟩
  ·have z:=mem_singleton.mp z
   subst z
   obtain⟨o,e,c,d⟩:=hit
   exact⟨o,e,fun v z=>by rw[d]at z;cases z⟩
 keep:=fun i h h' ⟨old,he,hit⟩ k=>⟨old,k e (by simp) _ he,hit.at fun o x=>k it (by simp) o x⟩
 item:=by
  intro X gd hw iR ai i pins s σ H E I hf st cJ
  subst gd hw iR
  obtain⟨old,he,hit⟩:=st
  obtain⟨xs,x,bN,aZ⟩:=cJ
  obtain⟨its,bD,p,hz⟩:=I.list bN
  obtain⟨u,bp,dW⟩:=bD.get aZ
  have tB:=hf e (by simp)
  have rW:=hf it (by simp)
  have Mv:e<s.heap.objs.size:=lt_size he
  refine wpAny_pyNext_enum_item he hit p.isList (x:=u) (by simpa using bp) jx fun gH pX Vm Wz ZS WW=>?_
  refine⟨_,rfl,wpAny_letOwnedTupleGo_enum pX fun lZ W6 vy=>?_⟩
  replace vy:Heap.SameBut e gH lZ:=vy
  have k2:∀b o,b≠e→b≠it→s.heap.get? b=some o→lZ.get? b=some o:=fun b o av aC q=>(vy.2 b av).trans (WW b o av aC q)
  have ek:lZ.get? s.heap.objs.size=some { cls:=.type "tuple",data:=.seq #[.int i s.toks,u] }:=(vy.2 _ (ne_of_gt Mv)).trans Wz
  have lF:∀b,b∉[e,it]→b≠e∧b≠it:=fun b h=>⟨fun z=>h (by simp[z]),fun z=>h (by simp[z])⟩
  have za:∀b o,H b=some o→b≠e∧b≠it:=fun b o q=>⟨cG q tB.1,cG q rW.1⟩
  have lK:H s.heap.objs.size=none:=I.fresh
  have rX:((i+1:Nat):Int)=(i:Int)+1:=by omega
  refine⟨.ref s.heap.objs.size,upd H s.heap.objs.size (.tup [.int i,x]),?_,rfl,⟨_,x,lK,rfl,rfl,fun ys cA=>by rw[I.A4 cA bN];exact aZ⟩,⟨u,by rw[rX];exact W6,Vm.extBut vy.extBut (Ne.symm jx)⟩,fun b aa=>?_⟩
  ·refine Inv.step (s:=s) (h':=lZ) (t':=s.toks+1) (g':=s.gens) (d':=s.drawn) (ch:=[e,it]) I (fun b aa=>?_) (fun b o _ _ h q _=>k2 b o (lF b h).1 (lF b h).2 q) (fun b o _ _ h q _=>⟨o.slots,k2 b o (lF b h).1 (lF b h).2 q⟩)
    (fun b o _ q n=>by rw[ay (ne_of_lt (lt_size q))];exact n) (fun b o h q=>⟨o,k2 b o (lF b h).1 (lF b h).2 q⟩) (fun b ys q=>by rw[ay (cG q lK)];exact q) (fun b o lR q=>by rw[ay (cG q lK)];exact q)
    (fun b aB q=>⟨#[],by rw[ay (cG q lK),q];simp⟩) (fun m hm=>?_) (fun b bT q=>?_) I.bare
   ·rcases mem_cons.mp aa with z | z
    ·rw[z];exact⟨tB.2.2.2.1,tB.2.1,tB.2.2.2.2.1,tB.2.2.2.2.2⟩
    ·rw[mem_singleton.mp z];exact⟨rW.2.2.2.1,rW.2.1,rW.2.2.2.2.1,rW.2.2.2.2.2⟩
   ·obtain⟨o,vN,cL,aF,r⟩:=hm
    exact⟨o,vN,cL,k2 _ o (Ne.symm tB.2.1) (Ne.symm rW.2.1) aF,r⟩
   ·by_cases aa:b=s.heap.objs.size
    ·subst aa
     rw[aT]at q
     cases q
     exact⟨by show 2≤sizeLine;decide,[.int i s.toks,u],.cons ⟨_,rfl⟩ (.cons dW .nil),_,ek,rfl,_,rfl⟩
    ·rw[ay aa]at q
     refine (I.bC b bT q).iJ (fun c v ai r=>?_) (fun c r=>by rw[ay (cG r lK)];exact r) (fun c ys r=>by rw[ay (cG r lK)];exact r)
     rcases ai with z | z
     ·rw[z]at r ⊢
      exact k2 b v (za b bT q).1 (za b bT q).2 r
     ·exact k2 c v (za c _ z).1 (za c _ z).2 r
  ·have zF:b<s.heap.objs.size:=by
    rcases mem_cons.mp aa with z | z
    ·rw[z];exact Mv
    ·rw[mem_singleton.mp z]
     obtain⟨o,q,_⟩:=hit
     exact lt_size q
   rw[ay (ne_of_lt zF)]
   exact (hf b aa).1
 done:=by
  intro X gd hw iR ai i pins s σ H E I hf st cJ
  subst gd hw iR
  obtain⟨old,he,hit⟩:=st
  obtain⟨xs,bN,aZ⟩:=cJ
  obtain⟨its,bD,p,hz⟩:=I.list bN
  obtain⟨f0,f1,f2,fL,f4,gv⟩:=hf it (by simp)
  have aG:=bD.length
  exact wpAny_pyNext_enum_end (I.ok.hd ai) he hit p.isList (by simp;omega) fun h' es=>⟨rfl,I.turned (t':=s.toks) (fun b o aa e=>es b o aa e) f0 f1 fL f4 gv⟩
 self:=fun _ _ _ _ _ st h=>by
  obtain⟨old,he,_⟩:=st
  exact wpAny_pyIter_enum he h
section
variable {X:br}
def T8 (K:PySem.W.Frag) (c5:hR):TI:=fun σ H R=>c5 σ H fun vs H1=>∃a,vs=[.ref a]∧(∃xs,aV K H1 a xs)∧R (vU K a) H1
theorem HF {aM:List Expr}{k1:Nat}{ti:Pos}{l:Expr}{c5:hR}{p pos:Pos}(cJ:iX X "enumerate") (hm:X.mg "enumerate"=none) (bf:kZ X [l] c5) (aS:starEach [l] X.env=[(false,eval l X.env)]:=by rfl) :
  r5 X (.Tuple aM k1 ti) (.Call (.Name "enumerate" p) [l] [] pos) (T8 X.K c5):=by
 intro pins s σ H R I h
 refine Call_ (pF I cJ hm boot_enumerate (PyProof.Rows.callWith_type1 (bV (bf pos pins s σ H _ I h) fun us s1 ⟨vs,H1,aR,bx,bw⟩=>?_) aS rfl))
 obtain⟨a,e,⟨xs,bN⟩,q⟩:=bw
 subst e
 cases bx with
 | cons r oU =>
  cases oU
  cases r
  obtain⟨its,bD,p,hz⟩:=aR.list bN
  refine call_enumerate_list p.isList fun h' he hit hsz a4=>?_
  refine wpAny_pyIter_enum he ?_
  refine⟨s1.heap.objs.size+1,[s1.heap.objs.size+1,s1.heap.objs.size],_,_,H1,rfl,aR.kept (t':=s1.toks) a4,PZ a _ _ (Nat.succ_ne_self _),⟨.none,he,hit⟩,fun b aa=>?_,q⟩
  rcases mem_cons.mp aa with z | z
  ·rw[z]
   exact aR.sQ (le_succ _) (aR.bC.fresh (le_succ _))
  ·rw[mem_singleton.mp z]
   exact aR.sQ (le_refl _) (aR.bC.fresh (le_refl _))
end
theorem G3 {K:PySem.W.Frag}{a:Addr}{xs:List V}{g:jO}{dB:d8}{D:Ends}{σ:St}{H:aj}(Pv:Nat→St→aj→Prop) (h0:Pv 0 σ H) (aG:∀i σ H,i≤xs.length→Pv i σ H→aV K H a xs)
  (aS:∀i x σ H p,xs[i]?=some x→Pv i σ H→H p=none→g (.ref p) σ (upd H p (.tup [.int i,x])) fun f_ aq=>dB { D with c9:=Pv (i+1),e1:=Pv (i+1),hk:=D.c9 } f_ aq) (hd:∀σ H,Pv xs.length σ H→D.c9 σ H) :
  ∃W:Nat→Nat→St→aj→Prop,(∃m,W 0 m σ H)∧∀i m σ H,W i m σ H →
   ((vU K a).stop i H∧D.c9 σ H)∨((vU K a).go i H∧∃N:St→aj→Prop,(∀bq af,N bq af→∃ec,ec<m∧W (i+1) ec bq af)∧∀x af,(vU K a).pP i H x af→g x σ af fun f_ aq=>dB { D with c9:=N,e1:=N,hk:=D.c9 } f_ aq):=by
 refine⟨fun i m σ H=>m=xs.length - i∧i≤xs.length∧Pv i σ H,⟨xs.length,by simp,zero_le _,h0⟩,?_⟩
 rintro i m σ H ⟨rfl,aW,p⟩
 have q:=aG i σ H aW p
 by_cases de:i<xs.length
 ·refine .inr ⟨⟨xs,xs[i],q,by simp[de]⟩,Pv (i+1),fun bq af ht=>⟨xs.length - (i+1),by omega,rfl,de,ht⟩,fun x af y=>?_⟩
  obtain⟨pr,v,n,rfl,rfl,y⟩:=y
  exact aS i v σ _ pr (y xs q) p n
 ·have e:i=xs.length:=by omega
  subst e
  exact .inl ⟨⟨xs,q,le_refl _⟩,hd σ H p⟩
theorem Pd:typeLookup (.type "list") "keys"=pure none:=by rw[typeLookup_type,builtinLookup_eq_fast];kernel_rfl
theorem O4 {prog:Program}{w:World}{A:Around}{E:Value→Shared→Prop}{s:Shared}{a:Addr}{xs:Array Value}{k:Nat}{Q:Option Value→Shared→Prop}
  (aZ:s.heap.get? a=some { cls:=.type "list",data:=.seq xs k }) (rT:A.handled=none)
  (h:∀h' bz,(∀b o,s.heap.get? b=some o→h'.get? b=some o)→Q none { s with heap:=h',toks:=bz }) :
  wpAny (model prog w) A (getAttr? (.ref a) "keys") Q E s:=by
 obtain⟨aD,g,d,bz,os⟩:=s
 have ig:∀KH,(⟨aD,g,d,KH,os⟩:Shared).TypeIs (.ref a) "list":=fun _=>⟨_,aZ,rfl⟩
 have f1:=sub_AttributeError
 have fL:=F.slot_list_getattribute.lookup
 have f4:=F.slot_list_getattribute.bind (.ref a)
 have gv:=am_list_getattr_none
 unfold getAttr? getAttrBy? getAttrBy
 repeat (any_goals (first | assumption | exact ig _ | ((with_reducible show wpAny _ _ (call (Value.builtin "list.__getattribute__") _ _) _ _ _);refine call_meets F.slot_list_getattribute (ig _) am_entry_list_getattribute (F.args_list_getattribute_2 _ _) (meets_getattribute_miss_list a xs k #[] "keys" _ Pd (by decide +kernel) (by size_fits)) ⟨aZ,rT,fun h' KH e Mi=>?_⟩) | wp_step))
 obtain⟨t',lR,he⟩:=Mi.there
 show wpAny _ _ (getattributeRaised _ _ _ _ _ _ _) _ _ _
 unfold getattributeRaised
 repeat (any_goals (first | assumption | wp_step))
 exact h _ _ Mi.of.keeps
theorem xd:plainId "dict.update.loop"=true:=by decide +kernel
theorem FA:entryFor table "dict.update.loop"=some Builtin.«dict.update.loop» := entryFor_of_tree (by kernel_rfl)
def ym (H:aj) (x:V) (cy:Key × V):Prop:=∃a,x=.ref a∧H a=some (.tup [dZ cy.1,cy.2])
def putAll (m:List (Key × V)) (kvs:List (Key × V)):List (Key × V):=kvs.foldl (fun m cy=>putK m cy.1 cy.2) m
theorem QC {H:aj}{a:Addr}{o:eU}(h:H a=some o):upd H a o=H:=by
 funext b
 unfold upd
 split
 ·rename_i e;rw[e,h]
 ·rfl
theorem Pk {X:br}{pins:List (Addr × Obj)}{σ:St}{A:Around}{R:Result→Shared→Prop}{d p it:Addr}{ys:List V}{kvs:List (Key × V)}(du:A.handled=none):∀(n i:Nat) (s:Shared) (H:aj) (m:List (Key × V)),
  ys.length - i=n→i≤ys.length→Inv X pins σ H s→H d=some (.b2 m)→H p=some (.lst ys)→(∀(j:Nat) (x:V),ys[j]?=some x→∃cy,kvs[j]?=some cy∧ym H x cy)→kvs.length=ys.length→m.length+(ys.length - i)≤sizeLine →
  s.heap.IsListIter it p i→mu X pins H it→(∀aL,Inv X pins σ (upd H d (.b2 (putAll m (kvs.drop i)))) aL→R (.ok (.ret .none)) aL) →
  wpAny (model X.prog X.w) A.in1 (Builtin.«dict.update.loop» ⟨[.ref d,.ref it,rawInt i,.none],[]⟩)
   (fun fin aL=>match fin with | .done f=>R (.ok f) aL | .again gK=>gK.quiet=true∧codeAny (model X.prog X.w) A gK R aL) (fun e aL=>R (.error e) aL) s:=by
 intro n
 induction n with
 | zero =>
  intro i s H m aN aW I hd aD gd aG hz st hf q
  obtain⟨its,bD,pl,_⟩:=I.list (aV.of aD)
  have hlen:=bD.length
  show wpAny _ _ (pyNext (.ref it) >>= _) _ _ s
  refine wpAny_bind (wpAny_pyNext_list_end du st pl.isList (by simp;omega) fun h' es=>?_)
  obtain⟨f0,f1,f2,fL,f4,gv⟩:=hf
  have aR:Inv X pins σ H { s with heap:=h' }:=I.turned (t':=s.toks) (fun b o aa e=>es b o aa e) f0 f1 fL f4 gv
  have e0:upd H d (.b2 (putAll m (kvs.drop i)))=H:=by
   rw[List.drop_eq_nil_of_le (by omega)]
   exact QC hd
  show wpAny _ _ (Builtin.Dict.addKeywords d [] >>= _) _ _ _
  exact wpAny_bind (wpAny_pure (wpAny_pure (q _ (by rw[e0];exact aR))))
 | succ n dt =>
  intro i s H m aN aW I hd aD gd aG hz st hf q
  obtain⟨its,bD,pl,_⟩:=I.list (aV.of aD)
  have hlen:=bD.length
  have de:i<ys.length:=by omega
  obtain⟨cy,WX,a,az,bf⟩:=gd i ys[i] (getElem?_eq_getElem de)
  obtain⟨u,bp,dW⟩:=bD.get (getElem?_eq_getElem de)
  rw[az]at dW
  cases dW
  show wpAny _ _ (pyNext (.ref it) >>= _) _ _ s
  refine wpAny_bind (wpAny_pyNext_list_item st pl.isList (x:=.ref a) (by simpa using bp) fun h' iu mS=>?_)
  obtain⟨f0,f1,f2,fL,f4,gv⟩:=hf
  have aR:Inv X pins σ H { s with heap:=h' }:=I.turned (t':=s.toks) (fun b o aa e=>(mS.2 b aa).trans e) f0 f1 fL f4 gv
  obtain⟨i6,b7,⟨o,aF,ai,c_,JK⟩,_⟩:=aR.tuple (aP.of bf)
  obtain⟨cl,dd,OG,dC⟩:=o
  simp only at ai JK
  subst ai JK
  have ig:(⟨h',s.gens,s.drawn,s.toks,s.os⟩:Shared).TypeIs (.ref a) "tuple":=⟨_,aF,rfl⟩
  show wpAny _ _ (holding [.ref a] _ >>= _) _ _ _
  refine wpAny_bind (wpAny_holding (wpAny_bind (wpAny_tryCatch ?_)))
  unfold Builtin.Dict.pairItems
  refine wpAny_bind (wpAny_typeOf ig ?_)
  rw[if_pos (by decide)]
  refine wpAny_bind (wpAny_seqItems aF rfl (wpAny_pure ?_))
  obtain⟨Ob,Oa,rfl,EN,VM⟩:=b7.two
  show wpAny _ _ (holding [Ob,Oa] (dictSet d Ob Oa)) _ _ _
  refine wpAny_holding ?_
  obtain⟨z,DH,vs,rel,jB⟩:=sJ aR.bC hd
  have ZW:(putK m cy.1 cy.2).length≤m.length+1:=pg m cy.1 cy.2
  refine wpAny_dictSet_pairs (knd:=ho X.prog X.w) (k:=cy.1) (nj EN) jB (fun aC Nz jv=>?_) (by rw[←rel.length];exact z)
  have cF:Inv X pins σ (upd H d (.b2 (putK m cy.1 cy.2))) { s with heap:=aC,toks:=s.toks+1 } :=
   sv (s:={ s with heap:=h' }) aR (by rw[hd];exact True.intro) jv (let ⟨q,_,_,bN,_⟩:=Nz;⟨q,bN⟩) (uG (by omega) DH (rel.put cy.1 VM) Nz)
  have VV:p≠d:=dv aD hd (fun z=>nomatch z)
  have K0:it≠d:=(cG hd f0).symm
  have zE:((i:Int)+1)=((i+1:Nat):Int):=by omega
  rw[zE]
  refine wpAny_pure ⟨plainId_quiet xd _,codeAny_builtin FA ?_⟩
  rw[Around.under_plainId xd _]
  refine dt (i+1) _ _ (putK m cy.1 cy.2) (by omega) (by omega) cF aT (by rw[ay VV];exact aD) (fun j x aZ=>?_) aG (by omega) (iu.extBut jv.extBut K0) ⟨by rw[ay K0];exact f0,f1,f2,fL,f4,gv⟩ fun aL fP=>q aL ?_
  ·obtain⟨Wb,av,b,aC,cB⟩:=gd j x aZ
   exact⟨Wb,av,b,aC,by rw[ay (dv cB hd (fun z=>nomatch z))];exact cB⟩
  ·have aJ:kvs.drop i=cy::kvs.drop (i+1):=by
    obtain⟨a4,e⟩:=List.getElem?_eq_some_iff.mp WX
    rw[←e]
    exact List.drop_eq_getElem_cons a4
   rw[qE]at fP
   rw[aJ]
   exact fP
def SD:List V→aj→ct→Prop:=fun xs H Q=>∃p ys kvs,xs=[.ref p]∧H p=some (.lst ys)∧(∀(j:Nat) (x:V),ys[j]?=some x→∃cy,kvs[j]?=some cy∧ym H x cy)∧kvs.length=ys.length∧ys.length≤1000 ∧
 ∀d,H d=none→Q (.ref d) (upd H d (.b2 (putAll [] kvs)))
theorem PW {X:br}(du:X.A.handled=none):lq X (.type "dict") SD:=by
 intro pins s σ H xs us Q I bD h
 obtain⟨p,ys,kvs,rfl,aD,gd,aG,hz,q⟩:=h
 obtain⟨u,rfl,dW⟩:=bD.one
 cases dW
 refine callType_codes (Q₁:=fun obj c2=>obj=.ref s.heap.objs.size∧c2={ s with heap:=s.heap.push { cls:=.type "dict",data:=.dict #[] } }) F.kt_called_dict (F.kt_typeCall_dict_1 _) F.entry_dict_init (kt_code_dict_new _ ⟨rfl,rfl⟩) ?_
 rintro obj c2 ⟨rfl,rfl⟩
 have aR:Inv X pins σ (upd H s.heap.objs.size (.b2 [])) { s with heap:=s.heap.push { cls:=.type "dict",data:=.dict #[] } } :=
  I.laid (a:=s.heap.objs.size) (o:=.b2 []) (t':=s.toks) (fun _ _ q=>get?_push_of_some _ q) (le_refl _) (A7 s.heap I.big)
 have fr:H s.heap.objs.size=none:=I.fresh
 have np:p≠s.heap.objs.size:=cG aD fr
 have nv:(s.heap.push { cls:=.type "dict",data:=.dict #[] }).DictOf (ho X.prog X.w) s.heap.objs.size []:=Heap.DictOf.new s.heap
 refine⟨nv.typeIs,F.args_dict_init_2 _ _,?_⟩
 have Dz:(upd H s.heap.objs.size (.b2 [])) p=some (.lst ys):=by rw[ay np];exact aD
 obtain⟨_,its,tn,z6,e0,OF⟩:=aR.oc Dz
 unfold Builtin.«dict.__init__»
 refine wpAny_bind ?_
 unfold Builtin.Dict.selfAndRest
 refine wpAny_bind (wpAny_notOrdered_dict nv.typeIs ?_)
 show wpAny _ _ (pure (s.heap.objs.size,[Value.ref p])) _ _ _
 refine wpAny_pure ?_
 show wpAny _ _ (Builtin.Dict.updateFrom "dict.__init__" s.heap.objs.size (.ref p) [] .none) _ _ _
 unfold Builtin.Dict.updateFrom
 refine wpAny_bind (wpAny_typeOf (T:="list") ⟨_,OF,rfl⟩ ?_)
 rw[if_pos (by decide)]
 refine wpAny_bind (O4 OF du fun h' bz oX=>?_)
 have cF:Inv X pins σ (upd H s.heap.objs.size (.b2 [])) { s with heap:=h',toks:=bz }:=aR.kept (t':=bz) oX
 obtain⟨i6,b7,pl,_⟩:=cF.list (aV.of Dz)
 show wpAny _ _ (rule _ >>= fun _=>pyIter (.ref p) >>= _) _ _ _
 refine wpAny_bind (wpAny_rule (wpAny_bind (wpAny_pyIter_list pl.isList ?_)))
 refine wpAny_pure ⟨plainId_quiet xd _,codeAny_builtin FA ?_⟩
 rw[Around.under_plainId xd _]
 have cS:=cF.kept (t':=bz) (h':=h'.push { cls:=.type "list_iterator",data:=.fields #[.ref p,.int 0 0] }) fun b o e=>get?_push_of_some _ e
 refine Pk (A:=X.A.in1) (it:=h'.objs.size) (ys:=ys) (kvs:=kvs) (p:=p) du ys.length 0 _ _ [] rfl (zero_le _) cS aT Dz (fun j x aZ=>?_) aG (by rw[length_nil,zero_add];exact le_of_lt (P4 hz)) ⟨_,get?_push_size _ rfl,rfl,rfl⟩ (cF.sQ (le_refl _) (cF.bC.fresh (le_refl _))) fun aL fP=>?_
 ·obtain⟨cy,av,a,aC,cB⟩:=gd j x aZ
  exact⟨cy,av,a,aC,by rw[ay (cG cB fr)];exact cB⟩
 ·rw[qE,List.drop_zero]at fP
  exact⟨rfl,.ref s.heap.objs.size,_,fP,rfl,q _ fr⟩
def h3 {α:Type}(R:α→V→Prop) (l:List α) (xs:List V):Prop:=l.length=xs.length∧∀(i:Nat) (a:α) (x:V),l[i]?=some a→xs[i]?=some x→R a x
section
variable {α:Type}{R OV:α→V→Prop}{l:List α}{xs:List V}
theorem h3.nil:h3 R [] []:=⟨rfl,fun i a x h _=>by simp at h⟩
theorem h3.get (h:h3 R l xs) {i:Nat}{x:V}(e:xs[i]?=some x):∃a,l[i]?=some a∧R a x:=by
 have aW:i<xs.length:=(List.getElem?_eq_some_iff.mp e).1
 have aG:i<l.length:=by rw[h.1];exact aW
 exact⟨l[i],getElem?_eq_getElem aG,h.2 i _ x (getElem?_eq_getElem aG) e⟩
theorem h3.mono (h:h3 R l xs) (f:∀a x,R a x→OV a x):h3 OV l xs:=⟨h.1,fun i a x av aC=>f a x (h.2 i a x av aC)⟩
theorem h3.snoc {a:α}{x:V}(h:h3 R l xs) (q:R a x):h3 R (l++[a]) (xs++[x]):=by
 refine⟨by rw[length_append,length_append,h.1];rfl,fun i b y av aC=>?_⟩
 by_cases aW:i<l.length
 ·rw[getElem?_append_left aW]at av
  rw[getElem?_append_left (by rw[←h.1];exact aW)]at aC
  exact h.2 i b y av aC
 ·rw[getElem?_append_right (by omega)]at av
  have aZ:xs.length≤i:=by rw[←h.1];omega
  rw[getElem?_append_right aZ,←h.1]at aC
  cases z:i - l.length with
  | zero =>
   rw[z]at av aC
   have aJ:a=b:=Option.some.inj av
   have aQ:x=y:=Option.some.inj aC
   rw[←aJ,←aQ]
   exact q
  | succ n=>rw[z]at av;simp at av
theorem h3.drop (h:h3 R l xs) (n:Nat):h3 R (l.drop n) (xs.drop n):=by
 refine⟨by rw[length_drop,length_drop,h.1],fun i a x av aC=>?_⟩
 rw[List.getElem?_drop]at av aC
 exact h.2 _ a x av aC
end
theorem xh (ns:List Int) (j:Nat) (z:Int):(ns.map V.int).set j (.int z)=(ns.set j z).map V.int:=by rw[List.map_set]
theorem xj {ns:List Int}{i:Nat}{z:Int}(h:ns[i]?=some z):(ns.map V.int)[i]?=some (.int z):=by rw[getElem?_map,h];rfl
theorem ji {ns:List Int}{k:Int}(h0:0≤k) (av:k<(ns.length:Int)):∃z,ns[k.toNat]?=some z∧nK (ns.map V.int) k=some (.int z):=by
 obtain⟨v,aJ,aQ⟩:=B3 (xs:=ns.map V.int) h0 (by rw[length_map];exact av)
 obtain⟨z,rfl,b9⟩:=F7 aQ
 exact⟨z,b9,aJ⟩
theorem GB (ns:List Int):(ns.map V.int).all nk=true:=by
 rw[List.all_eq_true]
 intro v bA
 obtain⟨z,_,rfl⟩:=mem_map.mp bA
 rfl
theorem Rp (d:Int) (ns:List Int):gq (.int d) (ns.map V.int)=decide (d∈ns):=by
 unfold gq
 induction ns with
 | nil=>rfl
 | cons n r dt =>
  rw[map_cons,any_cons,dt]
  have e:oH (.int n) (.int d)=(n == d):=rfl
  rw[e]
  by_cases h:n=d
  ·subst h
   simp
  ·have h':¬d=n:=fun z=>h z.symm
   simp[h,h']
theorem xg {env:Env}{fv y:Str}:∀{names:List (Str × NameKind)}{k:NameKind},(∀z∈names,z.2≠.cell)→(∀z∈names,z.2=.free→z.1=fv) →
  (names.map fun (n,k)=>if (k == NameKind.free && env.scope.kind == .function && env.kindOf n == some .cell) then (n,NameKind.cell) else (n,k)).lookup y=some k→(k=.cell∨k=.free)→y=fv
 | [],_,_,_,h,_=>by simp at h
 | (n,k0)::r,k,av,aC,h,a4=>by
  rw[map_cons,lookup_cons]at h
  have WT:=av (n,k0) mem_cons_self
  have Mu:=aC (n,k0) mem_cons_self
  by_cases ai:(k0 == NameKind.free && env.scope.kind == .function && env.kindOf n == some .cell)=true
  ·simp only[ai,if_true]at h
   cases e:y == n with
   | true =>
    have:k0=.free:=by
     rw[and_eq_true,and_eq_true]at ai
     exact beq_iff_eq.mp ai.1.1
    rw[beq_iff_eq.mp e]
    exact Mu this
   | false =>
    rw[e]at h
    exact xg (fun z hz=>av z (mem_cons_of_mem _ hz)) (fun z hz=>aC z (mem_cons_of_mem _ hz)) h a4
  ·simp only[ai,Bool.false_eq_true,if_false]at h
   cases e:y == n with
   | true =>
    rw[e]at h
    have h':some k0=some k:=h
    cases h'
    rw[beq_iff_eq.mp e]
    rcases a4 with z | z
    ·exact absurd z WT
    ·exact Mu z
   | false =>
    rw[e]at h
    exact xg (fun z hz=>av z (mem_cons_of_mem _ hz)) (fun z hz=>aC z (mem_cons_of_mem _ hz)) h a4
theorem jU.one {X:br}{x fv:Str}{j:Nat}{c:Addr}{scope:Scope}(Ue:closureFor scope X.env=pure [(fv,c)]) (sI:∀y∈scope.names,y.2≠.cell) (ll:∀y∈scope.names,y.2=.free→y.1=fv) (Cj:scope.kind=.function)
  (S_:∀y∈scope.names,y.2=.local→scope.names.lookup y.1=some .local) (pN:scope.names.lookup x=some .local) (ai:X.env.cells.lookup fv=some c) (jx:x≠fv) (e8:X.N[j]?=some fv) (a4:X.env.scope.names.lookup fv=some .cell)
  (aI:(relabel scope X.env).names.lookup fv=some .cell):jU X x [j] [x,fv] scope [(fv,c)] where
 u5:=Ue
 cell:=sI
 kind:=Cj
 names:=S_
 loc:=pN
 sub:=fun y d e=>by
  rw[lookup_cons]at e
  cases z:y == fv with
  | true =>
   rw[z]at e
   have dH:some c=some d:=e
   cases dH
   rw[beq_iff_eq.mp z]
   exact ai
  | false=>rw[z]at e;simp at e
 has:=fun y cA=>by
  have:y=fv:=by
   rcases cA with h | h
   ·exact xg sI ll h (.inl rfl)
   ·exact xg sI ll h (.inr rfl)
  subst this
  exact⟨c,by rw[lookup_cons,beq_self_eq_true]⟩
 aZ:=rfl
 len:=rfl
 bk:=by
  rw[nodup_cons]
  exact⟨fun m=>jx (mem_singleton.mp m),by simp⟩
 va:=fun i k y av aC=>by
  cases i with
  | zero =>
   have aJ:fv=y:=Option.some.inj av
   have aQ:j=k:=Option.some.inj aC
   subst aJ aQ
   exact⟨e8,a4,aI⟩
  | succ i=>simp at aC
theorem PS {K:PySem.W.Frag}{a:Addr}{ns:List Int}{bS:TE}{bq:St}{Q:ct}{H:aj}{acc:Addr}{w:V}(bf:H a=some (.lst (ns.map V.int))) (h0:H acc=none) (hz:ns.length≤1000)
  (he:∀(z:Int) a3 (k:ct),(∀p,a3 p=none→k (.ref p) (upd a3 p (.tup [.int z,w])))→bS (some (.int z)::bq) a3 k)
  (q:∀(ys:List V) (af:aj),bY H af→af acc=some (.lst ys)→h3 (fun z x=>ym af x (Sum.inl z,w)) ns ys→Q (.ref acc) af):qS (oN K a) bS bq Q H acc:=by
 have zh:a≠acc:=cG bf h0
 refine⟨ns.length,fun i ys aq=>i≤ns.length∧bY H aq∧aq acc=some (.lst ys)∧h3 (fun z x=>ym aq x (Sum.inl z,w)) (ns.take i) ys,⟨zero_le _,b3 h0 _,aT,.nil⟩,?_⟩
 rintro i ys aq ⟨aW,cV,eg,aD⟩
 have mJ:=cV _ _ bf
 by_cases de:i<ns.length
 ·refine .inr ⟨⟨_,.int ns[i],aV.of mJ,xj (getElem?_eq_getElem de)⟩,de,?_⟩
  rintro v a3 ⟨rfl,bA⟩
  have ev:v=.int ns[i]:=by
   have:=bA _ (aV.of mJ)
   rw[xj (getElem?_eq_getElem de)]at this
   exact (Option.some.inj this).symm
  subst ev
  refine he _ _ _ fun p lI=>?_
  have KX:p≠acc:=(cG eg lI).symm
  have Uh:(upd a3 p (.tup [.int ns[i],w])) acc=some (.lst ys):=by rw[ay KX.symm];exact eg
  have pT:ys.length=i:=by rw[←aD.1,length_take];omega
  refine⟨Uh,lt_of_le_of_lt (by omega:ys.length≤1000) (by decide),de,(cV.trans (b3 lI _)).iZ h0,aT,?_⟩
  rw[take_add_one,getElem?_eq_getElem de]
  refine h3.snoc (aD.mono fun z x aZ=>?_) ⟨p,rfl,by rw[ay KX,aT];rfl⟩
  obtain⟨b,aJ,aQ⟩:=aZ
  exact⟨b,aJ,by rw[ay (dv aQ eg (fun z=>nomatch z)),ay (cG aQ lI)];exact aQ⟩
 ·have e:i=ns.length:=by omega
  subst e
  rw[take_length]at aD
  exact .inl ⟨⟨_,aV.of mJ,by rw[length_map];exact le_refl _⟩,q ys aq cV eg aD⟩
theorem putAll_has (w:V):∀(ns:List Int) (m:List (Key × V)) (z:Int),(dk (putAll m (ns.map fun n=>((Sum.inl n:Key),w))) (Sum.inl z)).isSome=(decide (z∈ns) || (dk m (Sum.inl z)).isSome)
 | [],m,z=>by
  show (dk m (Sum.inl z)).isSome=_
  simp
 | n::r,m,z=>by
  have dt:=putAll_has w r (putK m (Sum.inl n) w) z
  show (dk (putAll (putK m (Sum.inl n) w) (r.map fun n=>((Sum.inl n:Key),w))) (Sum.inl z)).isSome=_
  rw[dt,t8]
  by_cases h:z=n
  ·subst h
   simp
  ·have h':¬((Sum.inl z:Key)=Sum.inl n):=fun e=>h (Sum.inl.inj e)
   simp[h,h']
theorem Pg {prog:Program}{w:World}{A:Around}{R:Result→Shared→Prop}{s:Shared}{elt target iter c:Expr}{scope:Scope}{pos:Pos}{it acc:Value}{env:Env}(I:Nat→Shared→Prop)
  (turn:∀n s,I n s→wpAny (model prog w) A (pyNext it) (fun r c2=>match r with
   | none=>R (.ok .next) c2
   | some v=>wpAny (model prog w) A (letOwnedTupleGo target it v) (fun _ hK=>wpAny (model prog w) A (assign target env v) (fun _ hI=>wpAny (model prog w) A (isTrue c env (eval c env)) (fun ok nP =>
     if ok=true then wpAny (model prog w) A (eval elt env) (fun x v_ =>
      wpAny (model prog w) A (call (.builtin "list.append") [acc,x]) (fun _ Oe=>∃m,m<n∧I m Oe) (fun _ _=>False) v_) (fun _ _=>False) nP
     else ∃m,m<n∧I m nP) (fun _ _=>False) hI) (fun _ _=>False) hK) (fun _ _=>False) c2) (fun _ _=>False) s)
  (n:Nat) (h:I n s):codeAny (model prog w) A (.compLoop (.ListComp elt [⟨target,iter,[c],0⟩] scope pos) 0 it acc env) R s:=by
 refine codeAny_loop rfl I (fun n s oZ=>?_) n h
 show wpAny _ A ((compTurn (.ListComp elt [⟨target,iter,[c],0⟩] scope pos) 0 it acc env).onRaise (fun x=>do noteFrame x env;theTreesLotGoes x)) _ _ s
 refine wpAny_noted ?_
 rw[compTurn_list]
 refine wpAny_bind (wpAny_standAt (wpAny_bind (wpAny_mono (turn n s oZ) (fun r c2 gH=>?_) fun _ _ z=>False.elim z)))
 cases r with
 | none=>exact wpAny_pure gH
 | some v =>
  refine wpAny_bind (wpAny_mono gH (fun _ hK lZ=>?_) fun _ _ z=>False.elim z)
  refine wpAny_bind (wpAny_mono lZ (fun _ hI wA=>wpAny_bind (wpAny_mono (wpAny_tests_one wA) (fun ok nP Af=>?_) fun _ _ z=>False.elim z)) fun _ _ z=>False.elim z)
  cases ok with
  | false=>exact wpAny_pure ⟨rfl,Af⟩
  | true=>exact wpAny_bind (wpAny_bind (wpAny_mono Af (fun x v_ EW=>wpAny_bind (wpAny_mono EW (fun _ Oe YE=>wpAny_pure (wpAny_pure ⟨rfl,YE⟩)) fun _ _ z=>False.elim z)) fun _ _ z=>False.elim z))
def B4 (J:kx) (tt:TT) (bS:TE) (bq:St) (Q:ct) (H:aj) (acc:Addr):Prop :=
 ∃(n:Nat) (W:Nat→List V→aj→Prop),W 0 [] (upd H acc (.lst []))∧∀i ys aq,W i ys aq→(J.stop i aq∧Q (.ref acc) aq) ∨
  (J.go i aq∧i<n∧∀v a3,J.pP i aq v a3→tt (some v::bq) a3 fun b NS=>if b=true then bS (some v::bq) NS fun y c6=>c6 acc=some (.lst ys)∧ys.length<sizeLine∧W (i+1) (ys++[y]) (upd c6 acc (.lst (ys++[y]))) else W (i+1) ys NS)
theorem PU {X:br}{pins:List (Addr × Obj)}{σ:St}{H:aj}{s:Shared}{x:Str}{jD:Pos}{elt iter c:Expr}{scope:Scope}{pos:Pos}{cl:List (Str × Addr)}{d1:List Str}{fr:List Nat}{bS:TE}{tt:TT}{J:kx}{cj:List Addr}{it:Addr}
  {gr:Nat→Heap→Prop} {E:Value→Shared→Prop} {RR:Value→Addr→Result→Shared→Prop} {Q:ct} (B:jU X x fr d1 scope cl) (ai:X.calm=true) (I:Inv X pins σ H s) (T:Turn X.prog X.w X.K (.Name x jD) J cj it gr)
  (st:gr 0 s.heap) (hf:∀b∈cj,mu X pins H b) (bN:∀C aL af,hW (gP X d1 scope cl C aL af cj) c tt) (he:∀C aL af,b4 (gP X d1 scope cl C aL af cj) elt bS) (h:∀acc,H acc=none→B4 J tt bS (pick σ fr) Q H acc)
  (DO:∀acc C af aL m,Inv X pins σ af aL→Q (.ref acc) af→aL.heap.Ns C m→af C=none→C≠X.env.locals→(C∈X.ex∨X.ff.heap.objs.size≤C)→(∀y c,X.env.cells.lookup y=some c→c≠C)→(∀p∈X.bR++pins,p.1≠C)→RR (.ref acc) C (.ok .next) aL) :
  wpAny (model X.prog X.w) X.A (newList []) (fun acc hI=>wpAny (model X.prog X.w) X.A (newFunctionEnv scope X.env.globals cl [] X.env.qual none .none (some X.env)) (fun u6 nP =>
   codeAny (model X.prog X.w) X.A (.compStart (.ListComp elt [⟨.Name x jD,iter,[c],0⟩] scope pos) 0 (.ref it) acc { u6 with scope:=relabel scope X.env }) (RR acc u6.locals) nP) E hI) E s:=by
 refine wpAny_newObj_type (wpAny_newFunctionEnv B.cell (by intro y cA;simp at cA) (fun gH q5 q4=>?_) B.kind)
 have cS:Inv X pins σ (upd H s.heap.objs.size (.lst [])) { s with heap:=s.heap.push { cls:=.type "list",data:=.seq ([]:List Value).toArray } }:=I.CE (its:=[]) (t':=s.toks) .nil (zero_le _)
 obtain⟨n,W,rI,turn⟩:=h s.heap.objs.size I.fresh
 dsimp only at q5 q4 ⊢
 generalize vz:({ s with heap:=s.heap.push { cls:=.type "list",data:=.seq ([]:List Value).toArray } }:Shared)=s3 at *
 have vF:s.heap.push { cls:=.type "list",data:=.seq ([]:List Value).toArray }=s3.heap:=by rw[←vz]
 have CL:s.heap.push { cls:=.type "list",dict:=none,data:=.seq ([]:List Value).toArray }=s3.heap:=vF
 rw[CL]at q5 q4 ⊢
 have mD:∀b o,s3.heap.get? b=some o→b≠s3.heap.objs.size:=fun b o e=>ne_of_lt (lt_size e)
 have md:∀b o,s3.heap.get? b=some o→gH.get? b=some o:=fun b o e=>q4.extBut b o (mD b o e) (get?_push_of_some _ e)
 have uM:∀b o,s.heap.get? b=some o→s3.heap.get? b=some o:=fun b o e=>by rw[←vF];exact get?_push_of_some _ e
 have lz:gr 0 gH:=T.keep 0 _ _ st fun b _ o e=>md b o (uM b o e)
 have Cy:∀b∈cj,∃o,s3.heap.get? b=some o:=fun b aa=>by
  obtain⟨o,e,_⟩:=T.obj 0 _ st b aa
  exact⟨o,uM b o e⟩
 have qX:∀b,b≠X.env.locals→b∉X.bF→b∉fo X.stack:=fun b av aC aa=>by
  rcases mem_cons.mp (cS.ur b aa) with z | z
  ·exact av z
  ·exact aC z
 have ok:(gP X d1 scope cl s3.heap.objs.size s3 (upd H s.heap.objs.size (.lst [])) cj).Ok:=by
  refine⟨I.ok.mod,?_,I.ok.glob,I.ok.blt,le_refl _,fun y z c av aC=>I.ok.inj y z c (B.sub y c av) (B.sub z c aC),fun y cA=>B.has y cA,fun y c e _=>absurd (show false=true from e) Bool.false_ne_true,I.ok.hd,I.ok.frames,.inl rfl,fun b aa=>?_,cS.bs,
   le_trans I.ok.iO cS.ez,fun b o e aa=>?_,fun b aa=>qX b (hf b aa).2.1 (hf b aa).2.2.1,cS.stack,cS.xP⟩
  ·exact B.kind
  ·obtain⟨o,e⟩:=Cy b aa
   exact⟨mD b o e,fun y c e=>(hf b aa).2.2.2.2.1 y c (B.sub y c e)⟩
  ·rcases (hf b aa).2.2.2.1 with z | z
   ·exact I.ok.jW b o e z
   ·exact absurd (lt_of_lt_of_le (lt_size (I.ok.bs b o e).1) z) (lt_irrefl _)
 have cellK:∀c v,s3.heap.IsCell c v→gH.IsCell c v:=fun c v ⟨o,aF,hd⟩=>⟨o,md c o aF,hd⟩
 have mj:∀{af:aj},(∀b∈cj,af b=none)→∀b∈cj,mu (gP X d1 scope cl s3.heap.objs.size s3 (upd H s.heap.objs.size (.lst [])) cj) pins af b:=fun aN b aa =>
  ⟨aN b aa,(ok.lN b aa).1,qX b (hf b aa).2.1 (hf b aa).2.2.1,.inl aa,fun y c e=>(hf b aa).2.2.2.2.1 y c (B.sub y c e),(hf b aa).2.2.2.2.2⟩
 have gL:Inv (gP X d1 scope cl s3.heap.objs.size s3 (upd H s.heap.objs.size (.lst [])) cj) pins (none::pick σ fr) (upd H s.heap.objs.size (.lst [])) { s3 with heap:=gH }:=by
  refine⟨ok,rfl,cS.bare,gW.kept md,⟨_,q5,fun i y v av aC cB=>?_⟩,fun y c e=>?_,cS.fresh,fun y c e=>cS.hq y c (B.sub y c e),fun p aD=>?_,cS.bC.kept md,?_⟩
  ·cases i with
   | zero=>cases (show some none=some (some v) from aC)
   | succ i =>
    have aC:(pick σ fr)[i]?=some (some v):=aC
    unfold pick at aC
    rw[getElem?_map]at aC
    cases o3:fr[i]? with
    | none=>rw[o3]at aC;cases aC
    | some j =>
     rw[o3]at aC
     have oE:(σ[j]?).getD none=some v:=Option.some.inj aC
     have EX:σ[j]?=some (some v):=by
      cases q:σ[j]? with
      | none=>rw[q]at oE;cases oE
      | some o =>
       rw[q]at oE
       have:o=some v:=oE
       rw[this]
     obtain⟨en,fk,o6⟩:=B.va i j y av o3
     obtain⟨el,_,DB⟩:=cS.loc
     obtain⟨u,dW,lk⟩:=DB j y v en EX (.inr (.inl fk))
     refine⟨u,dW,.inr ⟨.inl o6,?_⟩⟩
     rcases lk with ⟨k,_⟩ | ⟨_,c,e,z⟩
     ·have iE:X.env.scope.names.lookup y=some .local:=k
      rw[fk]at iE
      cases iE
     ·obtain⟨gK,dH⟩:=B.has y (.inl o6)
      have:=B.sub y gK dH
      rw[e]at this
      cases this
      exact⟨_,dH,cellK _ _ z⟩
  ·obtain⟨v,z⟩:=cS.cell y c (B.sub y c e)
   exact⟨v,cellK c v z⟩
  ·obtain⟨e,tn,ne,jE,d⟩:=cS.pin p aD
   exact⟨md _ _ e,tn,mD _ _ e,qX _ ne jE,d⟩
  ·show (none::pick σ fr).length=d1.length
   rw[B.len,length_cons]
   unfold pick
   rw[length_map]
 have fin:∀{af:aj} {bq:St} {aL:Shared},Inv (gP X d1 scope cl s3.heap.objs.size s3 (upd H s.heap.objs.size (.lst [])) cj) pins bq af aL→Q (.ref s.heap.objs.size) af→RR (.ref s.heap.objs.size) s3.heap.objs.size (.ok .next) aL:=fun {af bq aL} J q=>by
  obtain⟨m,aN,_⟩:=J.loc
  refine DO _ _ af aL m (cS.Cp (ch:=cj) J.os J.base J.bC J.bare fun b aa=>⟨(hf b aa).2.2.2.1,(hf b aa).2.1,(hf b aa).2.2.2.2.1,(hf b aa).2.2.2.2.2⟩) q aN J.free (ne_of_gt cS.lt) (.inr cS.ez) (fun y c e=>?_) fun p aD=>?_
  ·obtain⟨v,o,aF,_⟩:=cS.cell y c e
   exact mD c o aF
  ·exact mD _ _ (cS.pin p aD).1
 have loop:∀hI:Shared,hI={ s3 with heap:=gH }→codeAny (model X.prog X.w) X.A (.compLoop (.ListComp elt [⟨.Name x jD,iter,[c],0⟩] scope pos) 0 (.ref it) (.ref s.heap.objs.size) (compEnvC scope cl s3.heap.objs.size X.env)) (RR (.ref s.heap.objs.size) s3.heap.objs.size) hI:=by
  rintro hI rfl
  refine Pg (fun m aL=>∃i ys rE af,Inv (gP X d1 scope cl s3.heap.objs.size s3 (upd H s.heap.objs.size (.lst [])) cj) pins (rE::pick σ fr) af aL∧gr i aL.heap∧(∀b∈cj,af b=none)∧W i ys af∧m=n - i) ?_ n ⟨0,[],none,_,gL,lz,fun b aa=>?_,rI,rfl⟩
  ·rintro m aL ⟨i,ys,rE,af,fP,iu,vK,d5,rfl⟩
   rcases turn i ys af d5 with ⟨stop,q⟩ | ⟨go,rp,step⟩
   ·refine bV (T.done (gP X d1 scope cl s3.heap.objs.size s3 (upd H s.heap.objs.size (.lst [])) cj) rfl rfl rfl ai i pins aL _ af (fun _ _=>False) fP (mj vK) iu stop) fun r s1 ⟨aI,aR⟩=>?_
    subst aI
    exact fin aR q
   ·refine bV (T.item (gP X d1 scope cl s3.heap.objs.size s3 (upd H s.heap.objs.size (.lst [])) cj) rfl rfl rfl ai i pins aL _ af (fun _ _=>False) fP (mj vK) iu go) fun r s1 ⟨u,aI,dw⟩=>?_
    subst aI
    refine bV dw fun _ s5 ⟨v,e_,o_,mT,nO,mw,vI⟩=>?_
    have vV:=o_.pinned (mj vI) (T.obj _ _ mw)
    have wk:(relabel scope X.env).names.lookup x=some .local:=lookup_relabel_local B.loc
    refine bV (hY (X:=gP X d1 scope cl s3.heap.objs.size s3 (upd H s.heap.objs.size (.lst [])) cj) (i:=0) (x:=x) B.bk B.aZ (.inl wk) (.inr wk) _ s5 _ e_ v u
     (fun bq iW=>bq=some v::pick σ fr∧iW=e_) vV mT ⟨rfl,rfl⟩) fun _ j8 ⟨EI,iW,k4,aJ,aQ⟩=>?_
    subst aJ aQ
    have again:∀{kA:aj} {zs:List V} {iP:Shared},Inv (gP X d1 scope cl s3.heap.objs.size s3 (upd H s.heap.objs.size (.lst [])) cj) (pins++uy cj s5.heap) (some v::pick σ fr) kA iP→W (i+1) zs kA →
      ∃m,m<n - i∧∃i ys rE af,Inv (gP X d1 scope cl s3.heap.objs.size s3 (upd H s.heap.objs.size (.lst [])) cj) pins (rE::pick σ fr) af iP∧gr i iP.heap∧(∀b∈cj,af b=none)∧W i ys af∧m=n - i:=fun {kA zs iP} o9 Yh=>by
     refine⟨n - (i+1),by omega,i+1,zs,some v,_,o9.t_,T.keep _ _ _ mw fun b aa o e=>(o9.pin (b,o) (mem_append_right _ (mem_append_right _ (sf aa e)))).1,fun b aa=>?_,Yh,rfl⟩
     obtain⟨o,e,d⟩:=T.obj _ _ mw b aa
     exact (o9.pin (b,o) (mem_append_right _ (mem_append_right _ (sf aa e)))).2.1
    refine bV (bN _ _ _ _ j8 _ _ _ k4 (step v _ nO)) fun ok VK ⟨aaI,NR,KU⟩=>?_
    cases ok with
    | false=>exact again NR KU
    | true =>
     refine bV (he _ _ _ _ VK _ _ _ NR KU) fun y gR ⟨kQ,fy,gi,bL,eg,hlen,rG⟩=>?_
     refine bV (iY _ gR _ fy (.ref s.heap.objs.size) [kQ] (.ref s.heap.objs.size) [y] (fun _ kA=>kA=upd fy s.heap.objs.size (.lst (ys++[kQ]))) gi rfl (.cons bL .nil) ⟨_,ys,kQ,rfl,rfl,eg,hlen,rfl⟩) fun _ iP ⟨_,kA,o9,_,rY⟩=>?_
     subst rY
     exact again o9 rG
  ·obtain⟨o,e,_⟩:=T.obj 0 _ st b aa
   rw[ay (ne_of_lt (lt_size e))]
   exact (hf b aa).1
 have cC:({ s with heap:=gH,toks:=s.toks+([]:List (Str × Value)).length }:Shared)={ s3 with heap:=gH }:=by rw[←vz];rfl
 rw[cC]
 exact codeAny_compStart_list (loop _ rfl) (T.self _ 0 _ _ _ lz (loop _ rfl))
section
variable {X:br}{x y:Str}{jD py pos yD:Pos}{elt iter c:Expr}{scope:Scope}{cl:List (Str × Addr)}{d1:List Str}{fr:List Nat}{hh:TI}{bS:TE}{tt:TT}
def So (hh:TI) (fr:List Nat) (tt:TT) (bS:TE):TE:=fun σ H Q=>hh σ H fun J H1=>∀acc,H1 acc=none→B4 J tt bS (pick σ fr) Q H1 acc
def Sx (i:Nat) (hh:TI) (fr:List Nat) (tt:TT) (bS:TE):d8:=fun D σ H=>So hh fr tt bS σ H fun v H1=>D.c9 (σ.set i (some v)) H1
theorem QX {i:Nat}(fr:List Nat) (d1:List Str) (e8:X.N.Nodup) (j2:X.N[i]?=some y) (cA:X.env.kindOf y=some .local) (B:jU X x fr d1 scope cl) (ai:X.calm=true) (aW:r5 X (.Name x jD) iter hh)
  (bN:∀C aL af cj,hW (gP X d1 scope cl C aL af cj) c tt) (he:∀C aL af cj,b4 (gP X d1 scope cl C aL af cj) elt bS) (WB:swapsWith (.ListComp elt [⟨.Name x jD,iter,[c],0⟩] scope pos) (some (.Name y py)) yD.line X.env=pure true:=by rfl) (aS:∀x,foldedSetIterable iter X.env x=pure x:=by intro _;rfl) :
  jg X (.Assign [.Name y py] (.ListComp elt [⟨.Name x jD,iter,[c],0⟩] scope pos) yD) (Sx i hh fr tt bS):=by
 intro pins s σ H D I h
 rw[exec_Assign_Name_used _ _ _ _ WB]
 refine wpAny_bind (wpAny_standAt (wpAny_bind ?_))
 show wpAny _ X.A (do let _ ← comprehension (.ListComp elt [⟨.Name x jD,iter,[c],0⟩] scope pos) scope X.env _ (newList []) false (eval iter X.env) (some (assign (.Name y py) X.env))) _ _ s
 refine wpAny_bind (wpAny_mono (wpAny_comprehension_free (use:=some (assign (.Name y py) X.env)) (Q:=fun _ aL=>m6 X pins D .next aL) rfl aS B.u5 B.kind B.names (bV (aW pins s σ H _ I h) fun v s1 av=>bV av fun zq s2 aC=>?_))
  (fun _ aL bN=>wpAny_pure (wpAny_pure bN)) fun _ _ e=>e)
 obtain⟨it,cj,gr,J,aq,e,cF,T,jo,f2,aU⟩:=aC
 subst e
 refine PU (RR:=fun acc C=>compPost (model X.prog X.w) X.A X.dp (some (assign (.Name y py) X.env)) (fun _ aL=>m6 X pins D .next aL) acc C) B ai cF T jo f2 (fun C aL af=>bN C aL af cj) (fun C aL af=>he C aL af cj) aU ?_
 intro acc C af aL m fP q aN h0 av cB dw gs
 show wpAny _ X.A (assign (.Name y py) X.env (.ref acc)) _ _ _
 refine wpAny_assign_Name (Gl (v:=.ref acc) fP e8 j2 (.inl cA) rfl (fun vc Xw WG=>?_) (.inr cA))
 obtain⟨a,mS,bf⟩:=WG
 have Xd:C≠a:=by
  rcases bf with z | z
  ·rw[z];exact av
  ·exact Ne.symm (dw _ _ z)
 refine⟨m,aN.sameBut mS Xd,fun h' VJ=>⟨_,af,Xw.turned (t':=vc.toks) (fun b o aa e=>(VJ.2 b aa).trans e) h0 av cB dw gs,q⟩⟩
end
inductive dV where
 | put (d:Int) (p:Nat) (o n:Int)
 | fin (d:Int)
 deriving DecidableEq
def yl (log:List dV) (d:Int):Bool:=log.any fun ln=>match ln with
 | .fin e=>e == d
 | .put .. => false
def AU (full:List dV):List dV→Nat→Option Int
 | [],_=>none
 | .put d p o _::r,q=>if p=q∧yl full d=false then some o else AU full r q
 | .fin _::r,q=>AU full r q
def xZ:List dV→Nat→Option Int→Option Int
 | [],_,a=>a
 | .put _ p _ n::r,q,a=>xZ r q (if p=q then some n else a)
 | .fin _::r,q,a=>xZ r q a
structure Xu (log:List dV) (ss:List Int) (q:Nat) (t tE cy:Int):Prop where
 dB:t = -1∨(0≤t∧t≤2)
 cz:∀x,xZ log q none=some x→x=tE
 cY:xZ log q none=none→tE=cy
 fr:t = -1→tE=cy∧∀d o n,dV.put d q o n∈log→yl log d=true
 bz:0≤t→∃d,ss[t.toNat]?=some d∧AU log log q=some cy∧∀d' o n,dV.put d' q o n∈log→yl log d'=false→d'=d
structure Vx (m:Int) (log:List dV) (ss:List Int):Prop where
 len:ss.length=3
 lt:∀(s:Nat) (d:Int),ss[s]?=some d→d<m∧yl log d=false
 inj:∀(s aL:Nat) (d:Int),ss[s]?=some d→ss[aL]?=some d→s=aL
 rW:∀d,dV.fin d∈log→d<m
 pu:∀d p o n,dV.put d p o n∈log→d<m
structure aa4 (n:Nat) (m:Int) (log:List dV) (ds ic ss aA:List Int):Prop where
 num:Vx m log ss
 cu:∀q,q<n→∃t tE cy,aA[q]?=some t∧ds[q]?=some tE∧ic[q]?=some cy∧Xu log ss q t tE cy
def mq (H:aj):dV→V→Prop
 | .put d p o n,x=>∃a,x=.ref a∧H a=some (.tup [.str "put",.int d,.int (p:Nat),.int o,.int n])
 | .fin d,x=>∃a,x=.ref a∧H a=some (.tup [.str "end",.int d])
def dV.ok (c:Nat):dV→Prop
 | .put _ p _ _=>p<c
 | .fin _=>True
theorem mq.mono {H af:aj}(k:eX H af):∀{ln:dV}{x:V},mq H ln x→mq af ln x
 | .put d p o n,x,⟨a,e,h⟩=>⟨a,e,k _ _ h⟩
 | .fin d,x,⟨a,e,h⟩=>⟨a,e,k _ _ h⟩
abbrev i4 (H:aj) (log:List dV) (xs:List V):Prop:=h3 (mq H) log xs
theorem x1 {n j:Nat}(h:j<n):nC n (j:Int)=some j:=by
 rw[S6 (Int.natCast_nonneg _) (by omega)]
 rfl
theorem x3 (xs:List V) (k:Nat):ly xs (some (k:Int)) none=xs.drop k:=by
 unfold ly
 rw[iG.QI,iG.RO]
 rw[List.take_of_length_le (by rw[length_drop];exact le_refl _)]
 by_cases h:k≤xs.length
 ·rw[Nat.min_eq_left h]
 ·rw[Nat.min_eq_right (by omega),List.drop_length,List.drop_eq_nil_of_le (by omega)]
theorem Ry (ns:List Int) (k:Nat):ly (ns.map V.int) (some (k:Int)) none=(ns.drop k).map V.int:=by rw[x3,List.map_drop]
theorem ints_of:∀{ys:List V},(∀v∈ys,∃z:Int,v=.int z)→∃ns:List Int,ys=ns.map V.int
 | [],_=>⟨[],rfl⟩
 | y::r,h=>by
  obtain⟨z,rfl⟩:=h y mem_cons_self
  obtain⟨ns,rfl⟩:=ints_of (ys:=r) fun v bA=>h v (mem_cons_of_mem _ bA)
  exact⟨z::ns,rfl⟩
theorem Gr (H:aj) (ns:List Int):∃l,bE H l (ns.map V.int)∧e6 l≤ns.length:=by
 obtain⟨l,av,aC⟩:=HB (H:=H) (c:=1) (xs:=ns.map V.int) fun v bA=>by
  obtain⟨z,_,rfl⟩:=mem_map.mp bA
  exact⟨.int z,.ofInt,le_of_eq (sz z)⟩
 rw[length_map]at aC
 exact⟨l,av,by omega⟩
theorem n6 {n:Nat}(h:n≤2000):n<sizeLine:=lt_of_le_of_lt h (by decide)
theorem yt:¬(V.str "end"=V.str "put"):=by decide +kernel
structure qo (dO:aj) (n:Nat) (r:Addr) (H:aj) (i:Nat) (xs:List V) (log:List dV):Prop where
 cV:bY dO H
 aG:H r=some (.lst xs)
 dU:i4 H log xs
 ok:∀ln∈log,ln.ok n
 le:log.length≤i
structure aa0 (dO:aj) (n:Nat) (l jK bK dC bz:Addr) (H:aj) (i:Nat) (xs:List V) (log:List dV) (ds ic ss aA:List Int):Prop where
 g:qo dO n l H i xs log
 hd:H jK=some (.lst (ds.map V.int))
 a4:H bK=some (.lst (ic.map V.int))
 aS:H dC=some (.lst (ss.map V.int))
 bG:H bz=some (.lst (aA.map V.int))
 bk:ds.length=n
 oW:ic.length=n
 ns:ss.length=3
 kU:aA.length=n
structure Zr (dO:aj) (l jK bK dC bz:Addr):Prop where
 av:dO l=none
 aC:dO jK=none
 cB:dO bK=none
 dw:dO dC=none
 gs:dO bz=none
 ZO:l≠jK
 ZN:l≠bK
 ZM:l≠dC
 ZL:l≠bz
 ZK:jK≠bK
 ZJ:jK≠dC
 ZI:jK≠bz
 ZH:bK≠dC
 ZG:bK≠bz
 ZF:dC≠bz
section
variable {dO:aj}{n:Nat}{l jK bK dC bz:Addr}{H:aj}{i:Nat}{xs:List V}{log:List dV}{ds ic ss aA:List Int}
end
theorem HW {K:PySem.W.Frag}{t:Addr}{x y:V}{H:aj}{Q:ct}(bG:H t=some (.lst [x,y])) (av:Q x H) (aC:Q y H) (k:Bool):Cx K (.ref t) (.int (if k then 1 else 0)) H Q:=by
 cases k with
 | false=>exact⟨t,_,0,x,rfl,rfl,aV.of bG,rfl,av⟩
 | true=>exact⟨t,_,1,y,rfl,rfl,aV.of bG,rfl,aC⟩
def jR (q:Nat):dV→Bool
 | .put _ p _ _=>decide (p=q)
 | .fin _=>false
section
variable {X:br}{K:PySem.W.Frag}
theorem G1 (h:X.K=K):zQ X (Cx K):=by subst h;exact ee
end
theorem AG:∀{xs:List V}{us:List Value},us.length=xs.length→(∀(j:Nat) (u:Value),us[j]?=some u→∃x,xs[j]?=some x∧RelV x u)→Vals xs us
 | [],[],_,_=>.nil
 | [],_::_,h,_=>by simp at h
 | _::_,[],h,_=>by simp at h
 | x::xs,u::us,h,f=>by
  obtain⟨y,e,r⟩:=f 0 u rfl
  have dH:x=y:=Option.some.inj e
  subst dH
  refine .cons r (AG (by simpa using h) fun j lR bp=>?_)
  obtain⟨z,aQ,b7⟩:=f (j+1) lR (by simpa using bp)
  exact⟨z,by simpa using aQ,b7⟩
section
variable {X:br}
def Sz:List V→aj→ct→Prop:=fun xs H Q=>∃d kvs,xs=[.ref d]∧H d=some (.b2 kvs)∧∀l,H l=none→Q (.ref l) (upd H l (.lst (kvs.map fun z=>dZ z.1)))
theorem AN (du:X.A.handled=none):lq X (.type "list") Sz:=by
 intro pins s σ H xs us Q I bD h
 obtain⟨d,kvs,rfl,hd,q⟩:=h
 obtain⟨u,rfl,dW⟩:=bD.one
 cases dW
 obtain⟨z,DH,vs,rel,dd⟩:=sJ I.bC hd
 obtain⟨cL,YP⟩:=dd.dictAt
 have aG:kvs.length=vs.length:=rel.length
 refine PySem.W.kdl_call (PySem.W.kdl_dict DH) du YP (by rw[←aG];exact z) fun h' bz y1 gK a4 eZ eg=>?_
 have bA:Vals (kvs.map fun z=>dZ z.1) y1.toList:=by
  refine AG (by rw[length_map,Array.length_toList,eg.1,aG]) fun j u bp=>?_
  obtain⟨k,x,e,a4⟩:=eg.2 j u (by rw[←Array.getElem?_toList];exact bp)
  have cK:j<kvs.length:=by rw[aG];exact (List.getElem?_eq_some_iff.mp e).1
  have Ub:=rel.keys
  have aQ:(kvs.map (·.1))[j]?=some k:=by rw[Ub,getElem?_map,e];rfl
  rw[getElem?_map,getElem?_eq_getElem cK]at aQ
  have b9:kvs[j].1=k:=Option.some.inj aQ
  refine⟨dZ k,by rw[getElem?_map,getElem?_eq_getElem cK,←b9];rfl,?_⟩
  rcases m_ a4 with ⟨i,t,rfl,rfl⟩ | ⟨y,t,rfl,rfl⟩
  ·exact⟨t,rfl⟩
  ·exact⟨t,rfl⟩
 refine⟨.ref s.heap.objs.size,_,I.laid (t':=bz) (o:=.lst (kvs.map fun z=>dZ z.1)) a4 (le_refl _) ⟨by rw[length_map];exact z,y1.toList,gK,bA,by rw[Array.toArray_toList];exact eZ⟩,rfl,q _ I.fresh⟩
theorem F1:∀(ns:List Int) (j:Nat),j≤ns.length→preSum (fun i=>ns.getD i 0) j=(ns.take j).sum
 | _,0,_=>rfl
 | ns,j+1,h=>by
  have cK:j<ns.length:=by omega
  show preSum (fun i=>ns.getD i 0) j+ns.getD j 0=_
  rw[F1 ns j (by omega),take_add_one,getElem?_eq_getElem cK,List.sum_append,getD_eq_getElem?_getD,getElem?_eq_getElem cK]
  simp
def UQ (K:PySem.W.Frag):List V→aj→ct→Prop:=fun xs H Q=>∃(l:Addr) (ns:List Int),xs=[.ref l]∧aV K H l (ns.map V.int)∧Q (.int ns.sum) H
theorem RA (du:X.A.handled=none):lq X (.builtin "sum") (UQ X.K):=by
 intro pins s σ H xs us Q I bD h
 obtain⟨l,ns,rfl,aG,q⟩:=h
 obtain⟨u,rfl,dW⟩:=bD.one
 cases dW
 obtain⟨its,r,p,hz⟩:=I.list aG
 have lX:=r.length
 rw[length_map]at lX
 refine call_sum_walkAnyS ?_
 refine wpAny_pyIter_list p.isList ?_
 have jx:l≠s.heap.objs.size:=by
  obtain⟨o,aF,_⟩:=p.isList
  exact ne_of_lt (lt_size aF)
 refine⟨s.heap.objs.size,_,_,_,its.toArray.size,_,_,fun i=>ns.getD i 0,rfl,(Walks.list (A:=X.A.in1) du s.heap.objs.size l jx its.toArray).toS,⟨⟨_,get?_push_size _ rfl,rfl,rfl⟩,p.isList.push _⟩,fun b aa=>?_,fun i v bA=>?_,fun aL t' M=>?_⟩
 ·rw[size_push]
  rcases mem_cons.mp aa with z | z
  ·rw[z];exact Nat.lt_succ_self _
  ·rw[mem_singleton.mp z]
   obtain⟨o,aF,_⟩:=p.isList
   exact Nat.lt_succ_of_lt (lt_size aF)
 ·have pU:its[i]?=some v:=by simpa using bA
  have aW:i<ns.length:=by rw[lX];exact (List.getElem?_eq_some_iff.mp pU).1
  obtain⟨u,e,dW⟩:=r.get (xj (getElem?_eq_getElem aW))
  rw[pU]at e
  cases e
  obtain⟨t,hA⟩:=dW
  refine⟨t,?_⟩
  have YN:ns.getD i 0=ns[i]:=by rw[getD_eq_getElem?_getD,getElem?_eq_getElem aW];rfl
  show _=Value.int (ns.getD i 0) t
  rw[hA,YN]
 ·have e:preSum (fun i=>ns.getD i 0) its.toArray.size=ns.sum:=by
   rw[size_toArray,←lX,F1 ns ns.length (le_refl _),take_length]
  rw[e]
  have oX:∀b o,s.heap.get? b=some o→aL.heap.get? b=some o:=fun b o es=>M.heap b o (fun aa=>absurd (mem_singleton.mp aa) (ne_of_lt (lt_size es))) (get?_push_of_some _ es)
  obtain⟨h',g',d',t0,os'⟩:=aL
  obtain rfl:g'=s.gens:=M.gens
  obtain rfl:d'=s.drawn:=M.drawn
  obtain rfl:os'=s.os:=M.os
  exact⟨.int ns.sum,H,I.kept (t':=t0) oX,⟨t',rfl⟩,q⟩
end
theorem Qf:typeLookup (.type "list_reverseiterator") "__len__"=pure none:=by rw[typeLookup_type,builtinLookup_eq_fast];kernel_rfl
theorem Rl:typeLookup (.type "list_reverseiterator") "__length_hint__"=pure (some (.builtin "list_reverseiterator.__length_hint__")):=by rw[typeLookup_type,builtinLookup_eq_fast];kernel_rfl
theorem QL {prog:Program}{w:World}{A:Around}{E:Value→Shared→Prop}{s:Shared}{r:Addr}{Q:Bool→Shared→Prop}(ig:s.TypeIs (.ref r) "list_reverseiterator") (h:Q false s):wpAny (model prog w) A (Builtin.List.listLengthHint (.ref r)) Q E s:=by
 unfold Builtin.List.listLengthHint
 refine wpAny_bind (wpAny_specialOf ig Qf ?_)
 show wpAny _ A (specialOf (Value.ref r) (Str.ofString "__length_hint__") >>= _) _ _ _
 refine wpAny_bind (wpAny_specialOf ig Rl ?_)
 generalize Mr:("list_reverseiterator.__length_hint__":String)=Wn
 wp_delta
 rw[show splitId Wn=some ("list_reverseiterator","__length_hint__") from by subst Mr;decide +kernel]
 subst Mr
 refine wpAny_bind (wpAny_isInstance (T:="list_reverseiterator") (b:=true) ig (by rw[isSubtype_type];kernel_rfl) ?_)
 refine wpAny_ite_split (fun vH=>absurd vH (by decide)) (fun _=>?_)
 refine wpAny_ite_split (fun _=>?_) (fun vH=>absurd (by decide +kernel) vH)
 refine wpAny_ite_split (fun vH=>absurd vH (by decide +kernel)) (fun _=>?_)
 exact wpAny_pure h
theorem QK {prog:Program}{w:World}{A:Around}{E:Value→Shared→Prop}{s:Shared}{it l:Addr}{items:Array Value}{Q:Value→Shared→Prop}(du:A.handled=none) (hit:s.heap.IsRevIter it l ((items.size:Int) - 1)) (aG:s.heap.IsList l items) (jx:l≠it) (aN:items.size≤sizeLine)
  (l1:∀h' bz acc c,(∀b o,b≠it→s.heap.get? b=some o→h'.get? b=some o)→h'.get? s.heap.objs.size=some { cls:=.type "list",dict:=none,data:=.seq acc c,slots := #[] }→ItemsOf (fun i v=>items[items.size - 1 - i]?=some v) acc items.size→Q (.ref s.heap.objs.size) { s with heap:=h',toks:=bz }) :
  wpAny (model prog w) A (call (.type "list") [.ref it]) Q E s:=by
 refine callType_codes (Q₁:=fun bT c2=>bT=.ref s.heap.objs.size∧c2={ s with heap:=s.heap.push { cls:=.type "list",data:=.seq #[] } }) PySem.F.called_list (PySem.F.typeCall_list_1 _) PySem.F.entry_list_init (code_list_new _ ⟨rfl,rfl⟩) fun bT c2 rl=>?_
 obtain⟨rfl,rfl⟩:=rl
 have JH:it<s.heap.objs.size:=by obtain⟨o,aF,_⟩:=hit;exact lt_size aF
 have WV:l<s.heap.objs.size:=by obtain⟨o,aF,_⟩:=aG;exact lt_size aF
 have g1:(s.heap.push { cls:=.type "list",data:=.seq #[] }).get? s.heap.objs.size=some { cls:=.type "list",data:=.seq #[] }:=get?_push_size _ rfl
 refine⟨⟨_,g1,rfl⟩,PySem.F.args_list_init_2 _ _,?_⟩
 show wpAny _ _ (do let old ← Builtin.List.listItems (.ref s.heap.objs.size);Builtin.List.listUpdate (.ref s.heap.objs.size) (fun _ => #[]);letGo old.toList.reverse;Builtin.List.listExtendWith (.ref s.heap.objs.size) (.ref it) .none) _ _ _
 refine wpAny_bind ?_
 unfold Builtin.List.listItems
 refine wpAny_bind (wpAny_seqItems g1 rfl (wpAny_pure ?_))
 show wpAny _ _ (updateSeq s.heap.objs.size (fun _ => #[]) >>= fun _=>letGo (#[]:Array Value).toList.reverse >>= fun _=>Builtin.List.listExtendWith (.ref s.heap.objs.size) (.ref it) .none) _ _ _
 refine wpAny_bind (wpAny_updateSeq g1 rfl ?_)
 have g2:=get?_update_self (Obj.mapSeq (fun _=>(#[]:Array Value))) g1 rfl
 have yH:∀b o,s.heap.get? b=some o→((s.heap.push { cls:=.type "list",data:=.seq #[] }).update s.heap.objs.size (Obj.mapSeq (fun _=>(#[]:Array Value)))).get? b=some o :=
  fun b o e=>(get?_update_other _ _ (ne_of_gt (lt_size e))).trans (get?_push_of_some _ e)
 refine wpAny_bind (wpAny_letGo ?_)
 have Y3:=(Walks.listRev (prog:=prog) (w:=w) (A:=A.in1.in1) du it l jx items)
 have Xb:s.heap.objs.size∉[it,l]:=fun hm=>by
  rcases mem_cons.mp hm with z | z
  ·exact ne_of_gt JH z
  ·exact ne_of_gt WV (mem_singleton.mp z)
 have e0:(items.size:Int) - 1 - ((0:Nat):Int)=(items.size:Int) - 1:=by omega
 have key:∀(h:Heap) (c₁ bz:Nat),(∀b o,s.heap.get? b=some o→h.get? b=some o)→h.get? s.heap.objs.size=some { cls:=.type "list",data:=.seq #[] c₁ } →
   codeAny (model prog w) A.in1 (.builtin "list.extend.loop" ⟨[.ref s.heap.objs.size,.ref it,.none],[]⟩) (wants (fun r hK=>r=.none∧Q (.ref s.heap.objs.size) hK) E) { s with heap:=h,toks:=bz }:=by
  intro h c₁ bz a4 g
  refine codeAny_extend_loopS Y3.toS aN s.heap.objs.size Xb .none items.size 0 _ #[] c₁ rfl (zero_le _) ⟨zero_le _,by rw[e0];exact hit.at fun o e=>a4 it o e,aG.at fun o e=>a4 l o e⟩ g (ItemsOf.nil _) fun aL y1 gK hm g' eg=>?_
  rw[Moved.eq_with hm]
  refine⟨rfl,l1 aL.heap aL.toks y1 gK (fun b o aa e=>hm.heap b o (fun Vh=>?_) (a4 b o e)) g' eg⟩
  rcases mem_cons.mp Vh with z | z
  ·exact absurd (lt_size e) (by rw[z];exact lt_irrefl _)
  ·exact aa (mem_singleton.mp z)
 have ig:Shared.TypeIs { s with heap:=(s.heap.push { cls:=.type "list",data:=.seq #[] }).update s.heap.objs.size (Obj.mapSeq (fun _=>(#[]:Array Value))) } (.ref it) "list_reverseiterator":=(hit.at fun o e=>yH it o e).typeIs
 unfold Builtin.List.listExtendWith
 refine wpAny_bind (wpAny_typeOf ig ?_)
 have av:Builtin.List.listSameRef (.ref s.heap.objs.size) (.ref it)=false:=by simp[Builtin.List.listSameRef,ne_of_gt JH]
 rw[if_neg (by rw[av];decide)]
 refine wpAny_bind (wpAny_pyIter_revIter (hit.at fun o e=>yH it o e) ?_)
 refine wpAny_bind (wpAny_holding (QL ig ?_))
 refine wpAny_ite_split (fun _=>?_) (fun _=>wpAny_pure ⟨plainId_quiet PySem.F.plain_extend_loop _,key _ _ _ yH g2⟩)
 refine wpAny_bind (wpAny_rule ?_)
 refine wpAny_bind ?_
 show wpAny _ _ (updateSeq s.heap.objs.size (·.push .none) >>= fun _=>updateSeq s.heap.objs.size (·.pop)) _ _ _
 refine wpAny_bind (wpAny_updateSeq g2 rfl ?_)
 have g3:=get?_update_self (Obj.mapSeq (·.push Value.none)) g2 rfl
 refine wpAny_updateSeq (hz:=by seq_fits) g3 rfl ?_
 have jJ:=get?_update_self (Obj.mapSeq (·.pop)) g3 rfl
 refine wpAny_pure ⟨plainId_quiet PySem.F.plain_extend_loop _,key _ _ _ (fun b o e=>?_) jJ⟩
 exact (get?_update_other _ _ (ne_of_gt (lt_size e))).trans ((get?_update_other _ _ (ne_of_gt (lt_size e))).trans (yH b o e))
section
variable {X:br}
def QF (K:PySem.W.Frag) (bS:TE):TE:=fun σ H Q=>bS σ H fun x H1=>∃a xs,x=.ref a∧aV K H1 a xs∧∀l,H1 l=none→Q (.ref l) (upd H1 l (.lst xs.reverse))
theorem PD {e:Expr}{bS:TE}{cp cI j_ mW:Pos}(du:X.A.handled=none) (cJ:iX X "list") (hm:X.mg "list"=none) (W3:iX X "reversed") (WU:X.mg "reversed"=none) (he:b4 X e bS)
  (aS:starEach [.Call (.Name "reversed" cI) [e] [] j_] X.env=[(false,eval (.Call (.Name "reversed" cI) [e] [] j_) X.env)]:=by rfl) (jv:starEach [e] X.env=[(false,eval e X.env)]:=by rfl) :
  b4 X (.Call (.Name "list" cp) [.Call (.Name "reversed" cI) [e] [] j_] [] mW) (QF X.K bS):=by
 intro pins s σ H Q I h
 refine Call_ (pF I cJ hm boot_list (PyProof.Rows.callWith_type1 ?_ aS rfl))
 rw[aS]
 show wpAny _ _ (spliced [(false,eval (.Call (.Name "reversed" cI) [e] [] j_) X.env)]) _ _ s
 refine Calls.spliced_cons ?_
 refine Call_ (pF I W3 WU boot_reversed (PyProof.Rows.callWith_type1 ?_ jv rfl))
 rw[jv]
 show wpAny _ _ (spliced [(false,eval e X.env)]) _ _ s
 refine Calls.spliced_cons (bV (he pins s σ H _ I h) fun u s1 ⟨x,H1,aR,bx,a,xs,ex,aZ,q⟩=>?_)
 subst ex
 cases bx
 obtain⟨its,bD,pl,hz⟩:=aR.list aZ
 have lX:=bD.length
 refine Calls.spliced_nil (call_reversed_list pl.isList ?_)
 refine Calls.spliced_nil ?_
 have jx:a≠s1.heap.objs.size:=by
  obtain⟨o,aF,_⟩:=pl.isList
  exact ne_of_lt (lt_size aF)
 refine QK (items:=its.toArray) du ⟨_,get?_push_size _ rfl,rfl,rfl⟩ (pl.isList.push _) jx (by rw[size_toArray];omega) fun h' bz acc c a4 eZ eg=>?_
 have WZ:∀b o,s1.heap.get? b=some o→h'.get? b=some o:=fun b o es=>a4 b o (ne_of_lt (lt_size es)) (get?_push_of_some _ es)
 have bA:Vals xs.reverse acc.toList:=by
  refine AG (by rw[length_reverse,Array.length_toList,eg.1,size_toArray,lX]) fun j u bp=>?_
  have aJ:=eg.2 j u (by rw[←Array.getElem?_toList];exact bp)
  have cK:j<xs.length:=by
   have:=(List.getElem?_eq_some_iff.mp bp).1
   rw[Array.length_toList,eg.1,size_toArray]at this
   omega
  rw[size_toArray]at aJ
  have aQ:its[its.length - 1 - j]?=some u:=by simpa using aJ
  have zC:its.length - 1 - j<xs.length:=by omega
  obtain⟨gb,b9,kR⟩:=bD.get (getElem?_eq_getElem zC)
  rw[aQ]at b9
  cases b9
  refine⟨_,?_,kR⟩
  rw[getElem?_reverse cK]
  have cC:xs.length - 1 - j=its.length - 1 - j:=by omega
  rw[cC]
  exact getElem?_eq_getElem zC
 rw[size_push]at eZ
 have ed:(s1.heap.push (revObj a ((its.toArray.size:Int) - 1))).objs.size=s1.heap.objs.size+1:=size_push ..
 have lK:H1 (s1.heap.objs.size+1)=none:=aR.bC.fresh (le_succ _)
 show g8 X pins σ Q (.ref (s1.heap.push (revObj a ((its.toArray.size:Int) - 1))).objs.size) _
 rw[ed]
 refine⟨.ref (s1.heap.objs.size+1),upd H1 (s1.heap.objs.size+1) (.lst xs.reverse),?_,rfl,q _ lK⟩
 refine Inv.laid (s:=s1) (t':=bz) (a:=s1.heap.objs.size+1) (o:=.lst xs.reverse) aR WZ (le_succ _) ⟨by rw[length_reverse];exact hz,acc.toList,c,bA,by rw[Array.toArray_toList];exact eZ⟩
end
def vS (K:PySem.W.Frag) (a:Addr) (n:Nat):kx :=
 ⟨fun i H=>i<n∧∃xs x,aV K H a xs∧xs[n - 1 - i]?=some x,fun i H x af=>af=H∧∀xs,aV K H a xs→xs[n - 1 - i]?=some x,fun i _=>i=n⟩
theorem QD {P:Program}{w:World}{K:PySem.W.Frag}{fF:Expr}(a it:Addr) (n:Nat):Turn P w K fF (vS K a n) [it] it (fun i h=>h.IsRevIter it a ((n:Int) - 1 - (i:Int))) where
 mem:=by simp
 obj:=fun i h st b aa=>by
  have e:b=it:=by simpa using aa
  subst e
  obtain⟨o,e,c,d⟩:=st
  exact⟨o,e,fun v z=>by rw[d]at z;cases z⟩
 keep:=fun i h h' st k=>st.at fun o e=>k it (by simp) o e
 item:=by
  intro X gd hw iR ai i pins s σ H E I hf st cJ
  subst gd hw iR
  obtain⟨aN,xs,x,bN,aZ⟩:=cJ
  obtain⟨its,bD,p,hz⟩:=I.list bN
  obtain⟨u,bp,dW⟩:=bD.get aZ
  obtain⟨f0,f1,f2,fL,f4,gv⟩:=hf it (by simp)
  have rX:(n:Int) - 1 - (i:Int)=((n - 1 - i:Nat):Int):=by omega
  have mz:s.heap.IsRevIter it a ((n - 1 - i:Nat):Int):=by rw[←rX];exact st
  refine wpAny_pyNext_rev_item mz p.isList (x:=u) (by simpa using bp) fun h' iu mS=>?_
  have aR:Inv X pins σ H { s with heap:=h' }:=I.turned (t':=s.toks) (fun b o aa e=>(mS.2 b aa).trans e) f0 f1 fL f4 gv
  have o3:((n - 1 - i:Nat):Int) - 1=(n:Int) - 1 - ((i+1:Nat):Int):=by omega
  rw[o3]at iu
  obtain⟨o,e,c,d⟩:=id iu
  exact⟨u,rfl,Co (s:={ s with heap:=h' }) e c d (by decide) ⟨x,H,aR,dW,⟨rfl,fun ys cA=>by rw[I.A4 cA bN];exact aZ⟩,iu,fun b aa=>(hf b aa).1⟩⟩
 done:=by
  intro X gd hw iR ai i pins s σ H E I hf st cJ
  subst gd hw iR
  have cJ:i=n:=cJ
  subst cJ
  obtain⟨f0,f1,f2,fL,f4,gv⟩:=hf it (by simp)
  have rX:(i:Int) - 1 - (i:Int) = -1:=by omega
  rw[rX]at st
  exact wpAny_pyNext_rev_end (I.ok.hd ai) st fun h' es=>⟨rfl,I.turned (t':=s.toks) (fun b o aa e=>es b o aa e) f0 f1 fL f4 gv⟩
 self:=fun _ _ _ _ _ st h=>wpAny_pyIter_revIter st h
section
variable {X:br}{fF:Expr}
def U9 (K:PySem.W.Frag) (bS:TE):TI:=fun σ H R=>bS σ H fun x H1=>∃a xs,x=.ref a∧aV K H1 a xs∧R (vS K a xs.length) H1
theorem SH {l:Expr}{i_:TE}{p pos:Pos}(cJ:iX X "reversed") (hm:X.mg "reversed"=none) (aG:b4 X l i_) (aS:starEach [l] X.env=[(false,eval l X.env)]:=by rfl):r5 X fF (.Call (.Name "reversed" p) [l] [] pos) (U9 X.K i_):=by
 intro pins s σ H R I h
 refine Call_ (pF I cJ hm boot_reversed (PyProof.Rows.callWith_type1 ?_ aS rfl))
 rw[aS]
 show wpAny _ _ (spliced [(false,eval l X.env)]) _ _ s
 refine Calls.spliced_cons (bV (aG pins s σ H _ I h) fun u s1 ⟨x,H1,aR,bx,a,xs,ex,aZ,q⟩=>?_)
 subst ex
 cases bx
 obtain⟨its,bD,pl,hz⟩:=aR.list aZ
 have lX:=bD.length
 refine Calls.spliced_nil (call_reversed_list pl.isList ?_)
 have st:(s1.heap.push (revObj a ((its.toArray.size:Int) - 1))).IsRevIter s1.heap.objs.size a ((xs.length:Int) - 1 - ((0:Nat):Int)):=by
  have e:((its.toArray.size:Nat):Int) - 1=(xs.length:Int) - 1 - ((0:Nat):Int):=by rw[size_toArray];omega
  rw[←e]
  exact⟨_,get?_push_size _ rfl,rfl,rfl⟩
 refine wpAny_pyIter_revIter (s:={ s1 with heap:=s1.heap.push (revObj a ((its.toArray.size:Int) - 1)) }) st ?_
 refine⟨s1.heap.objs.size,[s1.heap.objs.size],_,_,H1,rfl,aR.kept (t':=s1.toks) fun b o e=>get?_push_of_some _ e,QD a _ xs.length,st,fun b aa=>?_,q⟩
 have e:b=s1.heap.objs.size:=by simpa using aa
 subst e
 exact aR.sQ (le_refl _) (aR.bC.fresh (le_refl _))
end
structure Zs (X:br) (m:Nat) (fr:List Nat) (d1:List Str) (scope:Scope) (cl:List (Str × Addr)):Prop where
 u5:closureFor scope X.env=pure cl
 cell:∀y∈scope.names,y.2≠.cell
 kind:scope.kind=.function
 names:∀y∈scope.names,y.2=.local→scope.names.lookup y.1=some .local
 sub:∀y c,cl.lookup y=some c→X.env.cells.lookup y=some c
 has:∀y,((relabel scope X.env).names.lookup y=some .cell∨(relabel scope X.env).names.lookup y=some .free)→∃c,cl.lookup y=some c
 len:d1.length=m+fr.length
 bk:d1.Nodup
 va:∀(i j:Nat) (y:Str),d1[i+m]?=some y→fr[i]?=some j→X.N[j]?=some y∧X.env.scope.names.lookup y=some .cell∧(relabel scope X.env).names.lookup y=some .cell
section
variable {X:br}{y:Str}{py pos yD:Pos}{fF:Expr}{g:jO}{m:Nat}{elt iter c:Expr}{scope:Scope}{cl:List (Str × Addr)}{d1:List Str}{fr:List Nat}{hh:TI}{bS:TE}{tt:TT}
end
def dV.D:dV→D
 | .put d p o n=>.tup [.str "put",.int d,.int (p:Nat),.int o,.int n]
 | .fin d=>.tup [.str "end",.int d]
inductive dN where
 | line (ln:dV)
 | f6 (p:Nat) (n:Int)
 | cut (k:Nat)
def dN.D:dN→D
 | .line ln=>.tup [.str "line",ln.D]
 | .f6 p n=>.tup [.str "page",.int (p:Nat),.int n]
 | .cut k=>.tup [.str "cut",.int (k:Nat)]
inductive cZ where
 | begin
 | put (d p n:Int)
 | fin (d:Int)
 | drop (d:Int)
 | look (p:Int)
 | carry (p:Int)
 | cut
def cZ.D:cZ→D
 | .begin=>.tup [.str "begin"]
 | .put d p n=>.tup [.str "put",.int d,.int p,.int n]
 | .fin d=>.tup [.str "end",.int d]
 | .drop d=>.tup [.str "drop",.int d]
 | .look p=>.tup [.str "look",.int p]
 | .carry p=>.tup [.str "carry",.int p]
 | .cut=>.tup [.str "cut"]
inductive dn where
 | num (i:Int)
 | word (x:Str)
def dn.D:dn→D
 | .num i=>.int i
 | .word x=>.str x
def dn.v:dn→V
 | .num i=>.int i
 | .word x=>.str x
mutual
def D.flat:D→Bool
 | .int _=>true
 | .str _=>true
 | .tup l=>qP l
 | .lst _=>false
def qP:List D→Bool
 | []=>true
 | d::r=>d.flat && qP r
end
mutual
theorem Rep.keep {H af:aj}(k:eX H af):∀(d:D) (v:V),d.flat=true→Rep H d v→Rep af d v
 | .int _,_,_,h=>h
 | .str _,_,_,h=>h
 | .tup l,_,f,h=>by
  unfold Rep at h ⊢
  obtain⟨a,xs,e,q,r⟩:=h
  unfold D.flat at f
  exact⟨a,xs,e,k _ _ q,bE.keep k l xs f r⟩
 | .lst l,_,f,_=>by unfold D.flat at f;cases f
theorem bE.keep {H af:aj}(k:eX H af):∀(l:List D) (xs:List V),qP l=true→bE H l xs→bE af l xs
 | [],_,_,h=>h
 | d::r,_,f,h=>by
  unfold bE at h ⊢
  unfold qP at f
  rw[and_eq_true]at f
  obtain⟨x,t,e,q,z⟩:=h
  exact⟨x,t,e,Rep.keep k d x f.1 q,bE.keep k r t f.2 z⟩
end
theorem eH {α:Type}{f:α→D}(h:∀a,(f a).flat=true):∀l:List α,qP (l.map f)=true
 | []=>by unfold qP;rfl
 | a::r=>by
  rw[map_cons]
  unfold qP
  rw[h a,eH h r]
  rfl
theorem dN.fR (s:dN):s.D.flat=true:=by
 cases s with
 | line ln=>cases ln <;> rfl
 | f6 p n=>rfl
 | cut k=>rfl
theorem cZ.fR (d:cZ):d.D.flat=true:=by cases d <;> rfl
theorem dn.rep {H:aj}(a:dn):Rep H a.D a.v:=by
 cases a with
 | num i=>exact .ofInt
 | word x=>exact .ofStr
theorem px {H:aj}{a:D}{v:V}(h:Rep H (.tup [a]) v):∃c x,v=.ref c∧H c=some (.tup [x])∧Rep H a x:=by
 obtain⟨c,xs,rfl,ai,r⟩:=h.qF
 obtain⟨x,t,rfl,av,r⟩:=r.inv
 cases r.nu
 exact⟨c,x,rfl,ai,av⟩
theorem gk {H:aj}{a b:D}{v:V}(h:Rep H (.tup [a,b]) v):∃c x y,v=.ref c∧H c=some (.tup [x,y])∧Rep H a x∧Rep H b y:=by
 obtain⟨c,xs,rfl,ai,r⟩:=h.qF
 obtain⟨x,t,rfl,av,r⟩:=r.inv
 obtain⟨y,t,rfl,aC,r⟩:=r.inv
 cases r.nu
 exact⟨c,x,y,rfl,ai,av,aC⟩
theorem GR {H:aj}{a b d:D}{v:V}(h:Rep H (.tup [a,b,d]) v):∃c x y z,v=.ref c∧H c=some (.tup [x,y,z])∧Rep H a x∧Rep H b y∧Rep H d z:=by
 obtain⟨c,xs,rfl,ai,r⟩:=h.qF
 obtain⟨x,t,rfl,av,r⟩:=r.inv
 obtain⟨y,t,rfl,aC,r⟩:=r.inv
 obtain⟨z,t,rfl,cB,r⟩:=r.inv
 cases r.nu
 exact⟨c,x,y,z,rfl,ai,av,aC,cB⟩
theorem xD {H:aj}{a b d e:D}{v:V}(h:Rep H (.tup [a,b,d,e]) v):∃c x y z u,v=.ref c∧H c=some (.tup [x,y,z,u])∧Rep H a x∧Rep H b y∧Rep H d z∧Rep H e u:=by
 obtain⟨c,xs,rfl,ai,r⟩:=h.qF
 obtain⟨x,t,rfl,av,r⟩:=r.inv
 obtain⟨y,t,rfl,aC,r⟩:=r.inv
 obtain⟨z,t,rfl,cB,r⟩:=r.inv
 obtain⟨u,t,rfl,dw,r⟩:=r.inv
 cases r.nu
 exact⟨c,x,y,z,u,rfl,ai,av,aC,cB,dw⟩
theorem QM {H:aj}{a b d e f:D}{v:V}(h:Rep H (.tup [a,b,d,e,f]) v):∃c x y z u w,v=.ref c∧H c=some (.tup [x,y,z,u,w])∧Rep H a x∧Rep H b y∧Rep H d z∧Rep H e u∧Rep H f w:=by
 obtain⟨c,xs,rfl,ai,r⟩:=h.qF
 obtain⟨x,t,rfl,av,r⟩:=r.inv
 obtain⟨y,t,rfl,aC,r⟩:=r.inv
 obtain⟨z,t,rfl,cB,r⟩:=r.inv
 obtain⟨u,t,rfl,dw,r⟩:=r.inv
 obtain⟨w,t,rfl,gs,r⟩:=r.inv
 cases r.nu
 exact⟨c,x,y,z,u,w,rfl,ai,av,aC,cB,dw,gs⟩
theorem mq.Iz {H:aj}{ln:dV}{x:V}(h:Rep H ln.D x):mq H ln x:=by
 cases ln with
 | put d p o n =>
  obtain⟨c,rF,th,N_,Yg,aaQ,rfl,ai,av,aC,cB,dw,gs⟩:=QM h
  cases av.str_inv
  cases aC.int_inv
  cases cB.int_inv
  cases dw.int_inv
  cases gs.int_inv
  exact⟨c,rfl,ai⟩
 | fin d =>
  obtain⟨c,rF,th,rfl,ai,av,aC⟩:=gk h
  cases av.str_inv
  cases aC.int_inv
  exact⟨c,rfl,ai⟩
structure aE where
 d7:List Int
 aO:List Int
 log:List dV
 bQ:List (Int × List (Nat × Int))
 room:Int
 begun:Nat
 gA:List dN
namespace aE
def isOpen (h:aE) (d:Int):Bool:=h.bQ.any fun z=>z.1 == d
def bound (h:aE):Int:=(h.bQ.map fun z=>(z.2.length:Int)+1).sum
def ef (h:aE) (d:Int):List (Nat × Int):=((h.bQ.find? fun z=>z.1 == d).map (·.2)).getD []
def eK (h:aE) (p:Nat):Option Int:=(h.bQ.find? fun z=>z.2.any fun y=>y.1 == p).map (·.1)
def da (h:aE) (s:dN):aE:=match s with
 | .line ln=>{ h with gA:=h.gA++[s],log:=h.log++[ln] }
 | .f6 p n=>{ h with gA:=h.gA++[s],d7:=h.d7.set p n }
 | .cut k=>{ h with gA:=h.gA++[s],log:=h.log.drop k }
end aE
def g_ (ce ao:List Int) (op:Int→Bool):List dV→Nat
 | []=>0
 | .fin _::r=>g_ ce ao op r+1
 | .put d p _ _::r=>if op d=true∨(r.any (jR p)=false∧ce[p]?≠ao[p]?) then 0 else g_ ce ao op r+1
namespace aE
def f5 (h:aE):aE:=if 0<g_ h.d7 h.aO h.isOpen h.log then h.da (.cut (g_ h.d7 h.aO h.isOpen h.log)) else h
def gB (h:aE) (p:Nat):aE:=if h.d7[p]?=h.aO[p]? then h else h.da (.f6 p (h.aO.getD p 0))
def i1 (h:aE) (more:Int):Bool:=decide ((h.log.length:Int)+h.bound+more≤h.room)
def hC (h:aE):aE:=((List.range h.aO.length).foldl gB h).f5
def full (h:aE) (more:Int):aE × Bool:=if h.i1 more=true then (h,false) else (h.hC, !h.hC.i1 more)
def putIn (h:aE) (d:Int) (p:Nat) (n:Int):aE:={ h.da (.line (.put d p (h.aO.getD p 0) n)) with aO:=h.aO.set p n }
def hD (h:aE) (d:Int):aE:=(h.ef d).reverse.foldl (fun h z=>h.putIn d z.1 z.2) h
def pI (h:aE) (d:Int):aE:={ h.da (.line (.fin d)) with bQ:=h.bQ.filter fun z=>z.1 != d }
def eo (h:aE) (d:Int) (p:Nat):aE:={ h with bQ:=h.bQ.map fun z=>if z.1=d then (z.1,z.2++[(p,h.aO.getD p 0)]) else z }
def began (h:aE):aE:={ h with begun:=h.begun+1 }
def opened (h:aE):aE:={ h with bQ:=h.bQ++[(((h.begun:Int) - 1),[])] }
def refusal (h:aE):cZ→Option Str
 | .begin=>none
 | .put d p _=>if h.isOpen d=false then some "no dealing" else if p<0∨(h.aO.length:Int)≤p then some "no page" else if h.eK p.toNat=none∨h.eK p.toNat=some d then none else some "taken"
 | .fin d=>if h.isOpen d=false then some "no dealing" else none
 | .drop d=>if h.isOpen d=false then some "no dealing" else none
 | .look p=>if p<0∨(h.aO.length:Int)≤p then some "no page" else none
 | .carry p=>if p<0∨(h.aO.length:Int)≤p then some "no page" else none
 | .cut=>none
def i7 (h:aE):cZ→aE × dn
 | .begin=>if (h.began.full 1).2=true then ((h.began.full 1).1,.word "no room") else ((h.began.full 1).1.opened,.num h.begun)
 | .put d p n=>if (h.full 2).2=true then ((h.full 2).1,.word "no room") else ((((h.full 2).1.eo d p.toNat).putIn d p.toNat n),.word "done")
 | .fin d=>(h.pI d,.word "done")
 | .drop d=>((h.hD d).pI d,.word "done")
 | .look p=>(h,.num (h.aO.getD p.toNat 0))
 | .carry p=>(h.gB p.toNat,.word "done")
 | .cut=>(h.f5,.word "done")
def bX (h:aE) (x:cZ):aE × dn:=match h.refusal x with
 | some w=>(h,.word w)
 | none=>h.i7 x
end aE
open PySem
theorem QN {H:aj}{a:Addr}{p:Nat}{n:Int}(h:H a=some (.tup [.str "page",.int (p:Nat),.int n])):Rep H (dN.f6 p n).D (.ref a) :=
 Rep.f3 h (.cons .ofStr (.cons .ofInt (.cons .ofInt .nil)))
theorem RQ {H:aj}{a:Addr}{k:Nat}(h:H a=some (.tup [.str "cut",.int (k:Nat)])):Rep H (dN.cut k).D (.ref a) :=
 Rep.f3 h (.cons .ofStr (.cons .ofInt .nil))
inductive hS where
 | line (v:V)
 | f6 (p:Nat) (n:Int)
 | cut (k:Int)
def CU (H:aj):hS→V→Prop
 | .line v,x=>∃a,x=.ref a∧H a=some (.tup [.str "line",v])
 | .f6 p n,x=>∃a,x=.ref a∧H a=some (.tup [.str "page",.int (p:Nat),.int n])
 | .cut k,x=>∃a,x=.ref a∧H a=some (.tup [.str "cut",.int k])
def hS.ok (c:Nat):hS→Prop
 | .f6 p _=>p<c
 | _=>True
def hS.cu (aB:List V):hS→List V
 | .f6 p n=>aB.set p (.int n)
 | _=>aB
def hS.dU (ls:List V):hS→List V
 | .line v=>ls++[v]
 | .cut k=>ly ls (some k) none
 | _=>ls
inductive D8 (H:aj):List hS→List V→Prop where
 | nil:D8 H [] []
 | snoc {KN:List hS} {xs:List V} {fG:hS} {x:V} (h:D8 H KN xs) (q:CU H fG x):D8 H (KN++[fG]) (xs++[x])
theorem Ul:¬(V.str "cut"=V.str "page"):=by decide +kernel
theorem BW:¬(("pages":Str)="log"):=by decide +kernel
def kF (cu dU:Addr):List (Str × V):=dM "log" (.ref dU) (dM "pages" (.ref cu) [])
theorem A8 (cu dU:Addr):kF cu dU=([("pages",V.ref cu),("log",V.ref dU)]:List (Str × V)):=by
 show (if ("pages":Str)="log" then [(("pages":Str),V.ref dU)] else (("pages":Str),V.ref cu)::dM "log" (V.ref dU) [])=_
 rw[if_neg BW]
 rfl
theorem AJ (cu dU:Addr):(kF cu dU).lookup ("pages":Str)=some (.ref cu):=by
 unfold kF
 rw[qy,if_neg BW,qy,if_pos rfl]
theorem xB (cu dU:Addr):(kF cu dU).lookup ("log":Str)=some (.ref dU):=by
 unfold kF
 rw[qy,if_pos rfl]
theorem Rz (cu dU:Addr) {m:Str}(av:¬m="log") (aC:¬m="pages"):(kF cu dU).lookup m=none:=by
 unfold kF
 rw[qy,if_neg av,qy,if_neg aC]
 rfl
theorem Qz (cu dU lH:Addr):dM "log" (.ref lH) (kF cu dU)=kF cu lH:=by
 rw[A8,A8]
 show (if ("pages":Str)="log" then _ else (("pages":Str),V.ref cu)::(if ("log":Str)="log" then [(("log":Str),V.ref lH)] else _))=_
 rw[if_neg BW,if_pos rfl]
structure yo (C:Addr) (H:aj) (c cu dU:Addr) (aB ls:List V):Prop where
 bT:∃dx,H c=some (.ins C dx (kF cu dU))
 aD:H cu=some (.lst aB)
 aG:H dU=some (.lst ls)
 ne:cu≠dU
structure pv (K:PySem.W.Frag) (mg:Str→Option Value) (C:Addr):Prop where
 cl:j7 K C
 z8:iI K C "pages"
 tl:iI K C "log"
 vn:mg "Cellar"=some (.ref C)
def Bb (C:Addr):dg:=fun vs H Q _=>∃(c dx a b:Addr) (aB ls:List V),vs=[.ref c,.ref a,.ref b]∧H c=some (.ins C dx [])∧H a=some (.lst aB)∧H b=some (.lst ls) ∧
 ∀(cu dU:Addr) (af:aj),H cu=none→H dU=none→yo C af c cu dU aB ls→(∀b o,H b=some o→b≠c→af b=some o)→Q .cc af
def a4 (ce ao lo pu st:Addr) (room begun:Int):List (Key × V):=[(Sum.inr "cellar",.ref ce),(Sum.inr "desk",.ref ao),(Sum.inr "log",.ref lo),(Sum.inr "puts",.ref pu),(Sum.inr "room",.int room),(Sum.inr "begun",.int begun),(Sum.inr "strokes",.ref st)]
section
variable (ce ao lo pu st lo' iu:Addr) (room begun Ie:Int)
theorem Qn:dk (a4 ce ao lo pu st room begun) (Sum.inr "cellar")=some (.ref ce):=by kernel_rfl
theorem Sa:dk (a4 ce ao lo pu st room begun) (Sum.inr "desk")=some (.ref ao):=by kernel_rfl
theorem Tc:dk (a4 ce ao lo pu st room begun) (Sum.inr "log")=some (.ref lo):=by kernel_rfl
theorem R_:dk (a4 ce ao lo pu st room begun) (Sum.inr "puts")=some (.ref pu):=by kernel_rfl
theorem R9:dk (a4 ce ao lo pu st room begun) (Sum.inr "room")=some (.int room):=by kernel_rfl
theorem Rq:dk (a4 ce ao lo pu st room begun) (Sum.inr "begun")=some (.int begun):=by kernel_rfl
theorem PN:dk (a4 ce ao lo pu st room begun) (Sum.inr "strokes")=some (.ref st):=by kernel_rfl
theorem Gx:putK (a4 ce ao lo pu st room begun) (Sum.inr "log") (.ref lo')=a4 ce ao lo' pu st room begun:=by kernel_rfl
theorem F5:putK (a4 ce ao lo pu st room begun) (Sum.inr "begun") (.int Ie)=a4 ce ao lo pu st room Ie:=by kernel_rfl
end
def pairD (z:Nat × Int):D:=.tup [.int (z.1:Nat),.int z.2]
theorem iH (z:Nat × Int):(pairD z).flat=true:=rfl
def eN (pl:List (Int × Addr)):List (Key × V):=pl.map fun z=>(Sum.inl z.1,V.ref z.2)
def own (h ce ao pu st:Addr) (pl:List (Int × Addr)):List Addr:=h::ce::ao::pu::st::pl.map (·.2)
structure bh (H:aj) (h ce ao lo pu st:Addr) (pl:List (Int × Addr)) (x:aE):Prop where
 du:H h=some (.b2 (a4 ce ao lo pu st x.room x.begun))
 ai:H ce=some (.lst (x.d7.map V.int))
 hd:H ao=some (.lst (x.aO.map V.int))
 aG:∃xs,H lo=some (.lst xs)∧i4 H x.log xs
 aD:H pu=some (.b2 (eN pl))
 gF:pl.map (·.1)=x.bQ.map (·.1)
 ah:∀(i:Nat) z w,pl[i]?=some z→x.bQ[i]?=some w→∃ys,H z.2=some (.lst ys)∧bE H (w.2.map pairD) ys
 bR:(x.bQ.map (·.1)).Nodup
 fG:∃zs,H st=some (.lst zs)∧bE H (x.gA.map dN.D) zs
 ap:(own h ce ao pu st pl).Nodup
 nl:lo∉own h ce ao pu st pl
 cd:x.d7.length=x.aO.length
def h6 (fN:List Addr) (H af:aj):Prop:=∀b o,b∉fN→H b=some o→af b=some o
theorem h6.refl (fN:List Addr) (H:aj):h6 fN H H:=fun _ _ _ h=>h
theorem h6.trans {fN:List Addr}{H H1 aq:aj}(a:h6 fN H H1) (b:h6 fN H1 aq):h6 fN H aq:=fun c o ai h=>b c o ai (a c o ai h)
theorem bY.dh {fN:List Addr}{H af:aj}(s:bY H af):h6 fN H af:=fun b o _ h=>s b o h
theorem nf {fN:List Addr}{H:aj}{a:Addr}{o:eU}(h:a∈fN):h6 fN H (upd H a o):=fun b u aa q=>by
 rw[ay (fun e=>aa (by rw[e];exact h))]
 exact q
section
variable {H af:aj}{h ce ao lo pu st:Addr}{pl:List (Int × Addr)}{x:aE}
theorem bh.same (A:bh H h ce ao lo pu st pl x) (s:bY H af):bh af h ce ao lo pu st pl x:=by
 obtain⟨xs,aJ,aQ⟩:=A.aG
 obtain⟨zs,b9,cC⟩:=A.fG
 refine⟨s _ _ A.du,s _ _ A.ai,s _ _ A.hd,⟨xs,s _ _ aJ,aQ.mono fun a y q=>q.mono s.gC⟩,s _ _ A.aD,A.gF,fun i z w a b=>?_,A.bR,⟨zs,s _ _ b9,bE.mono s _ _ cC⟩,A.ap,A.nl,A.cd⟩
 obtain⟨ys,bw,aU⟩:=A.ah i z w a b
 exact⟨ys,s _ _ bw,bE.mono s _ _ aU⟩
theorem bh.ne (A:bh H h ce ao lo pu st pl x):h≠ce∧h≠ao∧h≠pu∧h≠st∧ce≠ao∧ce≠pu∧ce≠st∧ao≠pu∧ao≠st∧pu≠st∧lo≠h∧lo≠ce∧lo≠ao∧lo≠pu∧lo≠st∧(∀z∈pl,z.2≠h∧z.2≠ce∧z.2≠ao∧z.2≠pu∧z.2≠st∧z.2≠lo):=by
 have ap:=A.ap
 have nl:=A.nl
 unfold own at ap nl
 simp only[nodup_cons,mem_cons,not_or]at ap nl
 obtain⟨⟨a1,a2,ks,OR,OQ⟩,⟨fk,o6,YX,YW⟩,⟨e9,gg,o4⟩,⟨OO,ON⟩,ed,_⟩:=ap
 obtain⟨cz,cY,nT,jH,lY,Ac⟩:=nl
 refine⟨a1,a2,ks,OR,fk,o6,YX,e9,gg,OO,cz,cY,nT,jH,lY,fun z hz=>?_⟩
 have hm:z.2∈pl.map (·.2):=mem_map.mpr ⟨z,hz,rfl⟩
 exact⟨fun e=>OQ (e ▸ hm),fun e=>YW (e ▸ hm),fun e=>o4 (e ▸ hm),fun e=>ON (e ▸ hm),fun e=>ed (e ▸ hm),fun e=>Ac (e ▸ hm)⟩
theorem bh.setC (A:bh H h ce ao lo pu st pl x) {c:List Int}(ai:c.length=x.aO.length):bh (upd H ce (.lst (c.map V.int))) h ce ao lo pu st pl { x with d7:=c }:=by
 obtain⟨dF,c_,eb,eS,fj,fi,gU,jc,jF,lG,fq,d_,el,gG,h_,np⟩:=A.ne
 have kt:eX H (upd H ce (.lst (c.map V.int))):=t5 A.ai
 obtain⟨xs,aJ,aQ⟩:=A.aG
 obtain⟨zs,b9,cC⟩:=A.fG
 refine⟨by rw[ay dF];exact A.du,aT,by rw[ay fj.symm];exact A.hd,⟨xs,by rw[ay d_];exact aJ,aQ.mono fun a y q=>q.mono kt⟩,by rw[ay fi.symm];exact A.aD,A.gF,fun i z w a b=>?_,A.bR,⟨zs,by rw[ay gU.symm];exact b9,bE.keep kt _ _ (eH dN.fR _) cC⟩,A.ap,A.nl,ai⟩
 obtain⟨ys,bw,aU⟩:=A.ah i z w a b
 exact⟨ys,by rw[ay (np z (mem_of_getElem? a)).2.1];exact bw,bE.keep kt _ _ (eH iH _) aU⟩
theorem bh.yF (A:bh H h ce ao lo pu st pl x) {c:List Int}(ai:c.length=x.aO.length):bh (upd H ao (.lst (c.map V.int))) h ce ao lo pu st pl { x with aO:=c }:=by
 obtain⟨dF,c_,eb,eS,fj,fi,gU,jc,jF,lG,fq,d_,el,gG,h_,np⟩:=A.ne
 have kt:eX H (upd H ao (.lst (c.map V.int))):=t5 A.hd
 obtain⟨xs,aJ,aQ⟩:=A.aG
 obtain⟨zs,b9,cC⟩:=A.fG
 refine⟨by rw[ay c_];exact A.du,by rw[ay fj];exact A.ai,aT,⟨xs,by rw[ay el];exact aJ,aQ.mono fun a y q=>q.mono kt⟩,by rw[ay jc.symm];exact A.aD,A.gF,fun i z w a b=>?_,A.bR,⟨zs,by rw[ay jF.symm];exact b9,bE.keep kt _ _ (eH dN.fR _) cC⟩,A.ap,A.nl,by rw[A.cd,ai]⟩
 obtain⟨ys,bw,aU⟩:=A.ah i z w a b
 exact⟨ys,by rw[ay (np z (mem_of_getElem? a)).2.2.1];exact bw,bE.keep kt _ _ (eH iH _) aU⟩
theorem bh.Jh (A:bh H h ce ao lo pu st pl x) {s:dN}{v:V}{zs:List V}(b9:H st=some (.lst zs)) (cC:bE H (x.gA.map dN.D) zs) (bA:Rep H s.D v):bh (upd H st (.lst (zs++[v]))) h ce ao lo pu st pl { x with gA:=x.gA++[s] }:=by
 obtain⟨dF,c_,eb,eS,fj,fi,gU,jc,jF,lG,fq,d_,el,gG,h_,np⟩:=A.ne
 have kt:eX H (upd H st (.lst (zs++[v]))):=t5 b9
 obtain⟨xs,aJ,aQ⟩:=A.aG
 refine⟨by rw[ay eS];exact A.du,by rw[ay gU];exact A.ai,by rw[ay jF];exact A.hd,⟨xs,by rw[ay h_];exact aJ,aQ.mono fun a y q=>q.mono kt⟩,by rw[ay lG];exact A.aD,A.gF,fun i z w a b=>?_,A.bR,⟨zs++[v],aT,?_⟩,A.ap,A.nl,A.cd⟩
 ·obtain⟨ys,bw,aU⟩:=A.ah i z w a b
  exact⟨ys,by rw[ay (np z (mem_of_getElem? a)).2.2.2.2.1];exact bw,bE.keep kt _ _ (eH iH _) aU⟩
 ·show bE _ ((x.gA++[s]).map dN.D) _
  rw[map_append]
  exact (bE.keep kt _ _ (eH dN.fR _) cC).append (.cons (Rep.keep kt _ _ (dN.fR s) bA) .nil)
theorem bh.Cr (A:bh H h ce ao lo pu st pl x) {lo':Addr}{log:List dV}{xs:List V}(aJ:H lo'=some (.lst xs)) (aQ:i4 H log xs) (aN:lo'∉own h ce ao pu st pl):bh (upd H h (.b2 (putK (a4 ce ao lo pu st x.room x.begun) (Sum.inr "log") (.ref lo')))) h ce ao lo' pu st pl { x with log:=log }:=by
 obtain⟨dF,c_,eb,eS,fj,fi,gU,jc,jF,lG,fq,d_,el,gG,h_,np⟩:=A.ne
 rw[Gx]
 have kt:eX H (upd H h (.b2 (a4 ce ao lo' pu st x.room x.begun))):=fun b ys q=>by
  rw[ay (dv q A.du (fun z=>nomatch z))]
  exact q
 obtain⟨zs,b9,cC⟩:=A.fG
 have KY:lo'≠h:=fun e=>aN (by rw[e];exact mem_cons_self)
 refine⟨aT,by rw[ay dF.symm];exact A.ai,by rw[ay c_.symm];exact A.hd,⟨xs,by rw[ay KY];exact aJ,aQ.mono fun a y q=>q.mono kt⟩,by rw[ay eb.symm];exact A.aD,A.gF,fun i z w a b=>?_,A.bR,⟨zs,by rw[ay eS.symm];exact b9,bE.keep kt _ _ (eH dN.fR _) cC⟩,A.ap,aN,A.cd⟩
 obtain⟨ys,bw,aU⟩:=A.ah i z w a b
 exact⟨ys,by rw[ay (np z (mem_of_getElem? a)).1];exact bw,bE.keep kt _ _ (eH iH _) aU⟩
theorem bh.setB (A:bh H h ce ao lo pu st pl x) {n:Nat}{b:Int}(aa:b=(n:Int)):bh (upd H h (.b2 (putK (a4 ce ao lo pu st x.room x.begun) (Sum.inr "begun") (.int b)))) h ce ao lo pu st pl { x with begun:=n }:=by
 subst aa
 obtain⟨dF,c_,eb,eS,fj,fi,gU,jc,jF,lG,fq,d_,el,gG,h_,np⟩:=A.ne
 rw[F5]
 have kt:eX H (upd H h (.b2 (a4 ce ao lo pu st x.room (n:Int)))):=fun b ys q=>by
  rw[ay (dv q A.du (fun z=>nomatch z))]
  exact q
 obtain⟨xs,aJ,aQ⟩:=A.aG
 obtain⟨zs,b9,cC⟩:=A.fG
 refine⟨aT,by rw[ay dF.symm];exact A.ai,by rw[ay c_.symm];exact A.hd,⟨xs,by rw[ay fq];exact aJ,aQ.mono fun a y q=>q.mono kt⟩,by rw[ay eb.symm];exact A.aD,A.gF,fun i z w a b=>?_,A.bR,⟨zs,by rw[ay eS.symm];exact b9,bE.keep kt _ _ (eH dN.fR _) cC⟩,A.ap,A.nl,A.cd⟩
 obtain⟨ys,bw,aU⟩:=A.ah i z w a b
 exact⟨ys,by rw[ay (np z (mem_of_getElem? a)).1];exact bw,bE.keep kt _ _ (eH iH _) aU⟩
end
def dN.okIn (x:aE):dN→Prop
 | .line ln=>ln.ok x.aO.length
 | .f6 p _=>p<x.aO.length
 | .cut _=>True
def aE.fits (x:aE) (k:Nat):Prop:=x.gA.length+k≤100000∧x.log.length+k≤100000∧∀ln∈x.log,ln.ok x.aO.length
theorem jS {n:Nat}(h:n≤200000):n<sizeLine:=by
 rw[sizeLine_eq]
 omega
theorem eX.H6 {H:aj}{a:Addr}{o:eU}{kvs:List (Key × V)}(h:H a=some (.b2 kvs)):eX H (upd H a o):=fun b ys q=>by
 rw[ay (dv q h (fun z=>nomatch z))]
 exact q
section
variable {H af:aj}{h ce ao lo pu st:Addr}{pl:List (Int × Addr)}{x:aE}
theorem bh.Bs (A:bh H h ce ao lo pu st pl x):fb H h (.str "cellar") (some (.ref ce)):=.inl ⟨_,Sum.inr "cellar",.inl A.du,rfl,(Qn ..).symm⟩
theorem bh.kE (A:bh H h ce ao lo pu st pl x):fb H h (.str "desk") (some (.ref ao)):=.inl ⟨_,Sum.inr "desk",.inl A.du,rfl,(Sa ..).symm⟩
theorem bh.u4 (A:bh H h ce ao lo pu st pl x):fb H h (.str "log") (some (.ref lo)):=.inl ⟨_,Sum.inr "log",.inl A.du,rfl,(Tc ..).symm⟩
theorem bh.jT (A:bh H h ce ao lo pu st pl x):fb H h (.str "puts") (some (.ref pu)):=.inl ⟨_,Sum.inr "puts",.inl A.du,rfl,(R_ ..).symm⟩
theorem bh.IQ (A:bh H h ce ao lo pu st pl x):fb H h (.str "room") (some (.int x.room)):=.inl ⟨_,Sum.inr "room",.inl A.du,rfl,(R9 ..).symm⟩
theorem bh.B1 (A:bh H h ce ao lo pu st pl x):fb H h (.str "begun") (some (.int x.begun)):=.inl ⟨_,Sum.inr "begun",.inl A.du,rfl,(Rq ..).symm⟩
theorem bh.Ru (A:bh H h ce ao lo pu st pl x):fb H h (.str "strokes") (some (.ref st)):=.inl ⟨_,Sum.inr "strokes",.inl A.du,rfl,(PN ..).symm⟩
theorem bh.Jt (A:bh H h ce ao lo pu st pl x) (v:V):om H h (.str "log") v (upd H h (.b2 (putK (a4 ce ao lo pu st x.room x.begun) (Sum.inr "log") v))):=.inl ⟨_,Sum.inr "log",A.du,rfl,(by show 7<sizeLine;rw[sizeLine_eq];decide),rfl⟩
theorem bh.SO (A:bh H h ce ao lo pu st pl x) (v:V):om H h (.str "begun") v (upd H h (.b2 (putK (a4 ce ao lo pu st x.room x.begun) (Sum.inr "begun") v))):=.inl ⟨_,Sum.inr "begun",A.du,rfl,(by show 7<sizeLine;rw[sizeLine_eq];decide),rfl⟩
theorem bh.p_ (h ce ao pu st:Addr) (pl:List (Int × Addr)):h∈own h ce ao pu st pl:=mem_cons_self
theorem bh.qa (h ce ao pu st:Addr) (pl:List (Int × Addr)):ce∈own h ce ao pu st pl:=mem_cons_of_mem _ mem_cons_self
theorem bh.tr (h ce ao pu st:Addr) (pl:List (Int × Addr)):ao∈own h ce ao pu st pl:=mem_cons_of_mem _ (mem_cons_of_mem _ mem_cons_self)
theorem bh.mp (h ce ao pu st:Addr) (pl:List (Int × Addr)):pu∈own h ce ao pu st pl:=mem_cons_of_mem _ (mem_cons_of_mem _ (mem_cons_of_mem _ mem_cons_self))
theorem bh.ms (h ce ao pu st:Addr) (pl:List (Int × Addr)):st∈own h ce ao pu st pl:=mem_cons_of_mem _ (mem_cons_of_mem _ (mem_cons_of_mem _ (mem_cons_of_mem _ mem_cons_self)))
theorem bh.tp {pl:List (Int × Addr)}{z:Int × Addr}(hz:z∈pl) (h ce ao pu st:Addr):z.2∈own h ce ao pu st pl:=mem_cons_of_mem _ (mem_cons_of_mem _ (mem_cons_of_mem _ (mem_cons_of_mem _ (mem_cons_of_mem _ (mem_map.mpr ⟨z,hz,rfl⟩)))))
theorem bh.there (A:bh H h ce ao lo pu st pl x) {b:Addr}(aa:H b=none):b∉own h ce ao pu st pl:=by
 intro hm
 unfold own at hm
 simp only[mem_cons,mem_map]at hm
 obtain⟨zs,b9,_⟩:=A.fG
 rcases hm with e | e | e | e | e | ⟨z,hz,e⟩
 ·rw[e,A.du]at aa;cases aa
 ·rw[e,A.ai]at aa;cases aa
 ·rw[e,A.hd]at aa;cases aa
 ·rw[e,A.aD]at aa;cases aa
 ·rw[e,b9]at aa;cases aa
 ·obtain⟨i,aW⟩:=List.getElem?_of_mem hz
  have aG:i<x.bQ.length:=by
   have:=congrArg List.length A.gF
   rw[length_map,length_map]at this
   rw[←this]
   exact (List.getElem?_eq_some_iff.mp aW).1
  obtain⟨ys,q,_⟩:=A.ah i z _ aW (getElem?_eq_getElem aG)
  rw[e,aa]at q
  cases q
theorem sq:∀(pl:List (Int × Addr)) (d:Int),dk (eN pl) (Sum.inl d)=(pl.find? fun z=>z.1 == d).map fun z=>V.ref z.2
 | [],d=>rfl
 | z::r,d=>by
  show dk ((Sum.inl z.1,V.ref z.2)::eN r) (Sum.inl d)=_
  by_cases e:z.1=d
  ·rw[k7 (by rw[e]),find?_cons_of_pos (by rw[e];exact beq_self_eq_true d)]
   rfl
  ·rw[k8 (fun y=>e (Sum.inl.inj y)),find?_cons_of_neg (by simpa using e)]
   exact sq r d
theorem G5 {α β γ:Type} [BEq α]:∀{l:List (α × β)}{m:List (α × γ)}(d:α),l.map (·.1)=m.map (·.1)→(l.find? fun z=>z.1 == d).isSome=(m.find? fun z=>z.1 == d).isSome
 | [],[],_,_=>rfl
 | [],_::_,_,h=>by cases h
 | _::_,[],_,h=>by cases h
 | a::l,b::m,d,h=>by
  rw[map_cons,map_cons]at h
  injection h with av aC
  rw[find?_cons,find?_cons,av]
  cases b.1 == d with
  | true=>rfl
  | false=>exact G5 d aC
theorem bh.isOpen (A:bh H h ce ao lo pu st pl x) (d:Int):(dk (eN pl) (Sum.inl d)).isSome=x.isOpen d:=by
 rw[sq,Option.isSome_map,G5 d A.gF]
 unfold aE.isOpen
 induction x.bQ with
 | nil=>rfl
 | cons z r dt =>
  rw[find?_cons,any_cons]
  cases z.1 == d with
  | true=>rfl
  | false=>exact dt
theorem bh.yw (A:bh H h ce ao lo pu st pl x) (d:Int):fb H pu (.int d) (dk (eN pl) (Sum.inl d)):=.inl ⟨_,Sum.inl d,.inl A.aD,rfl,rfl⟩
theorem bh.atC (A:bh H h ce ao lo pu st pl x) {p:Nat}(aD:p<x.aO.length):∃c,x.d7[p]?=some c∧nK (x.d7.map V.int) (p:Int)=some (.int c):=by
 obtain⟨z,a,b⟩:=ji (ns:=x.d7) (k:=(p:Int)) (by omega) (by rw[A.cd];omega)
 exact⟨z,by simpa using a,b⟩
theorem bh.p5 (A:bh H h ce ao lo pu st pl x) {p:Nat}(aD:p<x.aO.length):∃c,x.aO[p]?=some c∧nK (x.aO.map V.int) (p:Int)=some (.int c):=by
 obtain⟨z,a,b⟩:=ji (ns:=x.aO) (k:=(p:Int)) (by omega) (by omega)
 exact⟨z,by simpa using a,b⟩
end
theorem G7 {K:PySem.W.Frag}{a:Addr}{xs:List V}{bS:TE}{bq:St}{Q:ct}{H:aj}{acc:Addr}(W:Nat→List V→aj→Prop) (hz:xs.length≤1000) (start:W 0 [] (upd H acc (.lst []))) (iJ:∀i ys aq,W i ys aq→aq a=some (.lst xs)∧ys.length=i)
  (step:∀(i:Nat) x ys aq (k:ct),i<xs.length→xs[i]?=some x→W i ys aq→(∀kQ fy,fy acc=some (.lst ys)→W (i+1) (ys++[kQ]) (upd fy acc (.lst (ys++[kQ])))→k kQ fy)→bS (some x::bq) aq k)
  (fin:∀ys aq,W xs.length ys aq→Q (.ref acc) aq):qS (oN K a) bS bq Q H acc:=by
 refine⟨xs.length,fun i ys aq=>i≤xs.length∧W i ys aq,⟨zero_le _,start⟩,?_⟩
 rintro i ys aq ⟨aW,EZ⟩
 obtain⟨mJ,ia⟩:=iJ i ys aq EZ
 by_cases de:i<xs.length
 ·have aZ:xs[i]?=some xs[i]:=getElem?_eq_getElem de
  refine .inr ⟨⟨xs,xs[i],aV.of mJ,aZ⟩,de,?_⟩
  rintro v a3 ⟨rfl,bA⟩
  have ev:v=xs[i]:=by
   have:=bA _ (aV.of mJ)
   rw[aZ]at this
   exact (Option.some.inj this).symm
  subst ev
  exact step i _ ys _ _ de aZ EZ fun kQ fy E0 rG=>⟨E0,lt_of_le_of_lt (by omega:ys.length≤1000) (by decide),de,rG⟩
 ·have e:i=xs.length:=by omega
  subst e
  exact .inl ⟨⟨xs,aV.of mJ,le_refl _⟩,fin ys aq EZ⟩
theorem Qx {K:PySem.W.Frag}{a:Addr}{xs zs:List V}{bS:TE}{bq:St}{Q:ct}{H:aj}{acc:Addr}(bf:H a=some (.lst xs)) (h0:H acc=none) (hz:xs.length≤1000) (aG:zs.length=xs.length)
  (he:∀(i:Nat) x z a3 (k:ct),xs[i]?=some x→zs[i]?=some z→bY H a3→k z a3→bS (some x::bq) a3 k)
  (q:Q (.ref acc) (upd H acc (.lst zs))):qS (oN K a) bS bq Q H acc:=by
 have zh:a≠acc:=cG bf h0
 refine G7 (fun i ys aq=>ys.length=i∧ys=zs.take i∧aq=upd H acc (.lst ys)) hz ⟨rfl,rfl,rfl⟩ (fun i ys aq ⟨e0,e,aQ⟩=>?_) (fun i x ys aq k aW aZ ⟨e0,aJ,aQ⟩ a4=>?_) (fun ys aq ⟨e0,aJ,aQ⟩=>?_)
 ·subst aQ
  exact⟨by rw[ay zh];exact bf,e0⟩
 ·have vE:i<zs.length:=by omega
  obtain⟨z,Mf⟩:∃z,zs[i]?=some z:=⟨_,getElem?_eq_getElem vE⟩
  subst aQ
  refine he i x z _ _ aZ Mf (b3 h0 _) (a4 _ _ aT ⟨by rw[length_append,e0];rfl,?_,by rw[qE]⟩)
  rw[take_add_one,Mf,←aJ]
  rfl
 ·rw[←aG,take_length]at aJ
  subst aJ aQ
  exact q
section
variable {X:br}{K:PySem.W.Frag}
theorem O_ (h:X.K=K):lq X (.builtin "len") (fun xs H Q=>∃p ys,xs=[.ref p]∧(aV K H p ys∨aP K H p ys)∧Q (.int ys.length) H):=by subst h;exact hX
end
section
variable {x:aE}{s:dN}{k:Nat}
theorem aE.fits.mono {j:Nat}(h:x.fits k) (cK:j≤k):x.fits j:=⟨by have:=h.1;omega,by have:=h.2.1;omega,h.2.2⟩
theorem qv:(x.da s).aO=x.aO:=by cases s <;> rfl
theorem n2:(x.da s).bQ=x.bQ:=by cases s <;> rfl
theorem F0:(x.da s).room=x.room:=by cases s <;> rfl
theorem qt:(x.da s).begun=x.begun:=by cases s <;> rfl
theorem FF:(x.da s).gA=x.gA++[s]:=by cases s <;> rfl
theorem aE.fits.da (h:x.fits (k+1)) (ok:s.okIn x):(x.da s).fits k:=by
 obtain⟨av,aC,cB⟩:=h
 refine⟨?_,?_,?_⟩
 ·rw[FF,length_append,length_singleton]
  omega
 ·cases s with
  | line ln =>
   show (x.log++[ln]).length+k≤_
   rw[length_append,length_singleton]
   omega
  | f6 p n =>
   show x.log.length+k≤_
   omega
  | cut j =>
   show (x.log.drop j).length+k≤_
   rw[length_drop]
   omega
 ·rw[qv]
  intro l aG
  cases s with
  | line ln =>
   have DC:l∈x.log++[ln]:=aG
   rcases mem_append.mp DC with z | z
   ·exact cB l z
   ·rw[mem_singleton.mp z];exact ok
  | f6 p n=>exact cB l aG
  | cut j=>exact cB l (List.mem_of_mem_drop aG)
theorem AF {p:Nat}:(x.gB p).aO=x.aO:=by
 unfold aE.gB
 split
 ·rfl
 ·exact qv
theorem FU {p:Nat}:(x.gB p).bQ=x.bQ:=by
 unfold aE.gB
 split
 ·rfl
 ·exact n2
theorem aE.fits.carry {p:Nat}(h:x.fits (k+1)) (aD:p<x.aO.length):(x.gB p).fits k:=by
 unfold aE.gB
 split
 ·exact h.mono (by omega)
 ·exact h.da aD
theorem AM:x.f5.aO=x.aO:=by
 unfold aE.f5
 split
 ·exact qv
 ·rfl
theorem Gh:x.f5.bQ=x.bQ:=by
 unfold aE.f5
 split
 ·exact n2
 ·rfl
theorem aE.fits.f5 (h:x.fits (k+1)):x.f5.fits k:=by
 unfold aE.f5
 split
 ·exact h.da True.intro
 ·exact h.mono (by omega)
def aE.gY (x:aE) (i:Nat):aE:=(List.range i).foldl aE.gB x
theorem qu {i:Nat}:x.gY (i+1)=(x.gY i).gB i:=by
 unfold aE.gY
 rw[List.range_succ,List.foldl_append]
 rfl
theorem tY:∀{i:Nat},(x.gY i).aO=x.aO
 | 0=>rfl
 | i+1=>by rw[qu,AF];exact tY
theorem FW:∀{i:Nat},(x.gY i).bQ=x.bQ
 | 0=>rfl
 | i+1=>by rw[qu,FU];exact FW
theorem aE.fits.gY:∀{i k:Nat},x.fits (i+k)→i≤x.aO.length→(x.gY i).fits k
 | 0,k,h,_=>by rw[zero_add]at h;exact h
 | i+1,k,h,aW=>by
  rw[qu]
  exact (aE.fits.gY (k:=k+1) (by rw[←Nat.add_assoc,Nat.add_right_comm];exact h) (by omega)).carry (by rw[tY];omega)
theorem qx:x.hC=(x.gY x.aO.length).f5:=rfl
theorem O9:x.hC.aO=x.aO:=by rw[qx,AM,tY]
theorem FJ:x.hC.bQ=x.bQ:=by rw[qx,Gh,FW]
end
theorem pk {β:Type}:∀{l:List (Int × β)},(l.map (·.1)).Nodup→∀{i:Nat}{z:Int × β},l[i]?=some z→l.find? (fun y=>y.1 == z.1)=some z
 | [],_,i,z,h=>by simp at h
 | a::l,aN,i,z,h=>by
  rw[map_cons,nodup_cons]at aN
  cases i with
  | zero =>
   have e:a=z:=Option.some.inj h
   subst e
   rw[find?_cons,beq_self_eq_true]
  | succ i =>
   have aC:l[i]?=some z:=by simpa using h
   have ne:¬a.1=z.1:=fun e=>aN.1 (mem_map.mpr ⟨z,mem_of_getElem? aC,e.symm⟩)
   rw[find?_cons_of_neg (by simpa using ne)]
   exact pk aN.2 aC
theorem Gg {α:Type}{f:α→Bool}:∀{l:List α}{i:Nat}{z:α},l[i]?=some z→(l.take i).find? f=none→f z=true→l.find? f=some z
 | [],i,z,h,_,_=>by simp at h
 | a::l,0,z,h,_,hf=>by
  have e:a=z:=Option.some.inj h
  subst e
  rw[find?_cons_of_pos hf]
 | a::l,i+1,z,h,aN,hf=>by
  rw[List.take_succ_cons,find?_cons]at aN
  cases bf:f a with
  | true=>rw[bf]at aN;cases aN
  | false =>
   rw[bf]at aN
   rw[find?_cons_of_neg (by rw[bf];decide)]
   exact Gg (by simpa using h) aN hf
theorem Qq {α:Type}{f:α→Bool}{l:List α}{i:Nat}{z:α}(h:l[i]?=some z) (aN:(l.take i).find? f=none) (hf:f z=false):(l.take (i+1)).find? f=none:=by
 rw[take_add_one,h,List.find?_append,aN]
 show ([z].find? f)=none
 rw[find?_cons_of_neg (by rw[hf];decide)]
 rfl
theorem sm {α:Type}{f:α→D}{H:aj}:∀{l:List α}{ys:List V},bE H (l.map f) ys→∀{j:Nat}{v:V},ys[j]?=some v→∃z,l[j]?=some z∧Rep H (f z) v
 | [],ys,r,j,v,h=>by
  rw[map_nil]at r
  cases r.nu
  simp at h
 | a::l,ys,r,j,v,h=>by
  rw[map_cons]at r
  obtain⟨x,t,rfl,bx,b7⟩:=r.inv
  cases j with
  | zero =>
   have e:x=v:=Option.some.inj h
   subst e
   exact⟨a,rfl,bx⟩
  | succ j =>
   obtain⟨z,dT,d6⟩:=sm b7 (j:=j) (v:=v) (by simpa using h)
   exact⟨z,by simpa using dT,d6⟩
section
variable {H af:aj}{h ce ao lo pu st:Addr}{pl:List (Int × Addr)}{x:aE}
theorem bh.q3 (A:bh H h ce ao lo pu st pl x):pl.length=x.bQ.length:=by
 have:=congrArg List.length A.gF
 rw[length_map,length_map]at this
 exact this
theorem bh.at_ (A:bh H h ce ao lo pu st pl x) {i:Nat}{z:Int × Addr}(hz:pl[i]?=some z):∃w ys,x.bQ[i]?=some w∧w.1=z.1∧H z.2=some (.lst ys)∧bE H (w.2.map pairD) ys∧fb H pu (.int z.1) (some (.ref z.2)):=by
 have aW:i<x.bQ.length:=by rw[←A.q3];exact (List.getElem?_eq_some_iff.mp hz).1
 have hw:x.bQ[i]?=some x.bQ[i]:=getElem?_eq_getElem aW
 obtain⟨ys,bw,aU⟩:=A.ah i z _ hz hw
 have aJ:(pl.map (·.1))[i]?=some z.1:=by rw[getElem?_map,hz];rfl
 have aQ:(x.bQ.map (·.1))[i]?=some (x.bQ[i]).1:=by rw[getElem?_map,hw];rfl
 rw[A.gF,aQ]at aJ
 refine⟨_,ys,hw,Option.some.inj aJ,bw,aU,?_⟩
 have g:=A.yw z.1
 rw[sq,pk (by rw[A.gF];exact A.bR) hz]at g
 exact g
theorem Bm (pl:List (Int × Addr)):((eN pl).map fun z=>dZ z.1)=(pl.map (·.1)).map V.int:=by
 unfold eN
 rw[map_map,map_map]
 rfl
end
theorem RV (pl:List (Int × Addr)) (d:Int):lp (eN pl) (Sum.inl d)=eN (pl.filter fun z=>z.1 != d):=by
 unfold lp eN
 induction pl with
 | nil=>rfl
 | cons z r dt =>
  rw[map_cons,filter_cons,filter_cons,dt]
  by_cases e:z.1=d
  ·rw[e]
   simp
  ·have aJ:(z.1 != d)=true:=bne_iff_ne.mpr e
   have aQ:decide ((Sum.inl z.1:Key)≠Sum.inl d)=true:=decide_eq_true fun y=>e (Sum.inl.inj y)
   rw[if_pos aJ]
   show (if decide ((Sum.inl z.1:Key)≠Sum.inl d)=true then _ else _)=_
   rw[if_pos aQ]
   rfl
theorem FT {R:Int × Addr→Int × List (Nat × Int)→Prop}(f:Int→Bool):∀{l:List (Int × Addr)}{m:List (Int × List (Nat × Int))},l.map (·.1)=m.map (·.1)→(∀(i:Nat) z w,l[i]?=some z→m[i]?=some w→R z w) →
  ((l.filter fun z=>f z.1).map (·.1)=(m.filter fun z=>f z.1).map (·.1))∧∀(i:Nat) z w,(l.filter fun z=>f z.1)[i]?=some z→(m.filter fun z=>f z.1)[i]?=some w→R z w
 | [],[],_,_=>⟨rfl,fun i z w h=>by simp at h⟩
 | [],_::_,h,_=>by cases h
 | _::_,[],h,_=>by cases h
 | a::l,b::m,h,aI=>by
  rw[map_cons,map_cons]at h
  injection h with av aC
  obtain⟨hx,kj⟩:=FT (R:=R) f aC fun i z w p q=>aI (i+1) z w (by simpa using p) (by simpa using q)
  rw[filter_cons,filter_cons,av]
  cases hf:f b.1 with
  | false =>
   rw[if_neg Bool.false_ne_true,if_neg Bool.false_ne_true]
   exact⟨hx,kj⟩
  | true =>
   rw[if_pos rfl,if_pos rfl]
   refine⟨by rw[map_cons,map_cons,av,hx],fun i z w p q=>?_⟩
   cases i with
   | zero=>exact aI 0 z w (by simpa using p) (by simpa using q)
   | succ i=>exact kj i z w (by simpa using p) (by simpa using q)
theorem n5 {h ce ao pu st b:Addr}{pl:List (Int × Addr)}:b∈own h ce ao pu st pl↔b=h∨b=ce∨b=ao∨b=pu∨b=st∨∃z∈pl,z.2=b:=by
 unfold own
 simp only[mem_cons,mem_map]
section
variable {H af:aj}{h ce ao lo pu st:Addr}{pl:List (Int × Addr)}{x:aE}
theorem bh.ended (A:bh H h ce ao lo pu st pl x) (d:Int):bh (upd H pu (.b2 (lp (eN pl) (Sum.inl d)))) h ce ao lo pu st (pl.filter fun z=>z.1 != d) { x with bQ:=x.bQ.filter fun z=>z.1 != d }:=by
 obtain⟨dF,c_,eb,eS,fj,fi,gU,jc,jF,lG,fq,d_,el,gG,h_,np⟩:=A.ne
 have kt:eX H (upd H pu (.b2 (lp (eN pl) (Sum.inl d)))):=eX.H6 A.aD
 obtain⟨xs,aJ,aQ⟩:=A.aG
 obtain⟨zs,b9,cC⟩:=A.fG
 obtain⟨hx,kj⟩:=FT (R:=fun z w=>z∈pl∧∃ys,H z.2=some (.lst ys)∧bE H (w.2.map pairD) ys) (fun y=>y != d) A.gF fun i z w p q=>⟨mem_of_getElem? p,A.ah i z w p q⟩
 have sub:(own h ce ao pu st (pl.filter fun z=>z.1 != d)).Sublist (own h ce ao pu st pl):=by
  unfold own
  exact ((((List.filter_sublist.map _).cons_cons _).cons_cons _).cons_cons _).cons_cons _ |>.cons_cons _
 refine⟨by rw[ay eb];exact A.du,by rw[ay fi];exact A.ai,by rw[ay jc];exact A.hd,⟨xs,by rw[ay gG];exact aJ,aQ.mono fun a y q=>q.mono kt⟩,by rw[aT,RV],hx,fun i z w a b=>?_,(List.filter_sublist.map _).nodup A.bR,⟨zs,by rw[ay lG.symm];exact b9,bE.keep kt _ _ (eH dN.fR _) cC⟩,sub.nodup A.ap,fun m=>A.nl (sub.mem m),A.cd⟩
 obtain⟨hz,ys,bw,aU⟩:=kj i z w a b
 exact⟨ys,by rw[ay (np z hz).2.2.2.1];exact bw,bE.keep kt _ _ (eH iH _) aU⟩
theorem bh.opened (A:bh H h ce ao lo pu st pl x) {d:Int}{a:Addr}(bf:H a=some (.lst [])) (aN:a∉own h ce ao pu st pl) (aG:a≠lo) (hd:x.isOpen d=false) :
  bh (upd H pu (.b2 (putK (eN pl) (Sum.inl d) (.ref a)))) h ce ao lo pu st (pl++[(d,a)]) { x with bQ:=x.bQ++[(d,[])] }:=by
 obtain⟨dF,c_,eb,eS,fj,fi,gU,jc,jF,lG,fq,d_,el,gG,h_,np⟩:=A.ne
 have kt:eX H (upd H pu (.b2 (putK (eN pl) (Sum.inl d) (.ref a)))):=eX.H6 A.aD
 obtain⟨xs,aJ,aQ⟩:=A.aG
 obtain⟨zs,b9,cC⟩:=A.fG
 have wg:dk (eN pl) (Sum.inl d)=none:=by
  have:=A.isOpen d
  rw[hd]at this
  exact Option.isNone_iff_eq_none.mp (by rw[←Option.not_isSome,this];rfl)
 have cL:putK (eN pl) (Sum.inl d) (.ref a)=eN (pl++[(d,a)]):=by
  rw[QV _ wg]
  unfold eN
  rw[map_append]
  rfl
 have bk:¬d∈x.bQ.map (·.1):=by
  intro m
  obtain⟨z,hz,e⟩:=mem_map.mp m
  have:x.isOpen d=true:=any_eq_true.mpr ⟨z,hz,by rw[e];exact beq_self_eq_true d⟩
  rw[hd]at this
  cases this
 have tv:=A.q3
 have iF:own h ce ao pu st (pl++[(d,a)])=own h ce ao pu st pl++[a]:=by
  unfold own
  rw[map_append]
  rfl
 refine⟨by rw[ay eb];exact A.du,by rw[ay fi];exact A.ai,by rw[ay jc];exact A.hd,⟨xs,by rw[ay gG];exact aJ,aQ.mono fun a y q=>q.mono kt⟩,by rw[aT,cL],by rw[map_append,map_append,A.gF];rfl,fun i z w p q=>?_,?_,⟨zs,by rw[ay lG.symm];exact b9,bE.keep kt _ _ (eH dN.fR _) cC⟩,?_,?_,A.cd⟩
 ·by_cases aW:i<pl.length
  ·rw[getElem?_append_left aW]at p
   rw[getElem?_append_left (by omega)]at q
   obtain⟨ys,bw,aU⟩:=A.ah i z w p q
   exact⟨ys,by rw[ay (np z (mem_of_getElem? p)).2.2.2.1];exact bw,bE.keep kt _ _ (eH iH _) aU⟩
  ·have vE:i=pl.length:=by
    have:=(List.getElem?_eq_some_iff.mp p).1
    rw[length_append,length_singleton]at this
    omega
   subst vE
   rw[getElem?_append_right (le_refl _),sub_self]at p
   rw[tv,getElem?_append_right (le_refl _),sub_self]at q
   have iS:(d,a)=z:=Option.some.inj p
   have ko:((d,[]):Int × List (Nat × Int))=w:=Option.some.inj q
   subst iS ko
   have na:a≠pu:=fun e=>aN (by rw[e];exact bh.mp ..)
   exact⟨[],by rw[ay na];exact bf,.nil⟩
 ·rw[map_append,List.nodup_append]
  refine⟨A.bR,by simp,fun u bp v bA=>?_⟩
  have pU:v=d:=by simpa using bA
  subst pU
  exact fun e=>bk (e ▸ bp)
 ·rw[iF,List.nodup_append]
  refine⟨A.ap,by simp,fun u bp v bA=>?_⟩
  have pU:v=a:=by simpa using bA
  subst pU
  exact fun e=>aN (e ▸ bp)
 ·rw[iF]
  intro m
  rcases mem_append.mp m with z | z
  ·exact A.nl z
  ·exact aG (mem_singleton.mp z).symm
theorem SE:∀{l:List (Int × List (Nat × Int))}{d:Int}{y:Nat × Int}{j:Nat}{w:Int × List (Nat × Int)},(l.map fun z=>if z.1=d then (z.1,z.2++[y]) else z)[j]?=some w→∃d5,l[j]?=some d5∧w=if d5.1=d then (d5.1,d5.2++[y]) else d5:=fun {l d y j w} h=>by
 rw[getElem?_map]at h
 cases e:l[j]? with
 | none=>rw[e]at h;cases h
 | some d5 =>
  rw[e]at h
  exact⟨d5,rfl,(Option.some.inj h).symm⟩
theorem bh.eo (A:bh H h ce ao lo pu st pl x) {i:Nat}{d:Int}{a:Addr}{ys:List V}{y:Nat × Int}{v:V}(aW:pl[i]?=some (d,a)) (bf:H a=some (.lst ys)) (bA:Rep H (pairD y) v) :
  bh (upd H a (.lst (ys++[v]))) h ce ao lo pu st pl { x with bQ:=x.bQ.map fun z=>if z.1=d then (z.1,z.2++[y]) else z }:=by
 obtain⟨dF,c_,eb,eS,fj,fi,gU,jc,jF,lG,fq,d_,el,gG,h_,np⟩:=A.ne
 obtain⟨k1,k2,k3,nU,k5,YD⟩:=np _ (mem_of_getElem? aW)
 have kt:eX H (upd H a (.lst (ys++[v]))):=t5 bf
 obtain⟨xs,aJ,aQ⟩:=A.aG
 obtain⟨zs,b9,cC⟩:=A.fG
 have m3:(x.bQ.map fun z=>if z.1=d then (z.1,z.2++[y]) else z).map (·.1)=x.bQ.map (·.1):=by
  rw[map_map]
  refine List.map_congr_left fun z _=>?_
  show (if z.1=d then (z.1,z.2++[y]) else z).1=z.1
  split <;> rfl
 have ap:=A.ap
 have V0:(pl.map (·.2)).Nodup:=by
  unfold own at ap
  simp only[nodup_cons]at ap
  exact ap.2.2.2.2.2
 refine⟨by rw[ay (Ne.symm k1)];exact A.du,by rw[ay (Ne.symm k2)];exact A.ai,by rw[ay (Ne.symm k3)];exact A.hd,⟨xs,by rw[ay (Ne.symm YD)];exact aJ,aQ.mono fun a y q=>q.mono kt⟩,by rw[ay (Ne.symm nU)];exact A.aD,by rw[m3];exact A.gF,fun j z w p q=>?_,by rw[m3];exact A.bR,⟨zs,by rw[ay (Ne.symm k5)];exact b9,bE.keep kt _ _ (eH dN.fR _) cC⟩,A.ap,A.nl,A.cd⟩
 obtain⟨d5,bw,rfl⟩:=SE q
 obtain⟨us,g4,gb⟩:=A.ah j z d5 p bw
 obtain⟨eL,_,t1,ek,_,_,_⟩:=A.at_ p
 rw[bw]at t1
 cases t1
 by_cases e:z=(d,a)
 ·subst e
  rw[if_pos ek]
  rw[bf]at g4
  cases g4
  refine⟨ys++[v],aT,?_⟩
  show bE _ ((d5.2++[y]).map pairD) _
  rw[map_append]
  exact (bE.keep kt _ _ (eH iH _) gb).append (.cons (Rep.keep kt _ _ (iH y) bA) .nil)
 ·have bk:¬d5.1=d:=by
   intro b0
   have f1:=pk (l:=pl) (by rw[A.gF];exact A.bR) p
   have f2:=pk (l:=pl) (by rw[A.gF];exact A.bR) aW
   rw[←ek,b0]at f1
   have fL:pl.find? (fun y=>y.1 == d)=some (d,a):=f2
   rw[fL]at f1
   exact e (Option.some.inj f1).symm
  have na:z.2≠a:=by
   intro b0
   obtain⟨aaU,ed⟩:=List.getElem?_eq_some_iff.mp p
   have g1:(pl.map (·.2))[j]?=some a:=by rw[getElem?_map,p];exact congrArg some b0
   have g2:(pl.map (·.2))[i]?=some a:=by rw[getElem?_map,aW];rfl
   have cK:j=i:=by
    have cz:=(List.getElem?_eq_some_iff.mp g1).1
    exact (List.getElem?_inj cz V0).mp (g1.trans g2.symm)
   subst cK
   rw[p]at aW
   exact e (Option.some.inj aW)
  rw[if_neg bk]
  exact⟨us,by rw[ay na];exact g4,bE.keep kt _ _ (eH iH _) gb⟩
theorem bh.ug (A:bh H h ce ao lo pu st pl x) {d:Int}(hd:x.isOpen d=true):∃(i:Nat) (a:Addr) (ys:List V),pl[i]?=some (d,a)∧x.bQ[i]?=some (d,x.ef d)∧H a=some (.lst ys)∧bE H ((x.ef d).map pairD) ys∧fb H pu (.int d) (some (.ref a)):=by
 obtain⟨w,hw,e⟩:=any_eq_true.mp hd
 obtain⟨i,aW⟩:=List.getElem?_of_mem hw
 have dH:w.1=d:=beq_iff_eq.mp e
 have aG:i<pl.length:=by rw[A.q3];exact (List.getElem?_eq_some_iff.mp aW).1
 have hz:pl[i]?=some pl[i]:=getElem?_eq_getElem aG
 obtain⟨eL,ys,bw,aU,fp,jb,nQ⟩:=A.at_ hz
 rw[aW]at bw
 cases bw
 have cL:x.ef d=w.2:=by
  unfold aE.ef
  have:=pk A.bR aW
  rw[dH]at this
  rw[this]
  rfl
 have iS:pl[i]=(d,(pl[i]).2):=by
  rw[←dH,aU]
 refine⟨i,(pl[i]).2,ys,by rw[hz];exact congrArg some iS,by rw[aW,cL,←dH],fp,by rw[cL];exact jb,?_⟩
 rw[←aU,dH]at nQ
 exact nQ
end
section
variable {H af:aj}{h ce ao lo pu st:Addr}{pl:List (Int × Addr)}{x:aE}
theorem bh.yy (A:bh H h ce ao lo pu st pl x) {b:Addr}{xs:List V}(aa:H b=some (.tup xs)):b∉own h ce ao pu st pl:=by
 intro hm
 rw[n5]at hm
 obtain⟨zs,b9,_⟩:=A.fG
 rcases hm with e | e | e | e | e | ⟨z,hz,e⟩
 ·rw[e,A.du]at aa;cases aa
 ·rw[e,A.ai]at aa;cases aa
 ·rw[e,A.hd]at aa;cases aa
 ·rw[e,A.aD]at aa;cases aa
 ·rw[e,b9]at aa;cases aa
 ·obtain⟨i,aW⟩:=List.getElem?_of_mem hz
  obtain⟨w,ys,_,_,q,_,_⟩:=A.at_ aW
  rw[e,aa]at q
  cases q
theorem bh.gC (A:bh H h ce ao lo pu st pl x) (o:h6 (own h ce ao pu st pl) H af):eX H af:=fun b xs q=>o b _ (A.yy q) q
end
section
variable {x:aE}{d n:Int}{p k:Nat}
theorem xo:(x.putIn d p n).aO.length=x.aO.length:=by
 show (x.aO.set p n).length=_
 rw[length_set]
theorem aE.fits.putIn (h:x.fits (k+1)) (aD:p<x.aO.length):(x.putIn d p n).fits k:=by
 have av:(x.da (.line (.put d p (x.aO.getD p 0) n))).fits k:=h.da (s:=.line (.put d p (x.aO.getD p 0) n)) aD
 obtain⟨a,b,c⟩:=av
 refine⟨a,b,fun ln aG=>?_⟩
 rw[xo]
 exact c ln aG
def aE.gm (x:aE) (d:Int) (l:List (Nat × Int)):aE:=l.foldl (fun h z=>h.putIn d z.1 z.2) x
theorem FZ {l:List (Nat × Int)}{z:Nat × Int}:x.gm d (l++[z])=(x.gm d l).putIn d z.1 z.2:=by
 unfold aE.gm
 rw[List.foldl_append]
 rfl
theorem sd:∀{l:List (Nat × Int)}{x:aE},(x.gm d l).bQ=x.bQ
 | [],_=>rfl
 | z::l,x=>by
  show ((x.putIn d z.1 z.2).gm d l).bQ=_
  rw[sd]
  rfl
theorem tZ:∀{l:List (Nat × Int)}{x:aE},(x.gm d l).aO.length=x.aO.length
 | [],_=>rfl
 | z::l,x=>by
  show ((x.putIn d z.1 z.2).gm d l).aO.length=_
  rw[tZ,xo]
theorem AE:∀{l:List (Nat × Int)}{x:aE},(x.gm d l).begun=x.begun
 | [],_=>rfl
 | z::l,x=>by
  show ((x.putIn d z.1 z.2).gm d l).begun=_
  rw[AE]
  rfl
theorem aE.fits.gm:∀{l:List (Nat × Int)}{x:aE}{k:Nat},x.fits (l.length+k)→(∀z∈l,z.1<x.aO.length)→(x.gm d l).fits k
 | [],x,k,h,_=>by
  rw[length_nil,zero_add]at h
  exact h
 | z::l,x,k,h,hz=>by
  show ((x.putIn d z.1 z.2).gm d l).fits k
  refine aE.fits.gm ?_ fun y cA=>by rw[xo];exact hz y (mem_cons_of_mem _ cA)
  refine aE.fits.putIn ?_ (hz z mem_cons_self)
  rw[length_cons]at h
  exact h.mono (by omega)
theorem k9:x.hD d=x.gm d (x.ef d).reverse:=rfl
end
def hG (fN:List Addr) (lo lo':Addr) (H af:aj):Prop:=h6 fN H af∧(lo'=lo∨lo'∈fN∨H lo'=none)
theorem h6.l {fN:List Addr}{lo:Addr}{H af:aj}(o:h6 fN H af):hG fN lo lo H af:=⟨o,.inl rfl⟩
theorem hG.trans {fN:List Addr}{fW cz cY:Addr}{H H1 aq:aj}(a:hG fN fW cz H H1) (b:hG fN cz cY H1 aq):hG fN fW cY H aq:=by
 refine⟨a.1.trans b.1,?_⟩
 rcases b.2 with z | z | z
 ·rw[z];exact a.2
 ·exact .inr (.inl z)
 ·by_cases m:cY∈fN
  ·exact .inr (.inl m)
  ·cases e:H cY with
   | none=>exact .inr (.inr rfl)
   | some o=>rw[a.1 _ _ m e]at z;cases z
theorem hG.fresh {fN:List Addr}{lo lo':Addr}{H H1 af:aj}(a:h6 fN H H1) (h:H1 lo'=none) (b:h6 fN H af):hG fN lo lo' H af :=
 ⟨b,by
  by_cases m:lo'∈fN
  ·exact .inr (.inl m)
  ·cases e:H lo' with
   | none=>exact .inr (.inr rfl)
   | some o=>rw[a _ _ m e]at h;cases h⟩
structure aE.good (n:Nat) (x:aE):Prop where
 fX:1≤x.aO.length
 eF:x.aO.length≤100
 fV:∀z∈x.bQ,0≤z.1∧z.1<x.begun∧z.2.length≤n∧∀y∈z.2,y.1<x.aO.length
 pl:x.bQ.length≤n
 dC:x.gA.length≤300 * n
 rP:x.log.length≤300 * n
 ok:∀ln∈x.log,ln.ok x.aO.length
section
variable {x:aE}{n k:Nat}{m:Int}
theorem aE.good.fits (g:x.good n) (aN:n≤150) (a4:k≤50000):x.fits k:=⟨by have:=g.dC;omega,by have:=g.rP;omega,g.ok⟩
theorem AD {p:Nat}:(x.gB p).begun=x.begun:=by
 unfold aE.gB
 split
 ·rfl
 ·exact qt
theorem AI:x.f5.begun=x.begun:=by
 unfold aE.f5
 split
 ·exact qt
 ·rfl
theorem FL:∀{i:Nat},(x.gY i).begun=x.begun
 | 0=>rfl
 | i+1=>by rw[qu,AD];exact FL
theorem O6:x.hC.begun=x.begun:=by rw[qx,AI,FL]
theorem t4:(x.full m).1=x∨(x.full m).1=x.hC:=by
 unfold aE.full
 split
 ·exact .inl rfl
 ·exact .inr rfl
theorem qB:(x.full m).1.aO=x.aO:=by
 rcases t4 (x:=x) (m:=m) with e | e
 ·rw[e]
 ·rw[e,O9]
theorem pq:(x.full m).1.bQ=x.bQ:=by
 rcases t4 (x:=x) (m:=m) with e | e
 ·rw[e]
 ·rw[e,FJ]
theorem ph:(x.full m).1.begun=x.begun:=by
 rcases t4 (x:=x) (m:=m) with e | e
 ·rw[e]
 ·rw[e,O6]
theorem aE.fits.full (h:x.fits (x.aO.length+1+k)):(x.full m).1.fits k:=by
 rcases t4 (x:=x) (m:=m) with e | e
 ·rw[e];exact h.mono (by omega)
 ·rw[e,qx]
  exact (aE.fits.gY (i:=x.aO.length) (k:=k+1) (h.mono (by omega)) (le_refl _)).f5
theorem G4:∀(l:List (Int × List (Nat × Int))) (d:Int),(l.any fun z=>z.1 == d)=true→(d,((l.find? fun z=>z.1 == d).map (·.2)).getD [])∈l
 | [],d,h=>by cases h
 | z::r,d,h=>by
  rw[find?_cons]
  cases e:z.1 == d with
  | true =>
   have dH:z.1=d:=beq_iff_eq.mp e
   subst dH
   exact mem_cons_self
  | false =>
   rw[any_cons,e,Bool.false_or]at h
   exact mem_cons_of_mem _ (G4 r d h)
theorem qz {d:Int}(h:x.isOpen d=true):(d,x.ef d)∈x.bQ:=G4 x.bQ d h
theorem sb {e:cZ}{w:Str}(h:x.refusal e=some w):¬(V.str w=V.str "done"):=by
 have key:w="no dealing"∨w="no page"∨w="taken":=by
  cases e with
  | begin=>cases h
  | cut=>cases h
  | put d p n =>
   have h:(if x.isOpen d=false then some "no dealing" else if p<0∨(x.aO.length:Int)≤p then some "no page" else if x.eK p.toNat=none∨x.eK p.toNat=some d then none else some "taken":Option Str)=some w:=h
   split at h
   ·exact .inl (Option.some.inj h).symm
   split at h
   ·exact .inr (.inl (Option.some.inj h).symm)
   split at h
   ·cases h
   ·exact .inr (.inr (Option.some.inj h).symm)
  | fin d =>
   have h:(if x.isOpen d=false then some "no dealing" else none:Option Str)=some w:=h
   split at h
   ·exact .inl (Option.some.inj h).symm
   ·cases h
  | drop d =>
   have h:(if x.isOpen d=false then some "no dealing" else none:Option Str)=some w:=h
   split at h
   ·exact .inl (Option.some.inj h).symm
   ·cases h
  | look p =>
   have h:(if p<0∨(x.aO.length:Int)≤p then some "no page" else none:Option Str)=some w:=h
   split at h
   ·exact .inr (.inl (Option.some.inj h).symm)
   ·cases h
  | carry p =>
   have h:(if p<0∨(x.aO.length:Int)≤p then some "no page" else none:Option Str)=some w:=h
   split at h
   ·exact .inr (.inl (Option.some.inj h).symm)
   ·cases h
 rcases key with rfl | rfl | rfl <;> decide +kernel
theorem tX {d:Int}{e:cZ}(he:(∃p n,e=.put d p n)∨e=.fin d∨e=.drop d) (h:x.refusal e=none):x.isOpen d=true:=by
 cases aF:x.isOpen d with
 | true=>rfl
 | false =>
  rcases he with ⟨p,n,rfl⟩ | rfl | rfl <;> unfold aE.refusal at h <;> dsimp only at h <;> rw[aF,if_pos rfl]at h <;> cases h
theorem tW {p:Int}{e:cZ}(he:(∃d n,e=.put d p n)∨e=.look p∨e=.carry p) (h:x.refusal e=none):0≤p∧p<x.aO.length:=by
 have key:¬(p<0∨(x.aO.length:Int)≤p):=by
  intro ai
  rcases he with ⟨d,n,rfl⟩ | rfl | rfl
  ·have aF:x.isOpen d=true:=tX (.inl ⟨p,n,rfl⟩) h
   unfold aE.refusal at h
   dsimp only at h
   rw[aF,if_neg (fun z=>nomatch z),if_pos ai]at h
   cases h
  ·unfold aE.refusal at h
   dsimp only at h
   rw[if_pos ai]at h
   cases h
  ·unfold aE.refusal at h
   dsimp only at h
   rw[if_pos ai]at h
   cases h
 omega
end
def aE.grow (x y:aE) (k:Nat):Prop:=y.gA.length≤x.gA.length+k∧y.log.length≤x.log.length+k
section
variable {x y z:aE}{n k j:Nat}{m:Int}{d:Int}{p:Nat}{s:dN}
theorem aE.grow.refl:x.grow x k:=⟨Nat.le_add_right _ _,Nat.le_add_right _ _⟩
theorem aE.grow.trans (a:x.grow y j) (b:y.grow z k):x.grow z (j+k):=⟨by have:=a.1;have:=b.1;omega,by have:=a.2;have:=b.2;omega⟩
theorem aE.grow.mono (a:x.grow y j) (h:j≤k):x.grow y k:=⟨by have:=a.1;omega,by have:=a.2;omega⟩
theorem t2:x.grow (x.da s) 1:=by
 refine⟨by rw[FF,length_append,length_singleton];exact le_refl _,?_⟩
 cases s with
 | line ln =>
  show (x.log++[ln]).length≤_
  rw[length_append,length_singleton]
  exact le_refl _
 | f6 p n=>exact Nat.le_add_right _ _
 | cut j =>
  show (x.log.drop j).length≤_
  rw[length_drop]
  omega
theorem Ge:x.grow (x.gB p) 1:=by
 unfold aE.gB
 split
 ·exact .refl
 ·exact t2
theorem G2:x.grow x.f5 1:=by
 unfold aE.f5
 split
 ·exact t2
 ·exact .refl
theorem FQ:∀{i:Nat},x.grow (x.gY i) i
 | 0=>.refl
 | i+1=>by
  rw[qu]
  exact FQ.trans Ge
theorem GA:x.grow (x.full m).1 (x.aO.length+1):=by
 rcases t4 (x:=x) (m:=m) with e | e
 ·rw[e];exact .refl
 ·rw[e,qx]
  exact FQ.trans G2
theorem A6 {nn:Int}:x.grow (x.putIn d p nn) 1:=by
 have h:=t2 (x:=x) (s:=.line (.put d p (x.aO.getD p 0) nn))
 exact⟨h.1,h.2⟩
theorem F6:∀{l:List (Nat × Int)}{x:aE},x.grow (x.gm d l) l.length
 | [],_=>.refl
 | w::l,x=>by
  show x.grow ((x.putIn d w.1 w.2).gm d l) (l.length+1)
  exact ((A6 (x:=x) (d:=d) (p:=w.1) (nn:=w.2)).trans (F6 (l:=l))).mono (by omega)
theorem aE.good.more (g:x.good n):x.good (n+1):=⟨g.fX,g.eF,fun z hz=>⟨(g.fV z hz).1,(g.fV z hz).2.1,le_succ_of_le (g.fV z hz).2.2.1,(g.fV z hz).2.2.2⟩,le_succ_of_le g.pl,by have:=g.dC;omega,by have:=g.rP;omega,g.ok⟩
theorem aE.good.step (g:x.good n) (cJ:x.grow y 300) (hd:y.aO.length=x.aO.length) (aa:x.begun≤y.begun) (aD:y.bQ=x.bQ) (hf:y.fits 0):y.good (n+1):=by
 refine⟨by rw[hd];exact g.fX,by rw[hd];exact g.eF,fun z hz=>?_,by rw[aD];exact le_succ_of_le g.pl,by have:=g.dC;have:=cJ.1;omega,by have:=g.rP;have:=cJ.2;omega,hf.2.2⟩
 rw[aD]at hz
 obtain⟨a,b,c,e⟩:=g.fV z hz
 exact⟨a,by omega,le_succ_of_le c,by rw[hd];exact e⟩
theorem aE.good.bQ (g:x.good (n+1)) {aB:List (Int × List (Nat × Int))}(h:∀z∈aB,0≤z.1∧z.1<x.begun∧z.2.length≤n+1∧∀y∈z.2,y.1<x.aO.length) (aG:aB.length≤n+1):({ x with bQ:=aB }:aE).good (n+1):=⟨g.fX,g.eF,h,aG,g.dC,g.rP,g.ok⟩
theorem aE.good.bX (g:x.good n) (aN:n≤110) (e:cZ):(x.bX e).1.good (n+1):=by
 cases ey:x.refusal e with
 | some ww =>
  have az:x.bX e=(x,.word ww):=by unfold aE.bX;rw[ey]
  rw[az]
  exact g.more
 | none =>
  have az:x.bX e=x.i7 e:=by unfold aE.bX;rw[ey]
  rw[az]
  have Z2:=g.eF
  have F:∀k,k≤50000→x.fits k:=fun k a4=>g.fits (by omega) a4
  cases e with
  | begin =>
   have YL:x.began.good n:=⟨g.fX,g.eF,fun z hz=>⟨(g.fV z hz).1,(by have:=(g.fV z hz).2.1;show z.1<((x.begun+1:Nat):Int);omega),(g.fV z hz).2.2⟩,g.pl,g.dC,g.rP,g.ok⟩
   have qh:x.began.fits (x.began.aO.length+1+0):=F _ (by show x.aO.length+1+0≤_;omega)
   have mZ:(x.began.full 1).1.good (n+1):=YL.step (GA.mono (by show x.aO.length+1≤_;omega)) (by rw[qB]) (by rw[ph];exact le_refl _) pq qh.full
   show (if (x.began.full 1).2=true then ((x.began.full 1).1,dn.word "no room") else ((x.began.full 1).1.opened,dn.num x.begun)).1.good (n+1)
   split
   ·exact mZ
   ·refine mZ.bQ (fun z hz=>?_) ?_
    ·have es:(x.began.full 1).1.begun=x.begun+1:=ph
     rcases mem_append.mp hz with hz | hz
     ·exact mZ.fV z hz
     ·rw[mem_singleton.mp hz]
      refine⟨?_,?_,zero_le _,fun y cA=>by cases cA⟩
      ·show 0≤(((x.began.full 1).1.begun:Nat):Int) - 1
       rw[es]
       omega
      ·show (((x.began.full 1).1.begun:Nat):Int) - 1<(((x.began.full 1).1.begun:Nat):Int)
       omega
    ·rw[length_append,length_singleton,pq]
     have:=g.pl
     show x.bQ.length+1≤_
     omega
  | put d p nn =>
   obtain⟨rN,cp⟩:=tW (.inl ⟨d,nn,rfl⟩) ey
   have lI:p.toNat<x.aO.length:=by omega
   have qh:x.fits (x.aO.length+1+1):=F _ (by omega)
   have g1:x.grow (x.full 2).1 (x.aO.length+1):=GA
   have qg:(x.full 2).1.fits 1:=qh.full
   have mZ:(x.full 2).1.good (n+1):=g.step (g1.mono (by omega)) (by rw[qB]) (by rw[ph];exact le_refl _) pq (qg.mono (by omega))
   have cL:(x.full 2).1.bQ=x.bQ:=pq
   have eE:(x.full 2).1.aO=x.aO:=qB
   show (if (x.full 2).2=true then ((x.full 2).1,dn.word "no room") else (((x.full 2).1.eo d p.toNat).putIn d p.toNat nn,dn.word "done")).1.good (n+1)
   split
   ·exact mZ
   ·generalize (x.full 2).1=y at g1 qg mZ cL eE
    have gt:(y.eo d p.toNat).good (n+1):=by
     refine mZ.bQ (fun z hz=>?_) (by rw[length_map];exact mZ.pl)
     obtain⟨w,hw,e⟩:=mem_map.mp hz
     have s6:=mZ.fV w hw
     have Ww:=g.fV w (cL ▸ hw)
     by_cases ko:w.1=d
     ·rw[if_pos ko]at e
      subst e
      refine⟨s6.1,s6.2.1,?_,fun q bN=>?_⟩
      ·show (w.2++[_]).length≤_
       rw[length_append,length_singleton]
       have:=Ww.2.2.1
       omega
      ·rcases mem_append.mp bN with bN | bN
       ·exact s6.2.2.2 q bN
       ·rw[mem_singleton.mp bN,eE]
        exact lI
     ·rw[if_neg ko]at e
      subst e
      exact s6
    have cj:((y.eo d p.toNat).putIn d p.toNat nn).fits 0:=aE.fits.putIn (k:=0) (x:=y.eo d p.toNat) qg (by show p.toNat<y.aO.length;rw[eE];exact lI)
    have g2:x.grow ((y.eo d p.toNat).putIn d p.toNat nn) (x.aO.length+1+1):=g1.trans (show y.grow ((y.eo d p.toNat).putIn d p.toNat nn) 1 from (⟨(A6 (x:=y.eo d p.toNat) (d:=d) (p:=p.toNat) (nn:=nn)).1,(A6 (x:=y.eo d p.toNat) (d:=d) (p:=p.toNat) (nn:=nn)).2⟩:(y.eo d p.toNat).grow _ 1))
    have ld:((y.eo d p.toNat).putIn d p.toNat nn).aO.length=y.aO.length:=xo (x:=y.eo d p.toNat)
    show ((y.eo d p.toNat).putIn d p.toNat nn).good (n+1)
    refine⟨by rw[ld];exact mZ.fX,by rw[ld];exact mZ.eF,fun z hz=>?_,gt.pl,by have:=g2.1;have:=g.dC;omega,by have:=g2.2;have:=g.rP;omega,cj.2.2⟩
    obtain⟨a,b,c,dd⟩:=gt.fV z hz
    exact⟨a,b,c,by rw[ld];exact dd⟩
  | fin d =>
   show (x.pI d).good (n+1)
   have f1:=(F 1 (by omega)).da (k:=0) (s:=.line (.fin d)) True.intro
   have wG:(x.da (.line (.fin d))).good (n+1):=g.step (t2.mono (by omega)) (by rw[qv]) (by rw[qt];exact le_refl _) n2 f1
   exact wG.bQ (fun z hz=>wG.fV z ((mem_filter.mp hz).1)) (le_trans (length_filter_le _ _) (le_succ_of_le g.pl))
  | drop d =>
   show ((x.hD d).pI d).good (n+1)
   have aF:x.isOpen d=true:=tX (.inr (.inr rfl)) ey
   have Ol:=g.fV _ (qz aF)
   have lX:(x.ef d).length≤n:=Ol.2.2.1
   have hz:∀y∈(x.ef d).reverse,y.1<x.aO.length:=fun y cA=>Ol.2.2.2 y (mem_reverse.mp cA)
   have YM:(x.hD d).fits 1:=by
    rw[k9]
    exact aE.fits.gm (k:=1) (F _ (by rw[length_reverse];omega)) hz
   have YJ:x.grow (x.hD d) (x.ef d).length:=by
    have:=F6 (d:=d) (l:=(x.ef d).reverse) (x:=x)
    rw[length_reverse]at this
    exact this
   have f1:=YM.da (k:=0) (s:=.line (.fin d)) True.intro
   have y9:(x.hD d).bQ=x.bQ:=by rw[k9,sd]
   have wG:((x.hD d).da (.line (.fin d))).good (n+1):=g.step ((YJ.trans t2).mono (by omega)) (by rw[qv,k9,tZ]) (by rw[qt,k9,AE];exact le_refl _) (by rw[n2];exact y9) f1
   exact wG.bQ (fun z hz=>wG.fV z (by rw[n2];exact (mem_filter.mp hz).1)) (le_trans (length_filter_le _ _) (by rw[y9];exact le_succ_of_le g.pl))
  | look p=>exact g.more
  | carry p =>
   obtain⟨rN,cp⟩:=tW (.inr (.inr rfl)) ey
   show (x.gB p.toNat).good (n+1)
   exact g.step (Ge.mono (by omega)) (by rw[AF]) (by rw[AD];exact le_refl _) FU ((F 1 (by omega)).carry (k:=0) (by omega))
  | cut =>
   show x.f5.good (n+1)
   exact g.step (G2.mono (by omega)) (by rw[AM]) (by rw[AI];exact le_refl _) Gh ((F 1 (by omega)).f5 (k:=0))
end
def aE.run (x:aE):List cZ→aE
 | []=>x
 | e::r=>aE.run (x.bX e).1 r
def aE.says (x:aE):List cZ→List dn
 | []=>[]
 | e::r=>(x.bX e).2::aE.says (x.bX e).1 r
theorem A2:∀(l:List cZ) (x:aE) (e:cZ),x.run (l++[e])=((x.run l).bX e).1
 | [],_,_=>rfl
 | _::l,x,e=>A2 l _ e
theorem AP:∀(l:List cZ) (x:aE) (e:cZ),x.says (l++[e])=x.says l++[((x.run l).bX e).2]
 | [],_,_=>rfl
 | a::l,x,e=>by
  show _::aE.says _ (l++[e])=_
  rw[AP l]
  rfl
theorem xe:∀(l:List cZ) (x:aE),(x.says l).length=l.length
 | [],_=>rfl
 | a::l,x=>by
  show (aE.says _ l).length+1=_
  rw[xe l]
  rfl
theorem aE.good.run:∀(l:List cZ) {x:aE}{n:Nat},x.good n→n+l.length≤110→(x.run l).good (n+l.length)
 | [],_,_,g,_=>g
 | e::l,x,n,g,h=>by
  rw[length_cons]at h ⊢
  have:=aE.good.run l (g.bX (by omega) e) (by omega)
  have YO:n+1+l.length=n+(l.length+1):=by omega
  rw[YO]at this
  exact this
theorem Px {lo:Int}{n:Nat}{bS:TE}{bq:St}{Q:ct}{H:aj}{acc:Addr}(R:V→Prop) (h0:H acc=none) (aN:n≤1000)
  (he:∀(i:Nat) a3 (k:ct),i<n→(∀v c6,R v→bY a3 c6→k v c6)→bS (some (.int (lo+i))::bq) a3 k)
  (q:∀(ys:List V) (af:aj),ys.length=n→(∀v∈ys,R v)→bY H af→af acc=some (.lst ys)→Q (.ref acc) af):qS (p6 lo n) bS bq Q H acc:=by
 refine⟨n,fun i ys aq=>i≤n∧ys.length=i∧(∀v∈ys,R v)∧bY H aq∧aq acc=some (.lst ys),⟨zero_le _,rfl,fun v bA=>by simp at bA,b3 h0 _,aT⟩,?_⟩
 rintro i ys aq ⟨aW,aG,rS,cV,eg⟩
 by_cases de:i<n
 ·refine .inr ⟨de,de,?_⟩
  rintro v a3 ⟨rfl,rfl⟩
  refine he i _ _ de fun v c6 bA s4=>⟨s4 _ _ eg,lt_of_le_of_lt (by omega:ys.length≤1000) (by decide),de,by rw[length_append,aG];rfl,fun w hw=>?_,(cV.trans s4).iZ h0,aT⟩
  rcases mem_append.mp hw with z | z
  ·exact rS w z
  ·rw[mem_singleton.mp z];exact bA
 ·have e:i=n:=by omega
  subst e
  exact .inl ⟨le_refl _,q ys aq aG rS cV eg⟩
open PySem.Spec PyProof.Rows
section
variable {X:br}
def SA:iV:=fun x y H Q=>∃a b xs,x=.ref a∧y=.ref b∧H a=some (.lst xs)∧H b=some (.lst [])∧Q (.b8 xs.isEmpty) H
theorem QZ (bp:X.A.units<cLine):gQ X (compareOp .Eq) SA:=by
 intro pins s σ H x y v u Q I bu bL h
 obtain⟨a,b,xs,rfl,rfl,bf,aa,q⟩:=h
 cases bu
 cases bL
 obtain⟨its,r,p,_⟩:=I.list (aV.of bf)
 obtain⟨i6,b7,cI,_⟩:=I.list (aV.of aa)
 cases b7
 cases xs with
 | nil =>
  cases r
  exact SeqAt.RcAt.lists (e:=fun _=>true) p.isList cI.isList rfl bp (fun j av _=>absurd av (by simp)) X.prog X.w X.dp _ ⟨.b8 true,H,I,rfl,q⟩
 | cons x xs =>
  cases r
  exact SeqAt.RcAt.lists_lengths p.isList cI.isList (by simp) bp X.prog X.w X.dp _ ⟨.b8 false,H,I,rfl,q⟩
end
theorem PV {K:PySem.W.Frag}{a:Addr}{ns:List Int}{tt:TT}{bS:TE}{bq:St}{Q:ct}{H:aj}{acc:Addr}(p:Int→Bool) (bf:H a=some (.lst (ns.map V.int))) (h0:H acc=none) (hz:ns.length≤1000)
  (bG:∀(z:Int) a3 (k:Bool→aj→Prop),k (p z) a3→tt (some (.int z)::bq) a3 k)
  (he:∀(z:Int) a3 (k:ct),k (.int z) a3→bS (some (.int z)::bq) a3 k)
  (q:Q (.ref acc) (upd H acc (.lst ((ns.filter p).map V.int)))):B4 (oN K a) tt bS bq Q H acc:=by
 have zh:a≠acc:=cG bf h0
 have mY:(ns.map V.int).length=ns.length:=length_map _
 refine⟨ns.length,fun i ys aq=>i≤ns.length∧ys=((ns.take i).filter p).map V.int∧aq=upd H acc (.lst ys),⟨zero_le _,rfl,rfl⟩,?_⟩
 rintro i ys aq ⟨aW,rfl,rfl⟩
 have mJ:(upd H acc (.lst (((ns.take i).filter p).map V.int))) a=some (.lst (ns.map V.int)):=by rw[ay zh];exact bf
 by_cases de:i<ns.length
 ·have Mh:ns[i]?=some ns[i]:=getElem?_eq_getElem de
  have aZ:(ns.map V.int)[i]?=some (.int ns[i]):=xj Mh
  refine .inr ⟨⟨_,_,aV.of mJ,aZ⟩,de,?_⟩
  rintro v a3 ⟨rfl,bA⟩
  have ev:v=.int ns[i]:=by
   have:=bA _ (aV.of mJ)
   rw[aZ]at this
   exact (Option.some.inj this).symm
  subst ev
  have hA:(ns.take (i+1)).filter p=(ns.take i).filter p++[ns[i]].filter p:=by
   rw[take_add_one,Mh,List.filter_append]
   rfl
  refine bG _ _ _ ?_
  cases aD:p ns[i] with
  | false =>
   refine dQ ⟨de,?_,rfl⟩
   rw[hA,filter_cons,aD]
   simp
  | true =>
   refine eY (he _ _ _ ?_)
   have lf:(((ns.take i).filter p).map V.int).length≤1000:=by
    rw[length_map]
    have av:=length_filter_le p (ns.take i)
    rw[length_take]at av
    omega
   refine⟨aT,lt_of_le_of_lt lf (by decide),de,?_,by rw[qE]⟩
   rw[hA,filter_cons,aD]
   simp
 ·have e:i=ns.length:=by omega
  subst e
  refine .inl ⟨⟨_,aV.of mJ,by rw[mY];exact le_refl _⟩,?_⟩
  rw[take_length]
  exact q
structure sR (bF ex:List Addr) (h h':Heap):Prop where
 keep:∀b o,h.get? b=some o→b∉bF→b∉ex→h'.get? b=some o
 slot:∀b o,h.get? b=some o→b∈bF→b∉ex→∃dC,h'.get? b=some { o with slots:=dC }
theorem sR.there {bF ex:List Addr}{h h':Heap}(x:sR bF ex h h') {b:Addr}{o:Obj}(e:h.get? b=some o) (aa:b∉ex):∃eO,h'.get? b=some eO:=by
 by_cases z:b∈bF
 ·obtain⟨dC,q⟩:=x.slot b o e z aa
  exact⟨_,q⟩
 ·exact⟨_,x.keep b o e z aa⟩
theorem ep.held {P:Program}{w:World}{bF ex:List Addr}{h h':Heap}{H:aj}(k:ep P w H h) (x:sR bF ex h h') (hf:∀b∈bF,H b=none) (he:∀b∈ex,H b=none):ep P w H h':=fun a o e =>
 (k a o e).iJ (fun b u aa q=>by
  have aN:H b≠none:=by
   rcases aa with z | z
   ·rw[z,e];exact fun y=>nomatch y
   ·rw[z];exact fun y=>nomatch y
  exact x.keep b u q (fun z=>aN (hf b z)) fun z=>aN (he b z)) (fun _ q=>q) fun _ _ q=>q
theorem fa.obj {P:Program}{w:World}{H:aj}{h:Heap}{a:Addr}{o:eU}(x:fa P w H h a o):∃bT,h.get? a=some bT:=by
 cases o with
 | lst xs=>obtain⟨_,_,_,_,e⟩:=x;exact⟨_,e⟩
 | tup xs=>obtain⟨_,_,_,bT,e,_⟩:=x;exact⟨_,e⟩
 | b2 kvs=>obtain⟨_,_,_,_,o,_,_,e,_⟩:=x;exact⟨_,e⟩
 | hj kvs=>obtain⟨_,_,_,_,o,_,_,e,_⟩:=x;exact⟨_,e⟩
 | set S n=>obtain⟨o,_,_,_,e,_⟩:=x;exact⟨_,e⟩
 | ins C dx bF=>obtain⟨_,_,_,e,_⟩:=x;exact⟨_,e⟩
 | own y=>obtain⟨_,e⟩:=x;exact⟨_,e⟩
 | zZ bF=>obtain⟨_,⟨_,_,_,e,_⟩,_⟩:=x;exact⟨_,e⟩
 | kG lo aW=>obtain⟨_,_,_,e⟩:=x;exact⟨_,e⟩
 | iN bT u=>obtain⟨e,_⟩:=x;exact⟨_,e⟩
 | pQ aB=>exact⟨_,(show h.get? a=some _ from x)⟩
 | met f y=>exact⟨_,(show h.get? a=some _ from x)⟩
 | ext φ=>obtain⟨_,⟨_,e⟩,_⟩:=x;exact⟨_,e⟩
section
variable {X:br}{pins:List (Addr × Obj)}{σ:St}{H:aj}{s:Shared}{h':Heap}
theorem Inv.held {ex:List Addr}{t':Nat}(I:Inv X pins σ H s) (jI:X.ex=[]) (x:sR (fo X.stack) ex s.heap h') (gI:∀b∈ex,H b=none) (h0:∀b∈ex,X.ff.heap.get? b=none) (aG:∀b∈ex,b≠X.env.locals) (ai:∀b∈ex,∀y c,X.env.cells.lookup y=some c→c≠b)
  (aD:∀b∈ex,∀p∈X.bR++pins,p.1≠b):Inv X pins σ H { s with heap:=h',toks:=t' }:=by
 have bC:ep X.prog X.w H h':=ep.held I.bC x I.xP gI
 have jn:∀b,b≠X.env.locals→b∉X.bF→b∉fo X.stack:=fun b av aC aa=>(mem_cons.mp (I.ur b aa)).elim av aC
 have Dg:∀b o,X.ff.heap.get? b=some o→b∉ex:=fun b o e aa=>by rw[h0 b aa]at e;cases e
 have anyS:∀b o,s.heap.get? b=some o→b∉ex→∃dC,h'.get? b=some { o with slots:=dC }:=fun b o e aa=>by
  by_cases z:b∈fo X.stack
  ·exact x.slot b o e z aa
  ·exact⟨o.slots,x.keep b o e z aa⟩
 have cellK:∀y c,X.env.cells.lookup y=some c→∀v,s.heap.IsCell c v→h'.IsCell c v:=fun y c e v ⟨o,aF,hd⟩=>by
  obtain⟨dC,q⟩:=anyS c o aF fun z=>ai c z y c e rfl
  exact⟨_,q,hd⟩
 have zf:∀b o,X.ff.heap.get? b=some o→b≠X.env.locals:=fun b o e=>ne_of_lt (lt_of_lt_of_le (lt_size e) I.ok.above)
 refine⟨I.ok,I.os,I.bare,⟨fun b o e n aa aZ=>?_,fun b o e n aa aZ=>?_,fun b o e n aZ=>I.base.free b o e n aZ,fun b o e aZ=>?_,I.base.nq,I.base.ml,I.base.nt⟩,?_,fun y c e=>?_,I.free,I.hq,fun p Mm=>?_,bC,I.len⟩
 ·exact x.keep b o (I.base.keep b o e n aa aZ) (jn b (zf b o e) aa) (Dg b o e)
 ·obtain⟨dC,aJ⟩:=I.base.slot b o e n aa aZ
  obtain⟨C3,aQ⟩:=anyS b _ aJ (Dg b o e)
  exact⟨C3,aQ⟩
 ·obtain⟨eO,aJ⟩:=I.base.there b o e aZ
  exact x.there aJ (Dg b o e)
 ·obtain⟨m,⟨ES,aM,cL,aF,hd,a4,hf⟩,DC⟩:=I.loc
  obtain⟨dC,q⟩:=anyS _ ES aF fun z=>aG _ z rfl
  refine⟨m,⟨_,aM,cL,q,hd,a4,hf⟩,fun i y v aJ aQ b9=>?_⟩
  obtain⟨u,r,l⟩:=DC i y v aJ aQ b9
  refine⟨u,r,?_⟩
  rcases l with l | ⟨k,c,e,z⟩
  ·exact .inl l
  ·exact .inr ⟨k,c,e,cellK y c e _ z⟩
 ·obtain⟨v,z⟩:=I.cell y c e
  exact⟨v,cellK y c e v z⟩
 ·obtain⟨e,n,ne,jE,d⟩:=I.pin p Mm
  exact⟨x.keep p.1 p.2 e (jn p.1 ne jE) fun z=>aD p.1 z p Mm rfl,n,ne,jE,d⟩
end
def Ed (h0:Heap) (H:aj) (h:Heap) (e:Addr) (cls:Value):Prop :=
 ∃dY vs T kc aA a0,h.get? e=some dY∧dY.cls=cls∧dY.data=.fields vs∧vs[0]?=some a0∧vs[1]?=some (.ref T)∧T≠e∧h.get? T=some kc∧kc.data=.fields aA∧aA[3]?=some .none∧h0.get? e=none∧h0.get? T=none∧H e=none∧H T=none
def c4 (P:Program) (w:World):lQ:=fun outer H s E e aL=>∃az cls af,e=.ref az∧aL.os=s.os∧AllBare aL.gens∧gW (fo outer) [] H af s.heap aL.heap∧ep P w af aL.heap∧Ed s.heap af aL.heap az cls∧E cls none af
theorem x2 {h h':Heap}{bF ex:List Addr}(st:(hideAll h (ex++bF)).StaysIn h') (up:h.UpToSlots h') (hf:∀b∈bF,∀o,h.get? b=some o→∀vs,o.data≠.fields vs):sR bF ex h h' :=
 ⟨fun b o e av aC=>st b o (PySem.W.hideAll_get _ e fun z=>(mem_append.mp z).elim aC av),fun b o e av _=>up b o e (hf b av o e)⟩
theorem Ia {P:Program}{w:World}{h0 h h':Heap}{H:aj}{bF ex:List Addr}{e:Addr}{cls a0:Value}(EL:h'.TracedW (hideAll h (ex++bF)) e cls a0) (d:sR bF ex h h') (rp:∀b,h.get? b=none→h0.get? b=none) (k:ep P w H h)
  (aZ:∀b∈ex,h0.get? b=none∧H b=none) (hf:∀b∈bF,∃o,h.get? b=some o∧∀vs,o.data≠.fields vs) (he:e∈ex):Ed h0 H h' e cls:=by
 obtain⟨dY,vs,T,kc,aA,g1,⟨g2,g3⟩,jJ,kk,m2,nV,m1,l2,mK⟩:=EL
 have ig:h0.get? T=none∧H T=none:=by
  cases q:h.get? T with
  | none =>
   refine⟨rp T q,?_⟩
   cases z:H T with
   | none=>rfl
   | some u =>
    obtain⟨bT,y⟩:=(k T u z).obj
    rw[q]at y
    cases y
  | some o =>
   by_cases hm:T∈ex++bF
   ·rcases mem_append.mp hm with z | z
    ·exact aZ T z
    ·by_cases N6:T∈ex
     ·exact aZ T N6
     ·obtain⟨b5,b0,cM⟩:=hf T z
      obtain⟨dC,g0⟩:=d.slot T b5 b0 z N6
      rw[m1]at g0
      have kN:kc={ b5 with slots:=dC }:=Option.some.inj g0
      rw[kN]at l2
      exact absurd l2 (cM aA)
   ·rw[PySem.W.hideAll_get _ q hm]at m2
    cases m2
 exact⟨dY,vs,T,kc,aA,a0,g1,g2,jJ,g3,kk,nV,m1,l2,mK,(aZ e he).1,ig.1,(aZ e he).2,ig.2⟩
section
variable {X:br}{pins:List (Addr × Obj)}{σ:St}{H:aj}{s:Shared}
theorem Inv.qO (I:Inv X pins σ H s):∀b∈fo X.stack,∃o,s.heap.get? b=some o∧∀vs,o.data≠.fields vs:=fun b aa=>(I.stack.mem aa).2
theorem Inv.vt (I:Inv X pins σ H s) (jI:X.ex=[]):∀b,s.heap.get? b=none→X.ff.heap.get? b=none:=fun b e=>by
 cases q:X.ff.heap.get? b with
 | none=>rfl
 | some o =>
  obtain⟨eO,y⟩:=I.base.there b o q (by rw[jI];simp)
  rw[e]at y
  cases y
theorem Inv.xK (I:Inv X pins σ H s) (ex:List Addr):s.heap.FunFrames (hideAll s.heap (ex++fo X.stack)) X.stack :=
 PySem.W.funFrames_hide I.stack fun env he a hf=>mem_append_right _ (List.mem_filterMap.mpr ⟨env,he,hf⟩)
theorem Inv.c1 (I:Inv X pins σ H s) {b:Addr}(e:s.heap.get? b=none):b≠X.env.locals∧(∀y c,X.env.cells.lookup y=some c→c≠b)∧∀p∈X.bR++pins,p.1≠b:=by
 refine⟨fun z=>?_,fun y c q z=>?_,fun p aD z=>?_⟩
 ·obtain⟨m,⟨o,_,_,aF,_⟩,_⟩:=I.loc
  rw[←z,e]at aF
  cases aF
 ·obtain⟨v,o,aF,_⟩:=I.cell y c q
  rw[z,e]at aF
  cases aF
 ·have:=(I.pin p aD).1
  rw[z,e]at this
  cases this
end
structure wZ (X:br) (pins:List (Addr × Obj)) (σ:St) (H:aj) (s:Shared) (e:Addr) (cls:Value):Prop where
 inv:Inv X pins σ H s
 zI:Ed X.ff.heap H s.heap e cls
 c1:∀b,(b=e∨∃dY vs,s.heap.get? e=some dY∧dY.data=.fields vs∧vs[1]?=some (.ref b))→b≠X.env.locals∧(∀y c,X.env.cells.lookup y=some c→c≠b)∧∀p∈X.bR++pins,p.1≠b
section
variable {X:br}{pins:List (Addr × Obj)}{σ:St}{H af:aj}{s aL:Shared}{E:gh}{e:Value}
theorem Inv.x4 (I:Inv X pins σ H s) (jI:X.ex=[]) (h:c4 X.prog X.w X.stack H s E e aL):∃az cls af,e=.ref az∧wZ X pins σ af aL az cls∧E cls none af:=by
 obtain⟨az,cls,af,rfl,os,bare,un,bC,fs,q⟩:=h
 refine⟨az,cls,af,rfl,⟨I.Cp (ch:=[]) os un bC bare (fun b z=>absurd z (by simp)),?_,?_⟩,q⟩
 ·obtain⟨dY,vs,T,kc,aA,a0,g1,g2,g3,jJ,kk,m2,nV,m1,l2,mK,oG,oF,p0⟩:=fs
  exact⟨dY,vs,T,kc,aA,a0,g1,g2,g3,jJ,kk,m2,nV,m1,l2,I.vt jI _ mK,I.vt jI _ oG,oF,p0⟩
 ·obtain⟨dY,vs,T,kc,aA,a0,g1,g2,g3,jJ,kk,m2,nV,m1,l2,mK,oG,oF,p0⟩:=fs
  rintro b (rfl | ⟨ZA,vs',b0,cM,g0⟩)
  ·exact I.c1 mK
  ·rw[g1]at b0
   cases b0
   rw[g3]at cM
   cases cM
   rw[kk]at g0
   cases g0
   exact I.c1 oG
theorem wZ.S1 {P:Program}{w:World}{K:PySem.W.Frag}{mg:Str→Option Value}{base:Heap}{N:List Str}{qual:Str}{scope:Scope}{f:Addr}{cd:Value}{A:Around}{outer:List Env}{s0:Shared}{dO:aj}{E:gh}{az:Addr}{cls:Value}
  (U:wZ (fm (c4 P w) P w K mg base N qual scope f cd A outer s0 dO E) pins σ H s az cls) (q:E cls none H):(fm (c4 P w) P w K mg base N qual scope f cd A outer s0 dO E).dp (.ref az) s:=by
 obtain⟨I,fs,c1⟩:=U
 obtain⟨dY,vs,T,kc,aA,a0,g1,g2,g3,jJ,kk,m2,nV,m1,l2,mK,oG,oF,p0⟩:=id fs
 have aZ:∀b∈[az,T],s0.heap.get? b=none∧H b=none:=fun b aa=>by
  rcases mem_cons.mp aa with z | z
  ·rw[z];exact⟨mK,oF⟩
  ·rw[mem_singleton.mp z];exact⟨oG,p0⟩
 have lu:∀b∈[az,T],_:=fun b aa=>c1 b (by
  rcases mem_cons.mp aa with z | z
  ·exact .inl z
  ·exact .inr ⟨dY,vs,g1,g3,by rw[mem_singleton.mp z];exact kk⟩)
 refine wpAny_leaving_nextW (base:=hideAll s.heap ([az,T]++fo (fm (c4 P w) P w K mg base N qual scope f cd A outer s0 dO E).stack)) (L:=(fm (c4 P w) P w K mg base N qual scope f cd A outer s0 dO E).env.locals) (a0:=a0) (cls:=cls) I.ok.frames (I.xK _) rfl
  ⟨dY,vs,T,kc,aA,g1,⟨g2,jJ⟩,g3,kk,PySem.W.hideAll_none _ (by simp),m2,nV,m1,l2⟩ (fun b o y=>PySem.W.of_hideAll _ y) (PySem.W.hideAll_none _ (by simp)) fun h' fK=>?_
 obtain⟨k1,k2,k3,nU⟩:=fK
 have d:=x2 k1 nU fun b aa o aF vs=>by
  obtain⟨eO,b0,cM⟩:=I.qO b aa
  rw[aF]at b0
  cases b0
  exact cM vs
 have fP:=I.held (t':=s.toks) rfl d (fun b aa=>(aZ b aa).2) (fun b aa=>(aZ b aa).1) (fun b aa=>(lu b aa).1) (fun b aa=>(lu b aa).2.1) fun b aa=>(lu b aa).2.2
 exact⟨az,cls,H,rfl,fP.os,fP.bare,fP.base,fP.bC,Ia k3 d (I.vt rfl) I.bC aZ I.qO (by simp),q⟩
theorem ha {P:Program}{w:World}{K:PySem.W.Frag}{mg:Str→Option Value}{base:Heap}{N:List Str}{qual:Str}{scope:Scope}{f:Addr}{cd:Value}{A:Around}{outer:List Env}{s0:Shared}{dO:aj}{E pe:gh}(wC:∀c H,pe c none H→E c none H) :
  Passes (c4 P w) (fm (c4 P w) P w K mg base N qual scope f cd A outer s0 dO E) pe:=fun pins σ H s e aL I h=>by
 obtain⟨az,cls,af,rfl,U,q⟩:=I.x4 rfl h
 exact U.S1 (wC _ _ q)
end
abbrev w1:=St→aj→(aj→Prop)→Prop
def Aq (X:br) (aM:List Expr) (n:Nat) (t:w1):Prop :=
 ∀(pins:List (Addr × Obj)) (s:Shared) (σ:St) (H:aj) (out:Str) (Q:aj→Prop),Inv X pins σ H s→out.length+n≤sizeLine→t σ H Q →
  wpAny (model X.prog X.w) X.A (joinParts out (evalEach aM X.env)) (fun v aL=>∃y bz,v=.str y bz∧∃af,Inv X pins σ af aL∧Q af) X.dp s
section
variable {X:br}
theorem x_:Aq X [] 0 (fun σ H Q=>Q H):=fun pins s σ H out Q I hz q =>
 joinParts_nil ⟨out,_,rfl,H,I.kept (h':=s.heap) (t':=s.toks+1) fun _ _ e=>e,q⟩ (by omega)
def T5 (bS:TE) (m:Nat) (t:w1):w1:=fun σ H Q=>bS σ H fun v H1=>∃y:Str,v=.str y∧y.length≤m∧t σ H1 Q
theorem k_ {e:Expr}{aM:List Expr}{bS:TE}{n:Nat}{t:w1}(m:Nat) (he:b4 X e bS) (h:Aq X aM n t) (bA:evalEach (e::aM) X.env=eval e X.env::evalEach aM X.env:=by rfl):Aq X (e::aM) (n+m) (T5 bS m t):=by
 intro pins s σ H out Q I hz bN
 rw[bA]
 refine joinParts_cons (bV (he pins s σ H _ I bN) fun v s1 ⟨x,H1,aR,bx,y,ex,cA,q⟩=>?_)
 subst ex
 obtain⟨bz,rfl⟩:∃bz,v=.str y bz:=bx
 have aG:(out++y).length=out.length+y.length:=strLen_append out y
 exact⟨by rw[aG];omega,h pins s1 σ H1 (out++y) Q aR (by rw[aG];omega) q⟩
def Uw (bS:TE):TE:=fun σ H Q=>bS σ H fun v H1=>∃i:Int,v=.int i∧i.natAbs.log2<1920∧Q (.str (toString i)) H1
theorem uz {e:Expr}{bS:TE}{pos:Pos}(he:b4 X e bS):b4 X (.FormattedValue e (-1) none pos) (Uw bS):=by
 intro pins s σ H Q I bN
 refine FormattedValue_plain (bV (he pins s σ H _ I bN) fun v s1 ⟨x,H1,aR,bx,i,ex,aW,q⟩=>?_)
 subst ex
 obtain⟨bz,rfl⟩:∃bz,v=.int i bz:=bx
 exact formatField_int_small aW ⟨.str (toString i),H1,aR.kept (h':=s1.heap) (t':=s1.toks+1+1) fun _ _ e=>e,⟨_,rfl⟩,q⟩
theorem xw {aJ aQ:Expr}{aM:List Expr}{n:Nat}{t:w1}{pos:Pos}(h:Aq X (aJ::aQ::aM) n t) (aN:n≤sizeLine:=by decide) (bA:evalEach (aJ::aQ::aM) X.env=eval aJ X.env::eval aQ X.env::evalEach aM X.env:=by rfl) :
  b4 X (.JoinedStr (aJ::aQ::aM) pos) (fun σ H Q=>t σ H fun H1=>∀y:Str,Q (.str y) H1):=by
 intro pins s σ H Q I bN
 refine JoinedStr_many ?_
 rw[←bA]
 refine bV (h pins s σ H Str.empty _ I (by have:(Str.empty).length=0:=rfl;omega) bN) fun v s1 ⟨y,bz,ev,H1,aR,q⟩=>?_
 subst ev
 exact⟨.str y,H1,aR,⟨bz,rfl⟩,q y⟩
theorem se {i:Int}(h:i.natAbs.log2<1920):(toString i:Str).length≤1921:=by
 have e:=int_text_length_le (k:=1920) (by decide) h
 show (Str.ofString (toString i)).length≤1921
 rw[PySem.ofString_length]
 omega
theorem Gp {i:Int}(h:i.natAbs<2 ^ 1900):i.natAbs.log2<1920:=by
 by_cases z:i.natAbs=0
 ·rw[z]
  decide
 ·exact (Nat.log2_lt z).mpr (Nat.lt_trans h (Nat.pow_lt_pow_right (by decide) (by decide)))
end
theorem SP {K:PySem.W.Frag}{h:Heap}{mg:Str→Option Value}{x:Str}{C:Addr}{bmB:List Value}{newId:String}(X:K.In h) (aa:mg x=some (.ref C)) (q:excIn K C bmB newId=true):OwnCls x C bmB newId mg h:=by
 constructor
 ·exact aa
 ·unfold excIn at q
  split at q
  case h_2=>cases q
  case h_1 dd cd dC aF =>
   split at q
   case h_2=>cases q
   case h_1 qs bm k0 k1 k2 k3 n k5 hm aS =>
    rw[and_eq_true,and_eq_true,and_eq_true,and_eq_true,and_eq_true]at q
    obtain⟨⟨⟨⟨⟨bw,aU⟩,fp⟩,jb⟩,nQ⟩,EP⟩:=q
    have aJ:=beq_iff_eq.mp bw
    have aQ:=beq_iff_eq.mp aU
    have kp:=beq_iff_eq.mp EP
    have b9:cd.hasDel=false:=by simpa using fp
    subst aJ aQ
    cases cd with
    | mk nm bs mro ns EO hd sn sub ab col del =>
     cases dC with
     | mk l =>
      have hm:mro=_:=hm
      have aS:l=_:=aS
      have b9:del=false:=b9
      subst hm aS b9
      exact⟨bm,ns,nm,EO,bs,hd,sn,sub,ab,col,dd,k0,k1,k2,k3,k5,_,X _ _ aF,.of_isNs (PySem.W.isNs_of_in X nQ),PySem.W.nsMap_none_of_in X nQ kp,PySem.W.tail_of_in X jb⟩
section
variable {P:Program}{w:World}{K:PySem.W.Frag}{mg:Str→Option Value}{base:Heap}{N:List Str}{qual:Str}{scope:Scope}{f:Addr}{cd:Value}{A:Around}{outer:List Env}{s0:Shared}{dO:aj}{E:gh}{pins:List (Addr × Obj)}{σ:St}{H:aj}{s:Shared}
theorem Inv.thrown {h':Heap}{az:Addr}{cls:Value}{args:List Value}(I:Inv (fm (c4 P w) P w K mg base N qual scope f cd A outer s0 dO E) pins σ H s) (aZ:Heap.MadeExcOf s.heap h' az cls args) (q:E cls none H) :
  (fm (c4 P w) P w K mg base N qual scope f cd A outer s0 dO E).dp (.ref az) { s with heap:=h' }:=by
 have c1:=I.c1 aZ.new
 have tn:s0.heap.get? az=none:=I.vt rfl _ aZ.new
 have Yr:H az=none:=by
  cases z:H az with
  | none=>rfl
  | some u =>
   obtain⟨bT,y⟩:=(I.bC az u z).obj
   rw[aZ.new]at y
   cases y
 have aR:=I.kept (t':=s.toks) aZ.keeps
 obtain⟨t,he,_,_⟩:=aZ.there
 have Dt:∀b∈[az],s0.heap.get? b=none∧H b=none:=fun b aa=>by rw[mem_singleton.mp aa];exact⟨tn,Yr⟩
 refine wpAny_leaving_firstW (s:={ s with heap:=h' }) (base:=hideAll h' ([az]++fo (fm (c4 P w) P w K mg base N qual scope f cd A outer s0 dO E).stack)) (L:=(fm (c4 P w) P w K mg base N qual scope f cd A outer s0 dO E).env.locals) (a0:=.ref t) aR.ok.frames (aR.xK _) rfl
  he (fun b o y=>PySem.W.of_hideAll _ y) (PySem.W.hideAll_none _ (by simp)) rfl rfl rfl fun aC fK=>?_
 obtain⟨k1,k2,k3,nU⟩:=fK
 have d:=x2 k1 nU fun b aa o aF vs=>by
  obtain⟨eO,b0,cM⟩:=aR.qO b aa
  rw[aF]at b0
  cases b0
  exact cM vs
 have cF:=aR.held (t':=s.toks) rfl d (fun b aa=>(Dt b aa).2) (fun b aa=>(Dt b aa).1) (fun b aa=>by rw[mem_singleton.mp aa];exact c1.1) (fun b aa=>by rw[mem_singleton.mp aa];exact c1.2.1) fun b aa=>by rw[mem_singleton.mp aa];exact c1.2.2
 exact⟨az,cls,H,rfl,cF.os,cF.bare,cF.base,cF.bC,Ia k3 d (aR.vt rfl) aR.bC Dt aR.qO (by simp),q⟩
def Sw (C:Addr) (E:gh) (bS:TE):d8:=fun _ σ H=>bS σ H fun _ H1=>E (.ref C) none H1
theorem xE {x:Str}{C:Addr}{bm:List Value}{newId S7 B:String}{e:Expr}{bS:TE}{np gn pos:Pos}(YI:excIn K C bm newId=true) (hm:mg x=some (.ref C)) (FB:ExcBaseFacts B newId S7 bm) (cJ:iX (fm (c4 P w) P w K mg base N qual scope f cd A outer s0 dO E) x)
  (he:b4 (fm (c4 P w) P w K mg base N qual scope f cd A outer s0 dO E) e bS) (hd:(x == ("__debug__":Str))=false:=by decide)
  (aS:starEach [e] (fm (c4 P w) P w K mg base N qual scope f cd A outer s0 dO E).env=[(false,eval e (fm (c4 P w) P w K mg base N qual scope f cd A outer s0 dO E).env)]:=by rfl) :
  jg (fm (c4 P w) P w K mg base N qual scope f cd A outer s0 dO E) (.Raise (some (.Call (.Name x np) [e] [] gn)) none pos) (Sw C E bS):=by
 intro pins s σ H D I h
 have O:=SP (bmB:=bm) (newId:=newId) I.ok.mod.sX hm YI
 obtain⟨i_,Y9,nm,q,bs,hdct,sn,sub,ab,col,dd,k0,k1,k2,k3,k5,mN,Xc,e8,WS,T⟩:=O.obj
 refine wpAny_Raise_call_subT (C:=C) (nm:=nm) (q:=q) (N:=Y9) (bs:=bs) (bm:=i_) (hdct:=hdct) (sn:=sn) (sub:=sub) (ab:=ab) (col:=col) (dd:=dd) (k0:=k0) (k1:=k1) (k2:=k2) (k3:=k3) (k5:=k5)
  FB (mN:=mN) (T.hasType FB.hasBase) (I.ok.hd rfl) (by rw[aS];rfl) WS (qH I cJ hm ⟨rfl,?_⟩ hd)
 rw[aS]
 refine Calls.evalArgs_plain ?_
 show wpAny _ _ (spliced [(false,eval e (fm (c4 P w) P w K mg base N qual scope f cd A outer s0 dO E).env)]) _ _ s
 refine Calls.spliced_cons (bV (he pins s σ H _ I h) fun u s1 ⟨v,H1,aR,bx,bw⟩=>?_)
 refine Calls.spliced_nil ⟨rfl,by show 1≤sizeLine;decide,aR.hk _ _ Xc,e8.keeps aR.hk,T.keeps aR.hk,fun h' az aZ=>?_⟩
 exact aR.thrown aZ bw
end
section
variable {P:Program}{w:World}{K:PySem.W.Frag}{mg:Str→Option Value}{base:Heap}
theorem bZ.lC {x qual:Str}{st:Stmt}{f:Addr}{fd:FuncData}{N aB:List Str}{k:Nat}{sp:dg}(F:bZ K x qual st f fd) (S:dE N aB (cT st)) (len:∀vs H Q E,sp vs H Q E→vs.length=aB.length)
  (uO:∀(cg:Value) (A:Around) (outer:List Env) (s:Shared) (H:aj) (vs:List V) (Q:ct) (E:gh),fS k (A.deeper (envOfC qual (cT st) s.heap.objs.size f cg))→sp vs H Q E →
   ∃t,f9 (fm (c4 P w) P w K mg base N qual (cT st) f cg A outer s H E) (h1 st) t∧t { c9:=fun _ af=>Q .cc af,j9:=Q } (start N vs) H):a5 P w K mg base (c4 P w) (k+1) f fd aB sp:=by
 obtain⟨lT,e7,dZ,doc,pm,an,cg,e1,ow,rfl,lk,j4⟩:=F.ex
 exact IT lk j4 S len fun A outer s H vs Q E aI nD=>uO cg A outer s H vs Q E aI nD
end
def yz (X:br) (pp:List (Addr × Obj)) (cs:List (Addr × Str)) (Q:ct):br :=
 { X with bR:=X.bR++pp,dp:=fun e aL=>∃az C r σ H,e=.ref az∧wZ X pp σ H aL az (.ref C)∧cs.lookup C=some r∧Q (.str r) H }
theorem Inv.Tj {X:br}{pp:List (Addr × Obj)}{cs:List (Addr × Str)}{Q:ct}{σ:St}{H:aj}{s:Shared}(I:Inv X pp σ H s):Inv (yz X pp cs Q) [] σ H s :=
 ⟨⟨I.ok.mod,I.ok.kind,I.ok.glob,I.ok.blt,I.ok.above,I.ok.inj,I.ok.has,I.ok.kL,I.ok.hd,I.ok.frames,I.ok.jn,I.ok.lN,I.ok.bs,I.ok.iO,I.ok.jW,I.ok.lx,I.ok.hF,I.ok.jz⟩,I.os,I.bare,I.base,I.loc,I.cell,I.free,I.hq,fun p aD=>I.pin p (by
  have aD:p∈(X.bR++pp)++[]:=aD
  rw[append_nil]at aD
  exact aD),I.bC,I.len⟩
theorem Inv.uL {X:br}{pp pins:List (Addr × Obj)}{cs:List (Addr × Str)}{Q:ct}{σ:St}{H:aj}{s:Shared}(I:Inv (yz X pp cs Q) pins σ H s):Inv X pp σ H s :=
 ⟨⟨I.ok.mod,I.ok.kind,I.ok.glob,I.ok.blt,I.ok.above,I.ok.inj,I.ok.has,I.ok.kL,I.ok.hd,I.ok.frames,I.ok.jn,I.ok.lN,I.ok.bs,I.ok.iO,I.ok.jW,I.ok.lx,I.ok.hF,I.ok.jz⟩,I.os,I.bare,I.base,I.loc,I.cell,I.free,I.hq,fun p aD=>I.pin p (mem_append_left _ aD),I.bC,I.len⟩
theorem TP {X:br}{P:Program}{w:World}{pp:List (Addr × Obj)}{cs:List (Addr × Str)}{Q:ct}{E:gh}(gd:X.prog=P) (hw:X.w=w) (jI:X.ex=[]) (wC:∀c H,E c none H→∃C r,c=.ref C∧cs.lookup C=some r∧Q (.str r) H):Passes (c4 P w) (yz X pp cs Q) E:=by
 subst gd hw
 intro pins σ H s e aL I h
 have Fp:=I.uL
 obtain⟨az,cls,af,rfl,U,q⟩:=Fp.x4 jI h
 obtain⟨C,r,rfl,aI,bN⟩:=wC _ _ q
 exact⟨az,C,r,σ,af,rfl,U,aI,bN⟩
inductive uo (X:br):List ExceptHandler→List (Addr × Str)→Prop where
 | nil:uo X [] []
 | cons {x:Str} {np wd Fc pos:Pos} {r:Str} {k:Nat} {C:Addr} {aS:List ExceptHandler} {cs:List (Addr × Str)} (hm:X.mg x=some (.ref C)) (cJ:iX X x) (hd:(x == ("__debug__":Str))=false) (h:uo X aS cs) :
   uo X (.ExceptHandler (some (.Name x np)) none [.Return (some (.Constant (.str r) k Fc)) wd] pos::aS) ((C,r)::cs)
def UO (Q:ct) (dB:d8):d8:=fun D σ H=>(∀v H,Q v H→D.j9 v H)∧dB D σ H
section
variable {X:br}{pp:List (Addr × Obj)}{σ:St}{H:aj}
structure Lies (X:br) (pp:List (Addr × Obj)) (σ:St) (H:aj) (s1:Shared) (ex:List Addr) (az:Addr) (cls a0:Value) (s:Shared):Prop where
 inv:Inv X pp σ H s
 fs:Heap.FlyingW (hideAll s1.heap (ex++fo X.stack)) X.stack az cls a0 s.heap
 up:s1.heap.UpToSlots s.heap
 eq:∃h',s={ s1 with heap:=h' }
def markX (X:br) (e:Value):br:={ X with A:=X.A.mark (some e),calm:=false }
theorem Inv.uq {e:Value}{s:Shared}(I:Inv X pp σ H s):Inv (markX X e) pp σ H s :=
 ⟨⟨I.ok.mod,I.ok.kind,I.ok.glob,I.ok.blt,I.ok.above,I.ok.inj,I.ok.has,I.ok.kL,(fun z=>absurd (show false=true from z) Bool.false_ne_true),I.ok.frames,I.ok.jn,I.ok.lN,I.ok.bs,I.ok.iO,I.ok.jW,I.ok.lx,I.ok.hF,I.ok.jz⟩,I.os,I.bare,I.base,I.loc,I.cell,I.free,I.hq,I.pin,I.bC,I.len⟩
theorem Inv.qN {e:Value}{s:Shared}(I:Inv (markX X e) pp σ H s) (hd:X.calm=true→X.A.handled=none):Inv X pp σ H s :=
 ⟨⟨I.ok.mod,I.ok.kind,I.ok.glob,I.ok.blt,I.ok.above,I.ok.inj,I.ok.has,I.ok.kL,hd,I.ok.frames,I.ok.jn,I.ok.lN,I.ok.bs,I.ok.iO,I.ok.jW,I.ok.lx,I.ok.hF,I.ok.jz⟩,I.os,I.bare,I.base,I.loc,I.cell,I.free,I.hq,I.pin,I.bC,I.len⟩
theorem Pz {M:Addr}{e0:Env}{outer:List Env}{az C:Addr}{r:Str}{a0:Value}{av:Shared}{ex:List Addr}{OW:Flow→Shared→Prop}{fZ:Value→Shared→Prop}
  (land:∀(xc:Around) (s:Shared) (kv:Unit→Shared→Prop) (pe:Value→Shared→Prop),Lies X pp σ H av ex az (.ref C) a0 s→(∀aL,Lies X pp σ H av ex az (.ref C) a0 aL→kv () aL)→wpAny (model X.prog X.w) xc (setFlight (.ref az) none) kv pe s)
  (fin:∀(bq:St) (s:Shared) (u:Value),Inv X pp bq H s→RelV (.str r) u→OW (.ret u) s) :
  ∀{aS:List ExceptHandler} {cs:List (Addr × Str)},uo X aS cs→(∀p∈cs,exmOne X.K (.ref C) (.ref p.1)=some (C == p.1))→cs.lookup C=some r →
   ∀s,Lies X pp σ H av ex az (.ref C) a0 s→wpAny (model X.prog X.w) X.A (handleBy (.ref az) X.env aS) OW fZ s:=by
 intro aS cs ai
 induction ai with
 | nil=>intro _ aG;cases aG
 | @cons x np wd Fc pos fh k qs aS cs hm wF hd ai dt =>
  intro aZ aG s L
  refine wpAny_handleBy_cons ?_ (by intro q;cases q)
  have I:=L.inv
  refine codeAny_handlers_test ?_
  have cF:Inv (markX X (.ref az)) pp σ H s:=I.uq
  refine qH (X:=markX X (.ref az)) cF wF hm ?_ hd
  have oz:PySem.W.Looks (model X.prog X.w) s.heap (typeOf (.ref az)) (.ref C):=by
   obtain⟨bT,rl,ai⟩:=L.fs.there
   rw[←ai]
   exact (PySem.W.Looks.ld rl).andThen .now
  refine (PySem.W.exm_one (M:=model X.prog X.w) I.fJ oz (aZ _ mem_cons_self)).here ?_
  cases e:C == qs with
  | true =>
   refine codeAny_handlers_suite (land _ s _ _ L fun aL tP=>?_)
   have er:fh=r:=by
    rw[lookup_cons]at aG
    rw[show (C == qs)=true from e]at aG
    exact Option.some.inj aG
   subst er
   have cS:Inv ((markX X (.ref az)).i5 (notedBy (model X.prog X.w) (X.A.mark (some (.ref az))) X.env fun x hK=>cameBackBy (model X.prog X.w) X.A X.env fZ x hK)) pp σ H aL:=(tP.inv.uq).i5 _
   refine bV (aY (dc bg) pp aL σ H { c9:=fun _ _=>False,j9:=fun v af=>v=.str fh∧af=H } cS ⟨rfl,rfl⟩) fun fs s2 jv=>?_
   cases fs with
   | ret u =>
    obtain⟨v,f_,aq,gL,bD,rfl,rfl⟩:=jv
    exact fin f_ s2 u (gL.kB.qN I.ok.hd) bD
   | next=>obtain⟨_,_,_,z⟩:=jv;exact z.elim
   | brk=>obtain⟨_,_,_,z⟩:=jv;exact z.elim
   | cont=>obtain⟨_,_,_,z⟩:=jv;exact z.elim
  | false =>
   refine dt (fun p aD=>aZ p (mem_cons_of_mem _ aD)) ?_ s L
   rw[lookup_cons,show (C == qs)=false from e]at aG
   exact aG
theorem SG {body:List Stmt}{h₀:ExceptHandler}{aS:List ExceptHandler}{cs:List (Addr × Str)}{Q:ct}{dB:d8}{pos:Pos}{e0:Env}{outer:List Env}(jI:X.ex=[]) (hb:X.stack=X.env::X.outer) (hf:X.env.frame=some X.env.locals) (ai:uo X (h₀::aS) cs)
  (aZ:∀p∈cs,∀q∈cs,exmOne X.K (.ref p.1) (.ref q.1)=some (p.1 == q.1))
  (aa:∀pp,f9 (yz X pp cs Q) body dB):jg X (.Try body (h₀::aS) [] [] pos) (UO Q dB):=by
 intro pins s σ H D I h
 obtain⟨l1,h⟩:=h
 refine wpAny_Try_except (wpAny_mono (aa pins [] s σ H D I.Tj h) (fun fs s1 av=>?_) fun e s1 av=>?_)
 ·cases fs with
  | next =>
   obtain⟨fM,H1,aR,bw⟩:=av
   show wpAny _ _ (execs [] X.env) _ _ s1
   exact wpAny_pure ⟨fM,H1,aR.uL,bw⟩
  | brk=>obtain⟨fM,H1,aR,bw⟩:=av;exact⟨fM,H1,aR.uL,bw⟩
  | cont=>obtain⟨fM,H1,aR,bw⟩:=av;exact⟨fM,H1,aR.uL,bw⟩
  | ret u=>obtain⟨v,fM,H1,aR,bD,bw⟩:=av;exact⟨v,fM,H1,aR.uL,bD,bw⟩
 ·obtain⟨az,C,r,fM,H1,rfl,U,aG,q⟩:=av
  obtain⟨aR,zI,c1⟩:=U
  obtain⟨dY,vs,T,kc,aA,a0,g1,g2,g3,jJ,kk,m2,nV,m1,l2,mK,oG,oF,p0⟩:=id zI
  have hex:∀b∈[az,T],X.ff.heap.get? b=none∧H1 b=none:=fun b aa=>by
   rcases mem_cons.mp aa with z | z
   ·rw[z];exact⟨mK,oF⟩
   ·rw[mem_singleton.mp z];exact⟨oG,p0⟩
  have lu:∀b∈[az,T],_:=fun b aa=>c1 b (by
   rcases mem_cons.mp aa with z | z
   ·exact .inl z
   ·exact .inr ⟨dY,vs,g1,g3,by rw[mem_singleton.mp z];exact kk⟩)
  have DG:Heap.FlyingW (hideAll s1.heap ([az,T]++fo X.stack)) X.stack az (.ref C) a0 s1.heap :=
   ⟨fun b o y=>PySem.W.of_hideAll _ y,PySem.W.hideAll_none _ (by simp),aR.xK _,dY,vs,T,kc,aA,g1,⟨g2,jJ⟩,g3,kk,PySem.W.hideAll_none _ (by simp),m2,nV,m1,l2⟩
  have mk:∀s2:Shared,(∃h',s2={ s1 with heap:=h' })→(hideAll s1.heap ([az,T]++fo X.stack)).StaysIn s2.heap→s1.heap.UpToSlots s2.heap→Inv X pins fM H1 s2:=fun s2 ⟨h',aQ⟩ st up=>by
   subst aQ
   have d:=x2 st up fun b aa o aF vs=>by
    obtain⟨eO,b0,cM⟩:=aR.qO b aa
    rw[aF]at b0
    cases b0
    exact cM vs
   exact aR.held (t':=s1.toks) jI d (fun b aa=>(hex b aa).2) (fun b aa=>(hex b aa).1) (fun b aa=>(lu b aa).1) (fun b aa=>(lu b aa).2.1) fun b aa=>(lu b aa).2.2
  have lK:X.A.frames=some (X.env::X.outer):=by rw[←hb];exact aR.ok.frames
  have CM:Heap.FlyingW (hideAll s1.heap ([az,T]++fo X.stack)) (X.env::X.outer) az (.ref C) a0 s1.heap:=by rw[←hb];exact DG
  refine wpAny_looks_onW (L:=X.env.locals) lK hf CM fun dw Ck u_=>?_
  refine wpAny_landsW (s:={ s1 with heap:=dw }) Ck fun gs vM u9=>?_
  have CR:Heap.FlyingW (hideAll s1.heap ([az,T]++fo X.stack)) X.stack az (.ref C) a0 gs:=by
   have z:=vM
   rw[←hb]at z
   exact z
  have Fj:Lies X pins fM H1 s1 [az,T] az (.ref C) a0 { s1 with heap:=gs }:=⟨mk _ ⟨_,rfl⟩ vM.1 (u_.trans u9),CR,u_.trans u9,⟨_,rfl⟩⟩
  refine Pz (M:=az) (e0:=X.env) (outer:=X.outer) (r:=r) (fun xc s2 kv pe L DP=>?_) (fun bq s2 u cF bD=>⟨.str r,bq,H1,cF,bD,l1 _ _ q⟩) ai (fun p aD=>?_) aG _ Fj
  ·refine lands_againW L.fs fun wD vL u7=>DP _ ?_
   obtain⟨h',rfl⟩:=L.eq
   exact⟨mk _ ⟨wD,rfl⟩ vL.1 (L.up.trans u7),vL,L.up.trans u7,⟨wD,rfl⟩⟩
  ·obtain⟨fh,hm⟩:∃fh,(C,fh)∈cs:=by
    refine⟨r,?_⟩
    have:∀{l:List (Addr × Str)},l.lookup C=some r→(C,r)∈l:=by
     intro l
     induction l with
     | nil=>intro z;cases z
     | cons a t dt =>
      intro z
      rw[lookup_cons]at z
      cases y:C == a.1 with
      | true =>
       rw[y]at z
       have dT:a.2=r:=Option.some.inj z
       have d6:C=a.1:=beq_iff_eq.mp y
       rw[←dT,d6]
       exact mem_cons_self
      | false =>
       rw[y]at z
       exact mem_cons_of_mem _ (dt z)
    exact this aG
   exact aZ _ hm p aD
end
theorem GL {H:aj}{a b:Addr}{o u:eU}(h:a≠b):upd (upd H a o) b u=upd (upd H b u) a o:=by
 funext c
 by_cases av:c=b
 ·subst av
  rw[aT,ay (Ne.symm h),aT]
 ·by_cases aC:c=a
  ·subst aC
   rw[ay av,aT,aT]
  ·rw[ay av,ay aC,ay aC,ay av]
def hf (c ao st pu bz:Addr) (room begun bound:Int):List (Str × V) :=
 [("cellar",.ref c),("desk",.ref ao),("room",.int room),("strokes",.ref st),("begins",.int begun),("puts",.ref pu),("takers",.ref bz),("bound",.int bound)]
section
variable (c ao st pu bz:Addr) (room begun bound wX:Int)
theorem t6:(hf c ao st pu bz room begun bound).lookup ("cellar":Str)=some (.ref c):=by kernel_rfl
theorem n7:(hf c ao st pu bz room begun bound).lookup ("desk":Str)=some (.ref ao):=by kernel_rfl
theorem Sb:(hf c ao st pu bz room begun bound).lookup ("room":Str)=some (.int room):=by kernel_rfl
theorem PO:(hf c ao st pu bz room begun bound).lookup ("strokes":Str)=some (.ref st):=by kernel_rfl
theorem Gz:(hf c ao st pu bz room begun bound).lookup ("begins":Str)=some (.int begun):=by kernel_rfl
theorem qJ:(hf c ao st pu bz room begun bound).lookup ("puts":Str)=some (.ref pu):=by kernel_rfl
theorem Gy:(hf c ao st pu bz room begun bound).lookup ("takers":Str)=some (.ref bz):=by kernel_rfl
theorem xJ:(hf c ao st pu bz room begun bound).lookup ("bound":Str)=some (.int bound):=by kernel_rfl
theorem Pf:dM "begins" (.int wX) (hf c ao st pu bz room begun bound)=hf c ao st pu bz room wX bound:=by kernel_rfl
theorem AH:dM "bound" (.int wX) (hf c ao st pu bz room begun bound)=hf c ao st pu bz room begun wX:=by kernel_rfl
end
structure dI where
 h:Addr
 c:Addr
 ce:Addr
 ao:Addr
 pu:Addr
 st:Addr
 bz:Addr
structure uP (x:aE) (aA:List (Key × V)):Prop where
 a:∀z∈x.bQ,∀y∈z.2,dk aA (Sum.inl ((y.1:Nat):Int))=some (.int z.1)
 b:∀k v,dk aA k=some v→∃(p:Nat) (d:Int),k=Sum.inl ((p:Nat):Int)∧v=.int d∧0≤d∧d<x.begun∧(x.isOpen d=true→∃z∈x.bQ,z.1=d∧∃y∈z.2,y.1=p)
abbrev dI.own (a:dI) (pl:List (Int × Addr)):List Addr:=L2.own a.h a.ce a.ao a.pu a.st pl
def ej (H:aj) (a:dI) (lo:Addr) (x:aE):aj:=upd (upd H a.c (.own 0)) a.h (.b2 (a4 a.ce a.ao lo a.pu a.st x.room x.begun))
theorem eW {H:aj}{a:dI}{lo:Addr}{x:aE}{b:Addr}(av:b≠a.h) (aC:b≠a.c):ej H a lo x b=H b:=by
 unfold ej
 rw[ay av,ay aC]
theorem n_ {H:aj}{a:dI}{lo:Addr}{x:aE}:ej H a lo x a.h=some (.b2 (a4 a.ce a.ao lo a.pu a.st x.room x.begun)):=aT
theorem pJ {H:aj}{a:dI}{lo:Addr}{x:aE}(h:a.c≠a.h):ej H a lo x a.c=some (.own 0):=by
 unfold ej
 rw[ay h,aT]
theorem pD {H:aj}{a:dI}{lo:Addr}{x:aE}{b:Addr}{o:eU}(av:b≠a.h) (aC:b≠a.c):upd (ej H a lo x) b o=ej (upd H b o) a lo x:=by
 unfold ej
 rw[GL av.symm,GL aC.symm]
theorem xO {H:aj}{a:dI}{lo:Addr}{x:aE}{o:eU}:ej (upd H a.h o) a lo x=ej H a lo x:=by
 funext b
 by_cases z:b=a.h
 ·subst z
  rw[n_,n_]
 ·by_cases y:b=a.c
  ·subst y
   rw[pJ z,pJ z]
  ·rw[eW z y,eW z y,ay z]
structure ck (aH au:Addr) (H:aj) (a:dI) (lo:Addr) (pl:List (Int × Addr)) (x:aE) (aA:List (Key × V)):Prop where
 c8:bh (ej H a lo x) a.h a.ce a.ao lo a.pu a.st pl x
 bT:∃dx,H a.h=some (.ins au dx (hf a.c a.ao a.st a.pu a.bz x.room x.begun x.bound))
 co:∃dy,H a.c=some (.ins aH dy (kF a.ce lo))
 kt:H a.bz=some (.b2 aA)
 gc:a.c∉a.own pl
 nl:a.c≠lo
 kU:a.bz≠a.pu
 h7:uP x aA
section
variable {aH au:Addr}{H af:aj}{a:dI}{lo lo':Addr}{pl:List (Int × Addr)}{x:aE}{aA:List (Key × V)}
theorem ck.et (A:ck aH au H a lo pl x aA):a.c≠a.h∧a.c≠a.ce∧a.c≠a.ao∧a.c≠a.pu∧a.c≠a.st∧∀z∈pl,z.2≠a.c:=by
 have h:=fun b (aa:b∈a.own pl) (e:a.c=b)=>A.gc (by rw[e];exact aa)
 exact⟨h _ (bh.p_ ..),h _ (bh.qa ..),h _ (bh.tr ..),h _ (bh.mp ..),h _ (bh.ms ..),fun z hz e=>h _ (bh.tp hz ..) e.symm⟩
theorem ck.aN (A:ck aH au H a lo pl x aA):a.ce≠a.h∧a.ao≠a.h∧a.pu≠a.h∧a.st≠a.h∧lo≠a.h∧∀z∈pl,z.2≠a.h:=by
 obtain⟨dF,c_,eb,eS,_,_,_,_,_,_,fj,_,_,_,_,fi⟩:=A.c8.ne
 exact⟨dF.symm,c_.symm,eb.symm,eS.symm,fj,fun z hz=>(fi z hz).1⟩
theorem ck.ai (A:ck aH au H a lo pl x aA):H a.ce=some (.lst (x.d7.map V.int)):=by
 rw[←eW (H:=H) (lo:=lo) (x:=x) A.aN.1 A.et.2.1.symm]
 exact A.c8.ai
theorem ck.hd (A:ck aH au H a lo pl x aA):H a.ao=some (.lst (x.aO.map V.int)):=by
 rw[←eW (H:=H) (lo:=lo) (x:=x) A.aN.2.1 A.et.2.2.1.symm]
 exact A.c8.hd
theorem ck.aD (A:ck aH au H a lo pl x aA):H a.pu=some (.b2 (eN pl)):=by
 rw[←eW (H:=H) (lo:=lo) (x:=x) A.aN.2.2.1 A.et.2.2.2.1.symm]
 exact A.c8.aD
theorem ck.Ce (A:ck aH au H a lo pl x aA) {lo':Addr}{kP:aE}:eX (ej H a lo' kP) H:=fun b xs q=>by
 by_cases z:b=a.h
 ·subst z
  rw[n_]at q
  cases q
 ·by_cases y:b=a.c
  ·subst y
   rw[pJ z]at q
   cases q
  ·rwa [eW z y]at q
theorem ck.toV (A:ck aH au H a lo pl x aA) {lo':Addr}{kP:aE}:eX H (ej H a lo' kP):=fun b xs q=>by
 obtain⟨dx,aJ⟩:=A.bT
 obtain⟨dy,aQ⟩:=A.co
 rw[eW (dv q aJ (fun z=>nomatch z)) (dv q aQ (fun z=>nomatch z))]
 exact q
theorem ck.aG (A:ck aH au H a lo pl x aA):∃xs,H lo=some (.lst xs)∧i4 H x.log xs:=by
 obtain⟨xs,aJ,aQ⟩:=A.c8.aG
 rw[eW A.aN.2.2.2.2.1 A.nl.symm]at aJ
 exact⟨xs,aJ,aQ.mono fun b y q=>q.mono A.Ce⟩
theorem ck.fG (A:ck aH au H a lo pl x aA):∃zs,H a.st=some (.lst zs)∧bE H (x.gA.map dN.D) zs:=by
 obtain⟨zs,aJ,aQ⟩:=A.c8.fG
 rw[eW A.aN.2.2.2.1 A.et.2.2.2.2.1.symm]at aJ
 exact⟨zs,aJ,bE.keep A.Ce _ _ (eH dN.fR _) aQ⟩
theorem Bf {K:aj}(ai:a.c≠a.h) (h:∀b o,b≠a.h→b≠a.c→K b=some o→af b=some o) (aJ:K a.h=some (.b2 (a4 a.ce a.ao lo a.pu a.st x.room x.begun))) (aQ:∀o,K a.c=some o→o=.own 0):bY K (ej af a lo x):=fun b o q=>by
 by_cases z:b=a.h
 ·subst z
  rw[aJ]at q
  rw[n_]
  exact q
 ·by_cases y:b=a.c
  ·subst y
   rw[pJ ai,aQ o q]
  ·rw[eW z y]
   exact h b o z y q
theorem ck.same (A:ck aH au H a lo pl x aA) (s:bY H af):ck aH au af a lo pl x aA:=by
 obtain⟨dx,aJ⟩:=A.bT
 obtain⟨dy,aQ⟩:=A.co
 refine⟨A.c8.same (Bf A.et.1 (fun b o dF c_ q=>s _ _ (by rwa [eW dF c_]at q)) n_ fun o q=>?_),⟨dx,s _ _ aJ⟩,⟨dy,s _ _ aQ⟩,s _ _ A.kt,A.gc,A.nl,A.kU,A.h7⟩
 rw[pJ A.et.1]at q
 exact (Option.some.inj q).symm
theorem bh.setG {h ce ao pu st:Addr}(A:bh H h ce ao lo pu st pl x) {log:List dV}{xs ys:List V}(aJ:H lo=some (.lst xs)) (aQ:i4 H log ys):bh (upd H lo (.lst ys)) h ce ao lo pu st pl { x with log:=log }:=by
 obtain⟨dF,c_,eb,eS,fj,fi,gU,jc,jF,lG,fq,d_,el,gG,h_,np⟩:=A.ne
 have kt:eX H (upd H lo (.lst ys)):=fun b us q=>by
  rw[ay (dv q aJ (fun z=>nomatch z))]
  exact q
 obtain⟨zs,b9,cC⟩:=A.fG
 refine⟨by rw[ay fq.symm];exact A.du,by rw[ay d_.symm];exact A.ai,by rw[ay el.symm];exact A.hd,⟨ys,aT,aQ.mono fun b y q=>q.mono kt⟩,by rw[ay gG.symm];exact A.aD,A.gF,fun i z w p q=>?_,A.bR,⟨zs,by rw[ay h_.symm];exact b9,bE.keep kt _ _ (eH dN.fR _) cC⟩,A.ap,A.nl,A.cd⟩
 obtain⟨us,bw,aU⟩:=A.ah i z w p q
 exact⟨us,by rw[ay (np z (mem_of_getElem? p)).2.2.2.2.2];exact bw,bE.keep kt _ _ (eH iH _) aU⟩
def ob (v:V):dN→hS
 | .line _=>.line v
 | .f6 p n=>.f6 p n
 | .cut k=>.cut (k:Nat)
theorem P1 {s:dN}{v:V}(h:Rep H s.D v):∃y,CU H (ob y s) v∧∀ln,s=.line ln→mq H ln y:=by
 cases s with
 | line ln =>
  obtain⟨c,rF,th,rfl,ai,av,aC⟩:=gk h
  cases av.str_inv
  exact⟨th,⟨c,rfl,ai⟩,fun l e=>by cases e;exact mq.Iz aC⟩
 | f6 p n =>
  obtain⟨c,rF,th,N_,rfl,ai,av,aC,cB⟩:=GR h
  cases av.str_inv
  cases aC.int_inv
  cases cB.int_inv
  exact⟨.cc,⟨c,rfl,ai⟩,fun l e=>by cases e⟩
 | cut k =>
  obtain⟨c,rF,th,rfl,ai,av,aC⟩:=gk h
  cases av.str_inv
  cases aC.int_inv
  exact⟨.cc,⟨c,rfl,ai⟩,fun l e=>by cases e⟩
theorem uP.da (t:uP x aA) (s:dN):uP (x.da s) aA:=by
 refine⟨fun z hz=>t.a z (by rwa [n2]at hz),fun k v e=>?_⟩
 obtain⟨p,d,aJ,aQ,b9,cC,ed⟩:=t.b k v e
 refine⟨p,d,aJ,aQ,b9,by rw[qt];exact cC,fun aF=>?_⟩
 rw[n2]
 refine ed ?_
 unfold aE.isOpen at aF ⊢
 rwa [n2]at aF
theorem Pa (s:dN):(x.da s).bound=x.bound:=by
 unfold aE.bound
 rw[n2]
theorem P0 (s:dN):x.da s={ x with log:=(x.da s).log,d7:=(x.da s).d7,gA:=x.gA++[s] }:=by cases s <;> rfl
theorem P7 (s:dN) (y:V):hS.cu (x.d7.map V.int) (ob y s)=(x.da s).d7.map V.int:=by
 cases s with
 | line ln=>rfl
 | f6 p n=>exact xh ..
 | cut k=>rfl
theorem Qh {s:dN}{y:V}{xs:List V}(cA:∀ln,s=.line ln→mq H ln y) (e:i4 H x.log xs):i4 H (x.da s).log (hS.dU xs (ob y s)):=by
 cases s with
 | line ln=>exact h3.snoc e (cA ln rfl)
 | f6 p n=>exact e
 | cut k =>
  show i4 H (x.log.drop k) (ly xs (some ((k:Nat):Int)) none)
  rw[x3]
  exact e.drop k
theorem ck.RH (A:ck aH au H a lo pl x aA) {s:dN}{v y:V}{xs zs:List V}(aS:s.okIn x) (bA:Rep H s.D v) (cA:∀ln,s=.line ln→mq H ln y) (aJ:H lo=some (.lst xs)) (aQ:i4 H x.log xs) (b9:H a.st=some (.lst zs)) (cC:bE H (x.gA.map dN.D) zs)
  (w_:yo aH af a.c a.ce lo' (hS.cu (x.d7.map V.int) (ob y s)) (hS.dU xs (ob y s))) (lJ:lo'=lo∨H lo'=none) (bK:∀b o,H b=some o→b≠a.c→b≠a.ce→(b≠lo∨lo'≠lo)→af b=some o) :
  ck aH au (upd af a.st (.lst (zs++[v]))) a lo' pl (x.da s) aA:=by
 obtain⟨dF,c_,eb,eS,fj,fi,gU,jc,jF,lG,fq,d_,el,gG,h_,np⟩:=A.c8.ne
 obtain⟨b_,dz,e9,gg,o4,aaZ⟩:=A.et
 obtain⟨dx,bU⟩:=A.bT
 obtain⟨⟨dy,b5⟩,dr,hu,hi⟩:=w_
 rw[P7]at dr
 have dU:=Qh cA aQ
 have Dr:i4 (ej H a lo x) (x.da s).log (hS.dU xs (ob y s)):=dU.mono fun b z q=>q.mono A.toV
 have cl:(x.da s).d7.length=x.aO.length:=by
  rw[←A.c8.cd]
  cases s with
  | line ln=>rfl
  | f6 p n=>exact length_set ..
  | cut k=>rfl
 generalize hS.dU xs (ob y s)=ys at hu dU Dr
 have ll:∀b,H b=none→b≠a.h∧b≠a.c:=fun b aa=>by
  obtain⟨E_,q⟩:=A.co
  exact⟨fun z=>by rw[z,bU]at aa;(cases aa),fun z=>by rw[z,q]at aa;(cases aa)⟩
 have key:∃Fo,bh Fo a.h a.ce a.ao lo' a.pu a.st pl { x with log:=(x.da s).log,d7:=(x.da s).d7 }∧bY Fo (ej af a lo' { x with log:=(x.da s).log,d7:=(x.da s).d7 }):=by
  rcases lJ with z | z
  ·subst z
   have B:=(A.c8.setG (by rw[eW fq A.nl.symm];exact aJ) Dr).setC (c:=(x.da s).d7) cl
   refine⟨_,B,Bf b_ (fun b o en fk q=>?_) ?_ fun o q=>?_⟩
   ·by_cases fe:b=a.ce
    ·subst fe
     rw[aT]at q
     rw[dr]
     exact q
    ·rw[ay fe]at q
     by_cases eL:b=lo'
     ·subst eL
      rw[aT]at q
      rw[hu]
      exact q
     ·rw[ay eL,eW en fk]at q
      exact bK b o q fk fe (.inl eL)
   ·rw[ay dF,ay fq.symm]
    exact n_
   ·rw[ay dz,ay A.nl,pJ b_]at q
    exact (Option.some.inj q).symm
  ·obtain⟨f1,f2⟩:=ll lo' z
   have N7:ej H a lo x lo'=none:=by rw[eW f1 f2];exact z
   have mR:=b3 N7 (.lst ys)
   have B:=((A.c8.same mR).Cr (lo':=lo') aT (Dr.mono fun b w q=>q.mono mR.gC) (A.c8.there N7)).setC (c:=(x.da s).d7) cl
   have zd:lo'≠a.ce:=fun w=>by rw[w,A.ai]at z;cases z
   have KY:lo'≠a.h:=f1
   refine⟨_,B,Bf b_ (fun b o en fk q=>?_) ?_ fun o q=>?_⟩
   ·by_cases fe:b=a.ce
    ·subst fe
     rw[aT]at q
     rw[dr]
     exact q
    ·rw[ay fe,ay en]at q
     by_cases eL:b=lo'
     ·subst eL
      rw[aT]at q
      rw[hu]
      exact q
     ·rw[ay eL,eW en fk]at q
      exact bK b o q fk fe (.inr fun iB=>by rw[iB,aJ]at z;(cases z))
   ·rw[ay dF,aT,Gx]
   ·rw[ay dz,ay b_,ay f2.symm,pJ b_]at q
    exact (Option.some.inj q).symm
 obtain⟨Fo,g9,s1⟩:=key
 have fz:=g9.same s1
 have vj:a.st≠lo:=h_.symm
 have rt:af a.st=some (.lst zs):=bK _ _ b9 o4.symm gU.symm (.inl vj)
 have kt:eX H af:=fun b us q=>by
  obtain⟨E_,w⟩:=A.co
  exact bK b _ q (dv q w (fun z=>nomatch z)) (dv q A.ai (fun z=>nomatch z)) (.inl (dv q aJ (fun z=>nomatch z)))
 have cy:eX af (ej af a lo' { x with log:=(x.da s).log,d7:=(x.da s).d7 }):=fun b us q=>by
  have vh:af a.h=_:=bK _ _ bU b_.symm dF (.inl fq.symm)
  rw[eW (dv q vh (fun z=>nomatch z)) (dv q b5 (fun z=>nomatch z))]
  exact q
 have O2:=fz.Jh (v:=v) (s:=s) (by rw[eW eS.symm o4.symm];exact rt) (bE.keep cy _ _ (eH dN.fR _) (bE.keep kt _ _ (eH dN.fR _) cC)) (Rep.keep cy _ _ (dN.fR _) (Rep.keep kt _ _ (dN.fR _) bA))
 rw[pD eS.symm o4.symm]at O2
 have aM:x.da s={ x with log:=(x.da s).log,d7:=(x.da s).d7,gA:=x.gA++[s] }:=P0 s
 have VU:a.bz≠a.st:=dv A.kt b9 (fun z=>nomatch z)
 refine⟨?_,⟨dx,?_⟩,⟨dy,by rw[ay o4];exact b5⟩,?_,A.gc,?_,A.kU,A.h7.da s⟩
 ·have ev:ej (upd af a.st (.lst (zs++[v]))) a lo' (x.da s)=ej (upd af a.st (.lst (zs++[v]))) a lo' { x with log:=(x.da s).log,d7:=(x.da s).d7 }:=by
   unfold ej
   rw[F0,qt]
  rw[ev,aM]
  exact O2
 ·rw[ay eS,F0,qt,Pa]
  exact bK _ _ bU b_.symm dF (.inl fq.symm)
 ·rw[ay VU]
  obtain⟨E_,w⟩:=A.co
  exact bK _ _ A.kt (dv A.kt w (fun z=>nomatch z)) (dv A.kt A.ai (fun z=>nomatch z)) (.inl (dv A.kt aJ (fun z=>nomatch z)))
 ·rcases lJ with z | z
  ·rw[z];exact A.nl
  ·exact (ll lo' z).2.symm
end
section
variable {aH au:Addr}{H af:aj}{a:dI}{lo lo':Addr}{pl:List (Int × Addr)}{x:aE}{aA:List (Key × V)}
theorem ck.yF (A:ck aH au H a lo pl x aA) {c:List Int}(ai:c.length=x.aO.length):ck aH au (upd H a.ao (.lst (c.map V.int))) a lo pl { x with aO:=c } aA:=by
 obtain⟨dx,bU⟩:=A.bT
 obtain⟨dy,b5⟩:=A.co
 have B:=A.c8.yF ai
 rw[pD A.aN.2.1 A.et.2.2.1.symm]at B
 exact⟨B,⟨dx,by rw[ay A.aN.2.1.symm];exact bU⟩,⟨dy,by rw[ay A.et.2.2.1];exact b5⟩,by rw[ay (dv A.kt A.hd (fun z=>nomatch z))];exact A.kt,A.gc,A.nl,A.kU,⟨A.h7.a,A.h7.b⟩⟩
theorem ck.began (A:ck aH au H a lo pl x aA) {dx:Addr}{b:Int}(aa:b=(x.begun:Int)+1):ck aH au (upd H a.h (.ins au dx (hf a.c a.ao a.st a.pu a.bz x.room b x.bound))) a lo pl x.began aA:=by
 obtain⟨dy,b5⟩:=A.co
 have es:b=((x.begun+1:Nat):Int):=by omega
 have B:=A.c8.setB (n:=x.begun+1) es
 have ev:upd (ej H a lo x) a.h (.b2 (putK (a4 a.ce a.ao lo a.pu a.st x.room x.begun) (Sum.inr "begun") (.int b)))=ej (upd H a.h (.ins au dx (hf a.c a.ao a.st a.pu a.bz x.room b x.bound))) a lo x.began:=by
  rw[F5,xO,es]
  unfold ej
  rw[qE]
  rfl
 rw[ev]at B
 have oW:a.bz≠a.h:=fun z=>by
  obtain⟨E_,w⟩:=A.bT
  have:=A.kt
  rw[z,w]at this
  cases this
 refine⟨B,⟨dx,by rw[aT,es];rfl⟩,⟨dy,by rw[ay A.et.1];exact b5⟩,by rw[ay oW];exact A.kt,A.gc,A.nl,A.kU,⟨A.h7.a,fun k v e=>?_⟩⟩
 obtain⟨p,d,aJ,aQ,b9,cC,ed⟩:=A.h7.b k v e
 exact⟨p,d,aJ,aQ,b9,by show d<((x.begun+1:Nat):Int);omega,ed⟩
theorem ck.nA (A:ck aH au H a lo pl x aA):a.bz≠a.h∧a.bz≠a.c∧a.bz≠a.ce∧a.bz≠a.ao∧a.bz≠a.st∧a.bz≠lo∧∀z∈pl,a.bz≠z.2:=by
 obtain⟨dx,bU⟩:=A.bT
 obtain⟨dy,b5⟩:=A.co
 obtain⟨xs,aJ,_⟩:=A.aG
 obtain⟨zs,aQ,_⟩:=A.fG
 refine⟨dv A.kt bU (fun z=>nomatch z),dv A.kt b5 (fun z=>nomatch z),dv A.kt A.ai (fun z=>nomatch z),dv A.kt A.hd (fun z=>nomatch z),dv A.kt aQ (fun z=>nomatch z),dv A.kt aJ (fun z=>nomatch z),fun z hz=>?_⟩
 obtain⟨i,aW⟩:=List.mem_iff_getElem?.mp hz
 obtain⟨w,ys,_,_,q,_⟩:=A.c8.at_ aW
 rw[eW (A.aN.2.2.2.2.2 z hz) (A.et.2.2.2.2.2 z hz)]at q
 exact dv A.kt q (fun z=>nomatch z)
theorem ck.opened (A:ck aH au H a lo pl x aA) {n dx:Addr}{d b:Int}(aN:H n=none) (hd:x.isOpen d=false) (aa:b=x.bound+1) (aZ:d=(x.begun:Int) - 1) (de:∀k e,dk aA k=some (.int e)→e≠d) :
  ck aH au (upd (upd (upd H n (.lst [])) a.pu (.b2 (putK (eN pl) (Sum.inl d) (.ref n)))) a.h (.ins au dx (hf a.c a.ao a.st a.pu a.bz x.room x.begun b))) a lo (pl++[(d,n)]) x.opened aA:=by
 obtain⟨Oh,bU⟩:=A.bT
 obtain⟨dy,b5⟩:=A.co
 have gT:n≠a.h:=fun z=>by rw[z,bU]at aN;cases aN
 have gc:n≠a.c:=fun z=>by rw[z,b5]at aN;cases aN
 have bA:ej H a lo x n=none:=by rw[eW gT gc];exact aN
 have De:n≠lo:=fun z=>by
  obtain⟨xs,e,_⟩:=A.aG
  rw[z,e]at aN
  cases aN
 have oW:n≠a.bz:=fun z=>by rw[z,A.kt]at aN;cases aN
 have B:=(A.c8.same (b3 bA (.lst []))).opened (d:=d) (a:=n) aT (A.c8.there bA) De hd
 rw[pD gT gc,pD A.aN.2.2.1 A.et.2.2.2.1.symm]at B
 have ev:∀K:aj,ej K a lo x=ej (upd K a.h (.ins au dx (hf a.c a.ao a.st a.pu a.bz x.room x.begun b))) a lo x.opened:=fun K=>by
  rw[xO]
  rfl
 rw[ev]at B
 have es:x.opened.bound=x.bound+1:=by
  show ((x.bQ++[((x.begun:Int) - 1,([]:List (Nat × Int)))]).map fun (z:Int × List (Nat × Int))=>(z.2.length:Int)+1).sum=_
  rw[map_append,List.sum_append]
  rfl
 have cL:x.opened={ x with bQ:=x.bQ++[(d,[])] }:=by rw[aZ];rfl
 rw[←cL]at B
 refine⟨B,⟨dx,by rw[aT,es,←aa];rfl⟩,⟨dy,by rw[ay A.et.1,ay A.et.2.2.2.1,ay gc.symm];exact b5⟩,by rw[ay A.nA.1,ay A.kU,ay oW.symm];exact A.kt,fun hm=>?_,A.nl,A.kU,⟨fun z hz=>?_,fun k v e=>?_⟩⟩
 ·rcases n5.mp hm with z | z | z | z | z | ⟨z,hz,e⟩
  ·exact A.et.1 z
  ·exact A.et.2.1 z
  ·exact A.et.2.2.1 z
  ·exact A.et.2.2.2.1 z
  ·exact A.et.2.2.2.2.1 z
  ·rcases mem_append.mp hz with y | y
   ·exact A.et.2.2.2.2.2 z y e
   ·rw[mem_singleton.mp y]at e
    exact gc e
 ·rw[cL]at hz
  rcases mem_append.mp hz with y | y
  ·exact A.h7.a z y
  ·rw[mem_singleton.mp y]
   intro w hw
   cases hw
 ·obtain⟨p,e0,aJ,aQ,b9,cC,ed⟩:=A.h7.b k v e
  refine⟨p,e0,aJ,aQ,b9,cC,fun aF=>?_⟩
  rw[cL]at aF ⊢
  have ne:e0≠d:=de k e0 (by rw[e,aQ])
  have mE:x.isOpen e0=true:=by
   have:((x.bQ++[(d,([]:List (Nat × Int)))]).any fun z=>z.1 == e0)=true:=aF
   rw[any_append]at this
   rcases Bool.or_eq_true_iff.mp this with y | y
   ·exact y
   ·have kO:(d == e0)=true:=by simpa using y
    exact absurd (beq_iff_eq.mp kO).symm ne
  obtain⟨z,hz,y⟩:=ed mE
  exact⟨z,mem_append_left _ hz,y⟩
theorem ck.ended (A:ck aH au H a lo pl x aA) {dx:Addr}{d b:Int}(aa:b=({ x with bQ:=x.bQ.filter fun z=>z.1 != d }:aE).bound) :
  ck aH au (upd (upd H a.pu (.b2 (lp (eN pl) (Sum.inl d)))) a.h (.ins au dx (hf a.c a.ao a.st a.pu a.bz x.room x.begun b))) a lo (pl.filter fun z=>z.1 != d) { x with bQ:=x.bQ.filter fun z=>z.1 != d } aA:=by
 obtain⟨Oh,bU⟩:=A.bT
 obtain⟨dy,b5⟩:=A.co
 have B:=A.c8.ended d
 rw[pD A.aN.2.2.1 A.et.2.2.2.1.symm]at B
 have ev:∀K:aj,ej K a lo x=ej (upd K a.h (.ins au dx (hf a.c a.ao a.st a.pu a.bz x.room x.begun b))) a lo { x with bQ:=x.bQ.filter fun z=>z.1 != d }:=fun K=>by
  rw[xO]
  rfl
 rw[ev]at B
 refine⟨B,⟨dx,by rw[aT,aa]⟩,⟨dy,by rw[ay A.et.1,ay A.et.2.2.2.1];exact b5⟩,by rw[ay A.nA.1,ay A.kU];exact A.kt,fun hm=>?_,A.nl,A.kU,⟨fun z hz=>A.h7.a z (mem_filter.mp hz).1,fun k v e=>?_⟩⟩
 ·rcases n5.mp hm with z | z | z | z | z | ⟨z,hz,e⟩
  ·exact A.et.1 z
  ·exact A.et.2.1 z
  ·exact A.et.2.2.1 z
  ·exact A.et.2.2.2.1 z
  ·exact A.et.2.2.2.2.1 z
  ·exact A.et.2.2.2.2.2 z (mem_filter.mp hz).1 e
 ·obtain⟨p,e0,aJ,aQ,b9,cC,ed⟩:=A.h7.b k v e
  refine⟨p,e0,aJ,aQ,b9,cC,fun aF=>?_⟩
  have WR:((x.bQ.filter fun z=>z.1 != d).any fun z=>z.1 == e0)=true:=aF
  obtain⟨nN,zr,zx⟩:=any_eq_true.mp WR
  have mE:x.isOpen e0=true:=any_eq_true.mpr ⟨nN,(mem_filter.mp zr).1,zx⟩
  have bk:(nN.1 != d)=true:=(mem_filter.mp zr).2
  obtain⟨z,hz,b0,cM⟩:=ed mE
  refine⟨z,mem_filter.mpr ⟨hz,?_⟩,b0,cM⟩
  rw[b0,←beq_iff_eq.mp zx]
  exact bk
theorem ck.eo (A:ck aH au H a lo pl x aA) {n dx:Addr}{i p:Nat}{d b:Int}{ys:List V}{v:V}(aW:pl[i]?=some (d,n)) (cA:H n=some (.lst ys)) (bA:Rep H (pairD (p,x.aO.getD p 0)) v) (aa:b=(x.eo d p).bound) (h0:0≤d) (av:d<x.begun)
  (ll:∀z∈x.bQ,(∃y∈z.2,y.1=p)→z.1=d) :
  ck aH au (upd (upd (upd H n (.lst (ys++[v]))) a.bz (.b2 (putK aA (Sum.inl ((p:Nat):Int)) (.int d)))) a.h (.ins au dx (hf a.c a.ao a.st a.pu a.bz x.room x.begun b))) a lo pl (x.eo d p) (putK aA (Sum.inl ((p:Nat):Int)) (.int d)):=by
 obtain⟨Oh,bU⟩:=A.bT
 obtain⟨dy,b5⟩:=A.co
 have hm:=mem_of_getElem? aW
 have gT:n≠a.h:=A.aN.2.2.2.2.2 _ hm
 have gc:n≠a.c:=A.et.2.2.2.2.2 _ hm
 have oW:a.bz≠n:=A.nA.2.2.2.2.2.2 _ hm
 have Ws:ej H a lo x n=some (.lst ys):=by rw[eW gT gc];exact cA
 have k6:=A.c8.eo (y:=(p,x.aO.getD p 0)) aW Ws (Rep.keep A.toV _ _ rfl bA)
 rw[pD gT gc]at k6
 have st:bh (ej (upd (upd H n (.lst (ys++[v]))) a.bz (.b2 (putK aA (Sum.inl ((p:Nat):Int)) (.int d)))) a lo x) a.h a.ce a.ao lo a.pu a.st pl (x.eo d p):=by
  rw[←pD A.nA.1 A.nA.2.1]
  obtain⟨t1,ek,t3,Ym,Yl,Yk,Od⟩:=A.nA
  have kt:eX (ej (upd H n (.lst (ys++[v]))) a lo x) (upd (ej (upd H n (.lst (ys++[v]))) a lo x) a.bz (.b2 (putK aA (Sum.inl ((p:Nat):Int)) (.int d)))):=fun b us q=>by
   have a4:ej (upd H n (.lst (ys++[v]))) a lo x a.bz=some (.b2 aA):=by
    rw[eW t1 ek,ay oW]
    exact A.kt
   rw[ay (dv q a4 (fun z=>nomatch z))]
   exact q
  obtain⟨xs,aJ,aQ⟩:=k6.aG
  obtain⟨zs,b9,cC⟩:=k6.fG
  refine⟨by rw[ay t1.symm];exact k6.du,by rw[ay t3.symm];exact k6.ai,by rw[ay Ym.symm];exact k6.hd,⟨xs,by rw[ay Yk.symm];exact aJ,aQ.mono fun b y q=>q.mono kt⟩,by rw[ay A.kU.symm];exact k6.aD,k6.gF,fun i z w bw aU=>?_,k6.bR,⟨zs,by rw[ay Yl.symm];exact b9,bE.keep kt _ _ (eH dN.fR _) cC⟩,k6.ap,k6.nl,k6.cd⟩
  obtain⟨us,fe,eL⟩:=k6.ah i z w bw aU
  exact⟨us,by rw[ay (Od z (mem_of_getElem? bw)).symm];exact fe,bE.keep kt _ _ (eH iH _) eL⟩
 have ev:∀K:aj,ej K a lo x=ej (upd K a.h (.ins au dx (hf a.c a.ao a.st a.pu a.bz x.room x.begun b))) a lo (x.eo d p):=fun K=>by
  rw[xO]
  rfl
 rw[ev]at st
 refine⟨st,⟨dx,by rw[aT,aa];rfl⟩,⟨dy,by rw[ay A.et.1,ay A.nA.2.1.symm,ay gc.symm];exact b5⟩,by rw[ay A.nA.1,aT],A.gc,A.nl,A.kU,⟨fun z hz y cA=>?_,fun k v e=>?_⟩⟩
 ·obtain⟨w,hw,rfl⟩:=mem_map.mp hz
  rw[t8]
  by_cases e:w.1=d
  ·have sZ:y∈w.2++[(p,x.aO.getD p 0)]:=by rw[if_pos e]at cA;exact cA
   have iS:(if w.1=d then (w.1,w.2++[(p,x.aO.getD p 0)]) else w).1=d:=by rw[if_pos e];exact e
   rw[iS]
   by_cases cL:y.1=p
   ·rw[if_pos (by rw[cL])]
   ·have Wt:y∈w.2:=by
     rcases mem_append.mp sZ with dT | dT
     ·exact dT
     ·rw[mem_singleton.mp dT]at cL
      exact absurd rfl cL
    rw[if_neg (fun dT=>cL (by have:=Sum.inl.inj dT;omega)),A.h7.a w hw y Wt,e]
  ·have sZ:y∈w.2:=by rw[if_neg e]at cA;exact cA
   rw[if_neg e]
   have cL:¬y.1=p:=fun dT=>e (ll w hw ⟨y,sZ,dT⟩)
   rw[if_neg (fun dT=>cL (by have:=Sum.inl.inj dT;omega))]
   exact A.h7.a w hw y sZ
 ·rw[t8]at e
  have op:∀e0,(x.eo d p).isOpen e0=x.isOpen e0:=fun e0=>by
   show ((x.bQ.map fun z=>if z.1=d then (z.1,z.2++[(p,x.aO.getD p 0)]) else z).any fun z=>z.1 == e0)=x.bQ.any fun z=>z.1 == e0
   rw[List.any_map]
   congr 1
   funext z
   show ((if z.1=d then (z.1,z.2++[(p,x.aO.getD p 0)]) else z).1 == e0)=(z.1 == e0)
   by_cases y:z.1=d
   ·rw[if_pos y]
   ·rw[if_neg y]
  have grow:∀z∈x.bQ,∃hg∈(x.eo d p).bQ,hg.1=z.1∧(∀y∈z.2,y∈hg.2)∧(z.1=d→(p,x.aO.getD p 0)∈hg.2):=fun z hz=>by
   refine⟨_,mem_map.mpr ⟨z,hz,rfl⟩,?_,fun y cA=>?_,fun y=>?_⟩
   ·by_cases y:z.1=d
    ·rw[if_pos y]
    ·rw[if_neg y]
   ·by_cases w:z.1=d
    ·rw[if_pos w];exact mem_append_left _ cA
    ·rw[if_neg w];exact cA
   ·rw[if_pos y]
    exact mem_append_right _ (mem_singleton.mpr rfl)
  by_cases m3:k=Sum.inl ((p:Nat):Int)
  ·rw[if_pos m3]at e
   cases e
   refine⟨p,d,m3,rfl,h0,av,fun aF=>?_⟩
   rw[op]at aF
   obtain⟨nN,zr,zx⟩:=any_eq_true.mp aF
   obtain⟨hg,g1,g2,g3,jJ⟩:=grow nN zr
   have Ml:=beq_iff_eq.mp zx
   exact⟨hg,g1,g2.trans Ml,_,jJ Ml,rfl⟩
  ·rw[if_neg m3]at e
   obtain⟨rN,e0,aJ,aQ,b9,cC,ed⟩:=A.h7.b k v e
   refine⟨rN,e0,aJ,aQ,b9,cC,fun aF=>?_⟩
   rw[op]at aF
   obtain⟨z,hz,b0,y,cA,cM⟩:=ed aF
   obtain⟨hg,g1,g2,g3,jJ⟩:=grow z hz
   exact⟨hg,g1,g2.trans b0,y,g3 y cA,cM⟩
end
def dI.dJ (a:dI) (lo:Addr) (pl:List (Int × Addr)):List Addr:=lo::a.c::a.bz::a.own pl
structure dP (a:dI) (lo:Addr) (pl:List (Int × Addr)) (lo':Addr) (c3:List (Int × Addr)) (H af:aj):Prop where
 dh:∀b o,b∉a.dJ lo pl→H b=some o→af b=some o
 new:∀b,b∈a.dJ lo' c3→b∈a.dJ lo pl∨H b=none
section
variable {a:dI}{lo lo1 dm:Addr}{pl sV ra:List (Int × Addr)}{H H1 aq:aj}
theorem dP.refl (a:dI) (lo:Addr) (pl:List (Int × Addr)) (H:aj):dP a lo pl lo pl H H:=⟨fun _ _ _ e=>e,fun _ h=>.inl h⟩
theorem bY.moves (s:bY H H1):dP a lo pl lo pl H H1:=⟨fun b o _ e=>s b o e,fun _ h=>.inl h⟩
theorem dP.trans (m:dP a lo pl lo1 sV H H1) (n:dP a lo1 sV dm ra H1 aq):dP a lo pl dm ra H aq:=by
 refine⟨fun b o aa e=>?_,fun b aa=>?_⟩
 ·refine n.dh b o (fun z=>?_) (m.dh b o aa e)
  rcases m.new b z with y | y
  ·exact aa y
  ·rw[e]at y
   cases y
 ·rcases n.new b aa with z | z
  ·exact m.new b z
  ·by_cases y:b∈a.dJ lo pl
   ·exact .inl y
   ·refine .inr ?_
    cases q:H b with
    | none=>rfl
    | some o =>
     rw[m.dh b o y q]at z
     cases z
theorem dP.upd (m:dP a lo pl lo1 sV H H1) {b:Addr}{o:eU}(aa:b∈a.dJ lo1 sV):dP a lo pl lo1 sV H (upd H1 b o):=by
 refine m.trans ⟨fun c u ai e=>?_,fun _ h=>.inl h⟩
 rw[ay (fun z=>ai (by rw[z];exact aa))]
 exact e
theorem sD (a:dI) (lo:Addr) (pl:List (Int × Addr)):lo∈a.dJ lo pl:=mem_cons_self
theorem uN (a:dI) (lo:Addr) (pl:List (Int × Addr)):a.c∈a.dJ lo pl:=mem_cons_of_mem _ mem_cons_self
theorem uE (a:dI) (lo:Addr) (pl:List (Int × Addr)):a.bz∈a.dJ lo pl:=mem_cons_of_mem _ (mem_cons_of_mem _ mem_cons_self)
theorem qI {b:Addr}(h:b∈a.own pl):b∈a.dJ lo pl:=mem_cons_of_mem _ (mem_cons_of_mem _ (mem_cons_of_mem _ h))
theorem pH (a:dI) (lo:Addr) (pl:List (Int × Addr)):a.h∈a.dJ lo pl:=qI (bh.p_ ..)
theorem yk (a:dI) (lo:Addr) (pl:List (Int × Addr)):a.ce∈a.dJ lo pl:=qI (bh.qa ..)
theorem yj (a:dI) (lo:Addr) (pl:List (Int × Addr)):a.ao∈a.dJ lo pl:=qI (bh.tr ..)
theorem uF (a:dI) (lo:Addr) (pl:List (Int × Addr)):a.pu∈a.dJ lo pl:=qI (bh.mp ..)
theorem yh (a:dI) (lo:Addr) (pl:List (Int × Addr)):a.st∈a.dJ lo pl:=qI (bh.ms ..)
theorem yi {z:Int × Addr}(hz:z∈pl) (a:dI) (lo:Addr):z.2∈a.dJ lo pl:=qI (bh.tp hz ..)
variable {aH au:Addr}{x:aE}{aA:List (Key × V)}
theorem ck.yy (A:ck aH au H a lo pl x aA) {b:Addr}{us:List V}(h:H b=some (.tup us)):b∉a.dJ lo pl:=fun aa=>by
 obtain⟨dx,bU⟩:=A.bT
 obtain⟨dy,b5⟩:=A.co
 obtain⟨xs,aJ,_⟩:=A.aG
 rcases mem_cons.mp aa with z | aa
 ·rw[z,aJ]at h;cases h
 ·rcases mem_cons.mp aa with z | aa
  ·rw[z,b5]at h;cases h
  ·rcases mem_cons.mp aa with z | aa
   ·rw[z,A.kt]at h;cases h
   ·exact A.c8.yy (A.toV _ _ h) aa
theorem dP.gC (m:dP a lo pl lo1 sV H H1) (A:ck aH au H a lo pl x aA):eX H H1:=fun b us q=>m.dh b _ (A.yy q) q
end
theorem Rv {K:PySem.W.Frag}{a:Addr}{N:Nat}{g:jO}{dB:d8}{D:Ends}{σ:St}{H:aj}(Pv:Nat→St→aj→Prop) (h0:Pv 0 σ H) (aG:∀i σ H,i≤N→Pv i σ H→∃xs,xs.length=N∧aV K H a xs)
  (aS:∀i x σ H,i<N→(∀xs,aV K H a xs→xs[N - 1 - i]?=some x)→Pv i σ H→g x σ H fun f_ aq=>dB { D with c9:=Pv (i+1),e1:=Pv (i+1),hk:=D.c9 } f_ aq) (hd:∀σ H,Pv N σ H→D.c9 σ H) :
  ∃W:Nat→Nat→St→aj→Prop,(∃m,W 0 m σ H)∧∀i m σ H,W i m σ H →
   ((vS K a N).stop i H∧D.c9 σ H)∨((vS K a N).go i H∧∃M:St→aj→Prop,(∀bq af,M bq af→∃ec,ec<m∧W (i+1) ec bq af)∧∀x af,(vS K a N).pP i H x af→g x σ af fun f_ aq=>dB { D with c9:=M,e1:=M,hk:=D.c9 } f_ aq):=by
 refine⟨fun i m σ H=>m=N - i∧i≤N∧Pv i σ H,⟨N,by simp,zero_le _,h0⟩,?_⟩
 rintro i m σ H ⟨rfl,aW,p⟩
 obtain⟨xs,mY,q⟩:=aG i σ H aW p
 by_cases de:i<N
 ·have cK:N - 1 - i<xs.length:=by omega
  refine .inr ⟨⟨de,xs,xs[N - 1 - i],q,getElem?_eq_getElem cK⟩,Pv (i+1),fun bq af ht=>⟨N - (i+1),by omega,rfl,de,ht⟩,fun x af y=>?_⟩
  obtain⟨e,y⟩:=y
  subst e
  exact aS i x σ _ de y p
 ·have e:i=N:=by omega
  subst e
  exact .inl ⟨rfl,hd σ H p⟩
theorem sum_filter:∀(l:List (Int × List (Nat × Int))) (d:Int),(l.map (·.1)).Nodup→(l.any fun z=>z.1 == d)=true→((l.filter fun z=>z.1 != d).map fun z=>(z.2.length:Int)+1).sum+(((((l.find? fun z=>z.1 == d).map (·.2)).getD []).length:Int)+1)=(l.map fun z=>(z.2.length:Int)+1).sum
 | [],_,_,h=>by cases h
 | z::r,d,bk,h=>by
  rw[map_cons,nodup_cons]at bk
  by_cases e:z.1=d
  ·have aI:(r.filter fun y=>y.1 != d)=r:=List.filter_eq_self.mpr fun y cA=>by
    have:y.1≠d:=fun w=>bk.1 (by rw[e,←w];exact mem_map.mpr ⟨y,cA,rfl⟩)
    simpa using this
   rw[List.filter_cons_of_neg (by simp[e]),aI,find?_cons_of_pos (by simp[e]),map_cons,sum_cons]
   show _+((z.2.length:Int)+1)=_
   omega
  ·have h':(r.any fun z=>z.1 == d)=true:=by
    rw[any_cons]at h
    have:(z.1 == d)=false:=by simpa using e
    rw[this,Bool.false_or]at h
    exact h
   have dt:=sum_filter r d bk.2 h'
   rw[List.filter_cons_of_pos (by simp[e]),find?_cons_of_neg (by simp[e]),map_cons,map_cons,sum_cons,sum_cons]
   omega
theorem QB {x:aE}{d:Int}(bk:(x.bQ.map (·.1)).Nodup) (aF:x.isOpen d=true):({ x with bQ:=x.bQ.filter fun z=>z.1 != d }:aE).bound=x.bound - (((x.ef d).length:Int)+1):=by
 have:=sum_filter x.bQ d bk aF
 show ((x.bQ.filter fun z=>z.1 != d).map fun z=>(z.2.length:Int)+1).sum=(x.bQ.map fun z=>(z.2.length:Int)+1).sum - (((((x.bQ.find? fun z=>z.1 == d).map (·.2)).getD []).length:Int)+1)
 omega
theorem GP (y:Nat × Int):∀(l:List (Int × List (Nat × Int))) (d:Int),(l.map (·.1)).Nodup→(l.any fun z=>z.1 == d)=true→((l.map fun z=>if z.1=d then (z.1,z.2++[y]) else z).map fun z=>(z.2.length:Int)+1).sum=(l.map fun z=>(z.2.length:Int)+1).sum+1
 | [],_,_,h=>by cases h
 | z::r,d,bk,h=>by
  rw[map_cons,nodup_cons]at bk
  rw[map_cons,map_cons,map_cons,sum_cons,sum_cons]
  by_cases e:z.1=d
  ·have aI:(r.map fun z=>if z.1=d then (z.1,z.2++[y]) else z)=r:=by
    have:∀w∈r,(if w.1=d then (w.1,w.2++[y]) else w)=w:=fun w hw=>if_neg fun q=>bk.1 (by rw[e,←q];exact mem_map.mpr ⟨w,hw,rfl⟩)
    rw[List.map_congr_left this,List.map_id']
   rw[aI,if_pos e]
   show ((z.2++[y]).length:Int)+1+_=_
   rw[length_append,length_singleton]
   omega
  ·have h':(r.any fun z=>z.1 == d)=true:=by
    rw[any_cons]at h
    have:(z.1 == d)=false:=by simpa using e
    rw[this,Bool.false_or]at h
    exact h
   rw[GP y r d bk.2 h',if_neg e]
   omega
theorem PX {x:aE}{d:Int}{p:Nat}(bk:(x.bQ.map (·.1)).Nodup) (aF:x.isOpen d=true):(x.eo d p).bound=x.bound+1:=GP _ x.bQ d bk aF
def ea (aB:List Int) (room:Int):aE:={ d7:=aB,aO:=aB,log:=[],bQ:=[],room:=room,begun:=0,gA:=[] }
theorem ck.init {aH au dx dy:Addr}{H:aj}{a:dI}{lo:Addr}{aB:List Int}{room:Int}(bU:H a.h=some (.ins au dx (hf a.c a.ao a.st a.pu a.bz room 0 0))) (b5:H a.c=some (.ins aH dy (kF a.ce lo))) (aJ:H a.ce=some (.lst (aB.map V.int))) (aQ:H lo=some (.lst []))
  (b9:H a.ao=some (.lst (aB.map V.int))) (cC:H a.st=some (.lst [])) (ed:H a.pu=some (.b2 [])) (kp:H a.bz=some (.b2 [])) (dF:a.ce≠a.ao) (c_:a.ce≠a.st) (eb:a.ao≠a.st) (eS:lo≠a.ce) (fj:lo≠a.ao) (fi:lo≠a.st) (gU:a.bz≠a.pu) (jc:a.c≠a.h) :
  ck aH au H a lo [] (ea aB room) []:=by
 have k1:a.ce≠a.h:=dv aJ bU (fun z=>nomatch z)
 have k2:a.ao≠a.h:=dv b9 bU (fun z=>nomatch z)
 have k3:a.st≠a.h:=dv cC bU (fun z=>nomatch z)
 have nU:a.pu≠a.h:=dv ed bU (fun z=>nomatch z)
 have k5:lo≠a.h:=dv aQ bU (fun z=>nomatch z)
 have b_:a.ce≠a.c:=dv aJ b5 (fun z=>nomatch z)
 have dz:a.ao≠a.c:=dv b9 b5 (fun z=>nomatch z)
 have e9:a.st≠a.c:=dv cC b5 (fun z=>nomatch z)
 have gg:a.pu≠a.c:=dv ed b5 (fun z=>nomatch z)
 have o4:lo≠a.c:=dv aQ b5 (fun z=>nomatch z)
 have cp:a.pu≠a.ce:=dv ed aJ (fun z=>nomatch z)
 have cI:a.pu≠a.ao:=dv ed b9 (fun z=>nomatch z)
 have j_:a.pu≠a.st:=dv ed cC (fun z=>nomatch z)
 have mW:a.pu≠lo:=dv ed aQ (fun z=>nomatch z)
 have bk:(a.own []).Nodup:=by
  show (a.h::a.ce::a.ao::a.pu::a.st::[]).Nodup
  simp[k1.symm,k2.symm,nU.symm,k3.symm,dF,cp.symm,c_,cI.symm,eb,j_]
 have nl:lo∉a.own []:=by
  show lo∉(a.h::a.ce::a.ao::a.pu::a.st::[])
  simp[k5,eS,fj,mW.symm,fi]
 refine⟨⟨n_,?_,?_,⟨[],?_,.nil⟩,?_,rfl,fun i z w h=>(by cases h),nodup_nil,⟨[],?_,.nil⟩,bk,nl,rfl⟩,⟨dx,bU⟩,⟨dy,b5⟩,kp,?_,o4.symm,gU,⟨fun z hz=>(by cases hz),fun k v e=>(by rw[GJ]at e;cases e)⟩⟩
 ·rw[eW k1 b_];exact aJ
 ·rw[eW k2 dz];exact b9
 ·rw[eW k5 o4];exact aQ
 ·rw[eW nU gg];exact ed
 ·rw[eW k3 e9];exact cC
 ·show a.c∉(a.h::a.ce::a.ao::a.pu::a.st::[])
  simp[jc,b_.symm,dz.symm,gg.symm,e9.symm]
theorem ck.sl {aH au:Addr}{H:aj}{a:dI}{lo b:Addr}{pl:List (Int × Addr)}{x:aE}{aA:List (Key × V)}{o:eU}{us:List V}(A:ck aH au H a lo pl x aA) (aa:b∉a.dJ lo pl) (e:H b=some (.lst us)):ck aH au (upd H b o) a lo pl x aA:=by
 have n:∀c,c∈a.dJ lo pl→c≠b:=fun c ai z=>aa (by rw[←z];exact ai)
 have gT:=n _ (pH a lo pl)
 have gc:=n _ (uN a lo pl)
 obtain⟨dx,bU⟩:=A.bT
 obtain⟨dy,b5⟩:=A.co
 have kt:eX (ej H a lo x) (upd (ej H a lo x) b o):=fun c ys q=>by
  rw[ay (dv q (show ej H a lo x b=some (.lst us) by rw[eW gT.symm gc.symm];exact e) (fun z=>nomatch z))]
  exact q
 obtain⟨xs,cz,cY⟩:=A.c8.aG
 obtain⟨zs,nT,jH⟩:=A.c8.fG
 refine⟨?_,⟨dx,by rw[ay gT];exact bU⟩,⟨dy,by rw[ay gc];exact b5⟩,by rw[ay (n _ (uE a lo pl))];exact A.kt,A.gc,A.nl,A.kU,A.h7⟩
 rw[←pD gT.symm gc.symm]
 refine⟨by rw[ay gT];exact A.c8.du,by rw[ay (n _ (yk a lo pl))];exact A.c8.ai,by rw[ay (n _ (yj a lo pl))];exact A.c8.hd,⟨xs,by rw[ay (n _ (sD a lo pl))];exact cz,cY.mono fun c y q=>q.mono kt⟩,by rw[ay (n _ (uF a lo pl))];exact A.c8.aD,A.c8.gF,fun i z w bw aU=>?_,A.c8.bR,⟨zs,by rw[ay (n _ (yh a lo pl))];exact nT,bE.keep kt _ _ (eH dN.fR _) jH⟩,A.c8.ap,A.c8.nl,A.c8.cd⟩
 obtain⟨ys,fe,eL⟩:=A.c8.ah i z w bw aU
 exact⟨ys,by rw[ay (n _ (yi (mem_of_getElem? bw) a lo))];exact fe,bE.keep kt _ _ (eH iH _) eL⟩
theorem A5 {aB:List Int}{room:Int}(av:1≤aB.length) (aC:aB.length≤100):(ea aB room).good 0 :=
 ⟨av,aC,fun z hz=>(by cases hz),le_refl _,le_refl _,le_refl _,fun z hz=>(by cases hz)⟩
theorem FI (x:aE) (e:cZ):(x.bX e).1.begun≤x.begun+1:=by
 unfold aE.bX
 cases x.refusal e with
 | some w=>exact le_succ _
 | none =>
  cases e with
  | begin =>
   show (if (x.began.full 1).2=true then ((x.began.full 1).1,dn.word "no room") else ((x.began.full 1).1.opened,.num x.begun)).1.begun≤_
   have aJ:(x.began.full 1).1.begun=x.begun+1:=ph
   split
   ·exact le_of_eq aJ
   ·exact le_of_eq aJ
  | put d p n =>
   show (if (x.full 2).2=true then ((x.full 2).1,dn.word "no room") else ((((x.full 2).1.eo d p.toNat).putIn d p.toNat n),.word "done")).1.begun≤_
   have aJ:(x.full 2).1.begun=x.begun:=ph
   split
   ·show (x.full 2).1.begun≤_
    omega
   ·show (x.full 2).1.begun≤_
    omega
  | fin d=>exact le_succ _
  | drop d =>
   show (x.hD d).begun≤_
   rw[k9,AE]
   exact le_succ _
  | look p=>exact le_succ _
  | carry p =>
   show (x.gB p.toNat).begun≤_
   rw[AD]
   exact le_succ _
  | cut =>
   show x.f5.begun≤_
   rw[AI]
   exact le_succ _
theorem tV (x:aE) (e:cZ):(∃i,(x.bX e).2=.num i)∨(x.bX e).2=.word "done"∨(x.bX e).2=.word "no dealing"∨(x.bX e).2=.word "no page"∨(x.bX e).2=.word "taken"∨(x.bX e).2=.word "no room":=by
 unfold aE.bX
 cases h:x.refusal e with
 | some w =>
  have hw:w="no dealing"∨w="no page"∨w="taken":=by
   cases e with
   | begin=>cases h
   | cut=>cases h
   | fin d =>
    have h':(if x.isOpen d=false then some ("no dealing":Str) else none)=some w:=h
    split at h'
    ·exact .inl (Option.some.inj h').symm
    ·cases h'
   | drop d =>
    have h':(if x.isOpen d=false then some ("no dealing":Str) else none)=some w:=h
    split at h'
    ·exact .inl (Option.some.inj h').symm
    ·cases h'
   | look p =>
    have h':(if p<0∨(x.aO.length:Int)≤p then some ("no page":Str) else none)=some w:=h
    split at h'
    ·exact .inr (.inl (Option.some.inj h').symm)
    ·cases h'
   | carry p =>
    have h':(if p<0∨(x.aO.length:Int)≤p then some ("no page":Str) else none)=some w:=h
    split at h'
    ·exact .inr (.inl (Option.some.inj h').symm)
    ·cases h'
   | put d p n =>
    have h':(if x.isOpen d=false then some ("no dealing":Str) else if p<0∨(x.aO.length:Int)≤p then some ("no page":Str) else if x.eK p.toNat=none∨x.eK p.toNat=some d then none else some ("taken":Str))=some w:=h
    split at h'
    ·exact .inl (Option.some.inj h').symm
    ·split at h'
     ·exact .inr (.inl (Option.some.inj h').symm)
     ·split at h'
      ·cases h'
      ·exact .inr (.inr (Option.some.inj h').symm)
  rcases hw with z | z | z
  ·rw[z];exact .inr (.inr (.inl rfl))
  ·rw[z];exact .inr (.inr (.inr (.inl rfl)))
  ·rw[z];exact .inr (.inr (.inr (.inr (.inl rfl))))
 | none =>
  cases e with
  | begin =>
   show (∃i,(if (x.began.full 1).2=true then ((x.began.full 1).1,dn.word "no room") else ((x.began.full 1).1.opened,.num x.begun)).2=.num i)∨_
   show (∃i,(if (x.began.full 1).2=true then ((x.began.full 1).1,dn.word "no room") else ((x.began.full 1).1.opened,.num x.begun)).2=.num i)∨(if (x.began.full 1).2=true then ((x.began.full 1).1,dn.word "no room") else ((x.began.full 1).1.opened,.num x.begun)).2=.word "done"∨_∨_∨_∨(if (x.began.full 1).2=true then ((x.began.full 1).1,dn.word "no room") else ((x.began.full 1).1.opened,.num x.begun)).2=.word "no room"
   split
   ·exact .inr (.inr (.inr (.inr (.inr rfl))))
   ·exact .inl ⟨_,rfl⟩
  | put d p n =>
   show (∃i,(if (x.full 2).2=true then ((x.full 2).1,dn.word "no room") else ((((x.full 2).1.eo d p.toNat).putIn d p.toNat n),.word "done")).2=.num i)∨(if (x.full 2).2=true then ((x.full 2).1,dn.word "no room") else ((((x.full 2).1.eo d p.toNat).putIn d p.toNat n),.word "done")).2=.word "done"∨_∨_∨_∨(if (x.full 2).2=true then ((x.full 2).1,dn.word "no room") else ((((x.full 2).1.eo d p.toNat).putIn d p.toNat n),.word "done")).2=.word "no room"
   split
   ·exact .inr (.inr (.inr (.inr (.inr rfl))))
   ·exact .inr (.inl rfl)
  | fin d=>exact .inr (.inl rfl)
  | drop d=>exact .inr (.inl rfl)
  | look p=>exact .inl ⟨_,rfl⟩
  | carry p=>exact .inr (.inl rfl)
  | cut=>exact .inr (.inl rfl)
theorem bh.sl {H:aj}{h ce ao lo pu st b:Addr}{pl:List (Int × Addr)}{x:aE}{o:eU}{us:List V}(A:bh H h ce ao lo pu st pl x) (aa:b∉own h ce ao pu st pl) (aG:b≠lo) (e:H b=some (.lst us)):bh (upd H b o) h ce ao lo pu st pl x:=by
 have n:∀c,c∈own h ce ao pu st pl→c≠b:=fun c ai z=>aa (by rw[←z];exact ai)
 have kt:eX H (upd H b o):=fun c ys q=>by
  rw[ay (dv q e (fun z=>nomatch z))]
  exact q
 obtain⟨xs,cz,cY⟩:=A.aG
 obtain⟨zs,nT,jH⟩:=A.fG
 refine⟨by rw[ay (n _ (bh.p_ ..))];exact A.du,by rw[ay (n _ (bh.qa ..))];exact A.ai,by rw[ay (n _ (bh.tr ..))];exact A.hd,⟨xs,by rw[ay aG.symm];exact cz,cY.mono fun c y q=>q.mono kt⟩,by rw[ay (n _ (bh.mp ..))];exact A.aD,A.gF,fun i z w bw aU=>?_,A.bR,⟨zs,by rw[ay (n _ (bh.ms ..))];exact nT,bE.keep kt _ _ (eH dN.fR _) jH⟩,A.ap,A.nl,A.cd⟩
 obtain⟨ys,fe,eL⟩:=A.ah i z w bw aU
 exact⟨ys,by rw[ay (n _ (bh.tp (mem_of_getElem? bw) ..))];exact fe,bE.keep kt _ _ (eH iH _) eL⟩
def ni (n:Nat):List cZ:=(List.range n).map fun (i:Nat)=>cZ.look (i:Int)
theorem PM (n:Nat):ni (n+1)=ni n++[cZ.look (n:Int)]:=by
 unfold ni
 rw[List.range_succ,map_append]
 rfl
theorem FP (n:Nat):(ni n).length=n:=by
 unfold ni
 rw[length_map,List.length_range]
theorem PT {n:Nat}{bS:TE}{bq:St}{Q:ct}{H:aj}{acc:Addr}(h0:H acc=none) (aN:n≤1000)
  (he:∀(i:Nat) a3 (k:ct),i<n→(∀t,a3 t=none→k (.ref t) (upd a3 t (.tup [.str "look",.int (i:Int)])))→bS (some (.int (0+(i:Int)))::bq) a3 k)
  (q:∀(ys:List V) (af:aj),bY H af→af acc=some (.lst ys)→bE af ((ni n).map cZ.D) ys→Q (.ref acc) af):qS (p6 0 n) bS bq Q H acc:=by
 refine⟨n,fun i ys aq=>i≤n∧ys.length=i∧bE aq ((ni i).map cZ.D) ys∧bY H aq∧aq acc=some (.lst ys),⟨zero_le _,rfl,.nil,b3 h0 _,aT⟩,?_⟩
 rintro i ys aq ⟨aW,aG,rS,cV,eg⟩
 by_cases de:i<n
 ·refine .inr ⟨de,de,?_⟩
  rintro v a3 ⟨rfl,rfl⟩
  refine he i _ _ de fun t bG=>?_
  have s4:=b3 bG (.tup [.str "look",.int (i:Int)])
  have cC:(upd a3 t (.tup [.str "look",.int (i:Int)])) t=some (.tup [.str "look",.int (i:Int)]):=aT
  generalize upd a3 t (.tup [.str "look",.int (i:Int)])=c6 at s4 cC ⊢
  have kt:eX c6 (upd c6 acc (.lst (ys++[.ref t]))):=fun c zs q=>by
   rw[ay (dv q (s4 _ _ eg) (fun z=>nomatch z))]
   exact q
  refine⟨s4 _ _ eg,lt_of_le_of_lt (by omega:ys.length≤1000) (by decide),de,by rw[length_append,aG];rfl,?_,(cV.trans s4).iZ h0,aT⟩
  rw[PM,map_append]
  refine (bE.keep kt _ _ (eH cZ.fR _) (bE.mono s4 _ _ rS)).append (.cons ?_ .nil)
  exact Rep.f3 (kt _ _ cC) (.cons .ofStr (.cons .ofInt .nil))
 ·have e:i=n:=by omega
  subst e
  exact .inl ⟨le_refl _,q ys aq cV eg rS⟩
theorem AR (H:aj):∀l:List dn,bE H (l.map dn.D) (l.map dn.v)
 | []=>.nil
 | .num i::r=>.cons .ofInt (AR H r)
 | .word x::r=>.cons .ofStr (AR H r)
theorem GO:∀l:List dn,e6 (l.map dn.D)≤l.length
 | []=>by rw[map_nil,ma];exact zero_le _
 | a::r=>by
  have av:=GO r
  have aC:a.D.ez≤1:=by cases a <;> simp only[dn.D,qK,sz] <;> omega
  rw[map_cons,l9,length_cons]
  omega
def yC (X:br) (pp:List (Addr × Obj)) (G:Addr→aj→Prop):br :=
 { X with bR:=X.bR++pp,dp:=fun e aL=>∃az C σ H,e=.ref az∧wZ X pp σ H aL az (.ref C)∧G C H }
section
variable {X:br}{pp pins:List (Addr × Obj)}{G:Addr→aj→Prop}{σ:St}{H:aj}{s:Shared}
theorem Inv.Sj (I:Inv X pp σ H s):Inv (yC X pp G) [] σ H s :=
 ⟨⟨I.ok.mod,I.ok.kind,I.ok.glob,I.ok.blt,I.ok.above,I.ok.inj,I.ok.has,I.ok.kL,I.ok.hd,I.ok.frames,I.ok.jn,I.ok.lN,I.ok.bs,I.ok.iO,I.ok.jW,I.ok.lx,I.ok.hF,I.ok.jz⟩,I.os,I.bare,I.base,I.loc,I.cell,I.free,I.hq,fun p aD=>I.pin p (by
  have aD:p∈(X.bR++pp)++[]:=aD
  rw[append_nil]at aD
  exact aD),I.bC,I.len⟩
theorem Inv.uB (I:Inv (yC X pp G) pins σ H s):Inv X pp σ H s :=
 ⟨⟨I.ok.mod,I.ok.kind,I.ok.glob,I.ok.blt,I.ok.above,I.ok.inj,I.ok.has,I.ok.kL,I.ok.hd,I.ok.frames,I.ok.jn,I.ok.lN,I.ok.bs,I.ok.iO,I.ok.jW,I.ok.lx,I.ok.hF,I.ok.jz⟩,I.os,I.bare,I.base,I.loc,I.cell,I.free,I.hq,fun p aD=>I.pin p (mem_append_left _ aD),I.bC,I.len⟩
theorem Iu {P:Program}{w:World}{E:gh}(gd:X.prog=P) (hw:X.w=w) (jI:X.ex=[]) (wC:∀c H,E c none H→∃C,c=.ref C∧G C H):Passes (c4 P w) (yC X pp G) E:=by
 subst gd hw
 intro pins σ H s e aL I h
 have Fp:=I.uB
 obtain⟨az,cls,af,rfl,U,q⟩:=Fp.x4 jI h
 obtain⟨C,rfl,bN⟩:=wC _ _ q
 exact⟨az,C,σ,af,rfl,U,bN⟩
def rz (X:br) (az:Addr) (dY:Obj) (pp:List (Addr × Obj)) (W:Value→Shared→Prop):br :=
 { X with A:=X.A.mark (some (.ref az)),calm:=false,bR:=(X.bR++pp)++[(az,dY)],dp:=W }
theorem Inv.Uo {az:Addr}{dY:Obj}{W:Value→Shared→Prop}(I:Inv X pp σ H s) (h:s.heap.get? az=some dY∧H az=none∧az≠X.env.locals∧az∉X.bF∧∀v,dY.data≠.cell v):Inv (rz X az dY pp W) [] σ H s :=
 ⟨⟨I.ok.mod,I.ok.kind,I.ok.glob,I.ok.blt,I.ok.above,I.ok.inj,I.ok.has,I.ok.kL,(fun z=>absurd (show false=true from z) Bool.false_ne_true),I.ok.frames,I.ok.jn,I.ok.lN,I.ok.bs,I.ok.iO,I.ok.jW,I.ok.lx,I.ok.hF,I.ok.jz⟩,I.os,I.bare,I.base,I.loc,I.cell,I.free,I.hq,fun p aD=>by
  have aD:p∈((X.bR++pp)++[(az,dY)])++[]:=aD
  rw[append_nil]at aD
  rcases mem_append.mp aD with z | z
  ·exact I.pin p z
  ·rw[mem_singleton.mp z]
   exact h,I.bC,I.len⟩
theorem Inv.yI {az:Addr}{dY:Obj}{W:Value→Shared→Prop}(I:Inv (rz X az dY pp W) pins σ H s) (hd:X.calm=true→X.A.handled=none):Inv X pp σ H s :=
 ⟨⟨I.ok.mod,I.ok.kind,I.ok.glob,I.ok.blt,I.ok.above,I.ok.inj,I.ok.has,I.ok.kL,hd,I.ok.frames,I.ok.jn,I.ok.lN,I.ok.bs,I.ok.iO,I.ok.jW,I.ok.lx,I.ok.hF,I.ok.jz⟩,I.os,I.bare,I.base,I.loc,I.cell,I.free,I.hq,fun p aD=>I.pin p (mem_append_left _ (mem_append_left _ aD)),I.bC,I.len⟩
theorem Inv.gone {i:Nat}{n:Str}{m:Str→Option Value}{v:Option Value}{h':Heap}{t':Nat}(I:Inv X pins σ H s) (e8:X.N.Nodup) (aW:X.N[i]?=some n)
  (aG:∀(j:Nat) (x:Str) (w:V),X.N[j]?=some x→σ[j]?=some (some w)→zL X.env.scope x→∃u,RelV w u∧Look X.env s.heap m x u) (aN:s.heap.Ns X.env.locals m)
  (mF:h'.Ns X.env.locals (fun x=>if x=n then v else m x)) (aS:Heap.SameBut X.env.locals s.heap h'):Inv X pins (σ.set i none) H { s with heap:=h',toks:=t' }:=by
 have zD:i<σ.length:=by rw[I.len];exact (List.getElem?_eq_some_iff.mp aW).1
 have kK:=I.kK
 have tracked:ep X.prog X.w H h':=fun b bT e=>by
  refine (I.bC b bT e).iJ (fun c d5 ai q=>(aS.2 c ?_).trans q) (fun _ q=>q) fun _ _ q=>q
  rintro rfl
  rcases ai with rfl | ai
  ·rw[I.free]at e;cases e
  ·rw[I.free]at ai;cases ai
 refine⟨I.ok,I.os,I.bare,⟨fun b o e n aa aZ=>?_,fun b o e n aa aZ=>?_,I.base.free,fun b o e aZ=>?_,I.base.nq,I.base.ml,I.base.nt⟩,⟨_,mF,fun j y v9 aJ aQ b9=>?_⟩,fun y c e=>?_,I.free,I.hq,fun p aD=>?_,tracked,by simpa using I.len⟩
 ·exact (aS.2 b (ne_of_lt (lt_of_lt_of_le (lt_size e) I.ok.above))).trans (I.base.keep b o e n aa aZ)
 ·obtain⟨dC,aJ⟩:=I.base.slot b o e n aa aZ
  exact⟨dC,(aS.2 b (ne_of_lt (lt_of_lt_of_le (lt_size e) I.ok.above))).trans aJ⟩
 ·obtain⟨eO,aJ⟩:=I.base.there b o e aZ
  exact⟨eO,(aS.2 b (ne_of_lt (lt_of_lt_of_le (lt_size e) I.ok.above))).trans aJ⟩
 ·by_cases cK:j=i
  ·subst cK
   rw[List.getElem?_set_self zD]at aQ
   cases aQ
  ·rw[List.getElem?_set_ne (Ne.symm cK)]at aQ
   obtain⟨lR,fh,q⟩:=aG j y v9 aJ aQ b9
   refine⟨lR,fh,?_⟩
   rcases q with ⟨k,e⟩ | ⟨k,c,e,z⟩
   ·refine .inl ⟨k,?_⟩
    have:y≠n:=fun e=>cK (A3 e8 aJ (e ▸ aW))
    simp[this,e]
   ·exact .inr ⟨k,c,e,z.sameBut aS (kK y c e)⟩
 ·obtain⟨d5,z⟩:=I.cell y c e
  exact⟨d5,z.sameBut aS (kK y c e)⟩
 ·obtain⟨e,n,ne,jE,d⟩:=I.pin p aD
  exact⟨(aS.2 p.1 ne).trans e,n,ne,jE,d⟩
end
def Ends.as (D:Ends) (i:Nat):Ends:={ c9:=fun σ H=>D.c9 (σ.set i none) H,j9:=D.j9,hk:=fun σ H=>D.hk (σ.set i none) H,e1:=fun σ H=>D.e1 (σ.set i none) H }
inductive qD (X:br) (jZ:Addr→Prop):List ExceptHandler→List (Addr × (Addr→d8))→Prop where
 | nil:qD X jZ [] []
 | cons {x:Str} {np pos:Pos} {jf:Stmt} {ss:List Stmt} {aA:d8} {C:Addr} {aS:List ExceptHandler} {cs:List (Addr × (Addr→d8))} (hm:X.mg x=some (.ref C)) (cJ:iX X x) (hd:(x == ("__debug__":Str))=false)
   (aa:∀(e:Value) (W:Value→Shared→Prop),f9 ((markX X e).i5 W) (jf::ss) aA) (h:qD X jZ aS cs):qD X jZ (.ExceptHandler (some (.Name x np)) none (jf::ss) pos::aS) ((C,fun _=>aA)::cs)
 | as {x n:Str} {np pos:Pos} {i:Nat} {jf:Stmt} {ss:List Stmt} {aA:Addr→Addr→d8} {C:Addr} {aS:List ExceptHandler} {cs:List (Addr × (Addr→d8))} (hm:X.mg x=some (.ref C)) (cJ:iX X x) (hd:(x == ("__debug__":Str))=false)
   (e8:X.N.Nodup) (aW:X.N[i]?=some n) (aG:X.env.scope.names.lookup n=some .local) (aa:∀(C az:Addr) (dY:Obj) (pp:List (Addr × Obj)) (W:Value→Shared→Prop),dY.cls=.ref C→jZ C→f9 (rz X az dY pp W) (jf::ss) (aA C az)) (h:qD X jZ aS cs) :
   qD X jZ (.ExceptHandler (some (.Name x np)) (some n) (jf::ss) pos::aS) ((C,fun C D σ H=>∀az,aA C az (D.as i) (σ.set i (some (.ref az))) H)::cs)
def TH (n:Nat) (mt:Addr→Addr→Bool) (G:Addr→aj→Prop) (cs:List (Addr × (Addr→d8))) (dB:d8):d8:=fun D σ H=>(∀C bq af,bq.length=n→G C af→∃aA,(cs.find? fun p=>mt C p.1).map (·.2)=some aA∧aA C D bq af)∧dB D σ H
section
variable {X:br}{pp:List (Addr × Obj)}{σ:St}{H:aj}
theorem m6.qN {e:Value}{W:Value→Shared→Prop}{D:Ends}{fs:Flow}{s:Shared}(h:m6 ((markX X e).i5 W) pp D fs s) (hd:X.calm=true→X.A.handled=none):m6 X pp D fs s:=by
 cases fs with
 | ret u=>obtain⟨v,f_,aq,gL,bD,q⟩:=h;exact⟨v,f_,aq,gL.kB.qN hd,bD,q⟩
 | next=>obtain⟨f_,aq,gL,q⟩:=h;exact⟨f_,aq,gL.kB.qN hd,q⟩
 | brk=>obtain⟨f_,aq,gL,q⟩:=h;exact⟨f_,aq,gL.kB.qN hd,q⟩
 | cont=>obtain⟨f_,aq,gL,q⟩:=h;exact⟨f_,aq,gL.kB.qN hd,q⟩
theorem Ph {az C:Addr}{a0:Value}{av:Shared}{ex:List Addr}{mt:Addr→Addr→Bool}{jZ:Addr→Prop}{D:Ends}{fZ:Value→Shared→Prop}(bC:jZ C)
  (land:∀(xc:Around) (s:Shared) (kv:Unit→Shared→Prop) (pe:Value→Shared→Prop),Lies X pp σ H av ex az (.ref C) a0 s→(∀aL,Lies X pp σ H av ex az (.ref C) a0 aL→kv () aL)→wpAny (model X.prog X.w) xc (setFlight (.ref az) none) kv pe s)
  (TN:∀s,Lies X pp σ H av ex az (.ref C) a0 s→∃dY,dY.cls=.ref C∧s.heap.get? az=some dY∧H az=none∧az≠X.env.locals∧az∉X.bF∧∀v,dY.data≠.cell v) :
  ∀{aS:List ExceptHandler} {cs:List (Addr × (Addr→d8))},qD X jZ aS cs→(∀p∈cs,exmOne X.K (.ref C) (.ref p.1)=some (mt C p.1))→∀aA:Addr→d8,(cs.find? fun p=>mt C p.1).map (·.2)=some aA→aA C D σ H →
   ∀s,Lies X pp σ H av ex az (.ref C) a0 s→wpAny (model X.prog X.w) X.A (handleBy (.ref az) X.env aS) (m6 X pp D) fZ s:=by
 intro aS cs ai
 induction ai with
 | nil=>intro _ aA aG;cases aG
 | @cons x np pos jf ss C2 qs aS cs hm wF hd aa ai dt =>
  intro aZ aA aG vv s L
  refine wpAny_handleBy_cons ?_ (by intro q;cases q)
  have I:=L.inv
  refine codeAny_handlers_test ?_
  have cF:Inv (markX X (.ref az)) pp σ H s:=I.uq
  refine qH (X:=markX X (.ref az)) cF wF hm ?_ hd
  have oz:PySem.W.Looks (model X.prog X.w) s.heap (typeOf (.ref az)) (.ref C):=by
   obtain⟨bT,rl,ai⟩:=L.fs.there
   rw[←ai]
   exact (PySem.W.Looks.ld rl).andThen .now
  refine (PySem.W.exm_one (M:=model X.prog X.w) I.fJ oz (aZ _ mem_cons_self)).here ?_
  cases e:mt C qs with
  | true =>
   refine codeAny_handlers_suite (land _ s _ _ L fun aL tP=>?_)
   have hA:aA=fun _=>C2:=by
    rw[find?_cons_of_pos (by exact e)]at aG
    exact (Option.some.inj aG).symm
   subst hA
   exact bV (aa (.ref az) _ pp aL σ H D ((tP.inv.uq).i5 _) vv) fun fs s2 aC=>aC.qN I.ok.hd
  | false =>
   refine dt (fun p aD=>aZ p (mem_cons_of_mem _ aD)) aA ?_ vv s L
   rw[find?_cons_of_neg (by rw[e];exact Bool.false_ne_true)]at aG
   exact aG
 | @as x n np pos i jf ss C2 qs aS cs hm wF hd e8 aW pN aa ai dt =>
  intro aZ aA aG vv s L
  refine wpAny_handleBy_cons ?_ (by intro q;cases q)
  have I:=L.inv
  refine codeAny_handlers_test ?_
  have cF:Inv (markX X (.ref az)) pp σ H s:=I.uq
  refine qH (X:=markX X (.ref az)) cF wF hm ?_ hd
  have oz:PySem.W.Looks (model X.prog X.w) s.heap (typeOf (.ref az)) (.ref C):=by
   obtain⟨bT,rl,ai⟩:=L.fs.there
   rw[←ai]
   exact (PySem.W.Looks.ld rl).andThen .now
  refine (PySem.W.exm_one (M:=model X.prog X.w) I.fJ oz (aZ _ mem_cons_self)).here ?_
  cases e:mt C qs with
  | true =>
   refine codeAny_handlers_suite_as (land _ s _ _ L fun aL tP=>?_)
   have hA:aA=fun C D σ H=>∀az,C2 C az (D.as i) (σ.set i (some (.ref az))) H:=by
    rw[find?_cons_of_pos (by exact e)]at aG
    exact (Option.some.inj aG).symm
   subst hA
   obtain⟨dY,CP,aD⟩:=TN aL tP
   have cS:Inv (rz X az dY pp fun _ _=>False) [] σ H aL:=tP.inv.Uo aD
   refine AW (X:=rz X az dY pp fun _ _=>False) (v:=.ref az) cS e8 aW (.inl pN) rfl (fun s2 gL=>?_) (.inr pN)
   have yV:(X.env.scope.kind == .class || (X.env.scope.kind == .module && X.env.locals != X.env.globals))=false:=by rw[I.ok.kind];rfl
   have o_:∀W,Inv (rz X az dY pp W) [] (σ.set i (some (.ref az))) H s2:=fun W=>gL.i5 W
   refine bV (aa C az dY pp _ CP bC [] s2 _ H (D.as i) (o_ _) (vv az)) fun fs s3 cB=>?_
   cases fs with
   | next =>
    obtain⟨bq,af,k4,q⟩:=cB
    have gi:=k4.yI I.ok.hd
    obtain⟨m,aN,rm⟩:=id gi.loc
    exact wpAny_nameGoes_keeps pN aN yV fun h' v mF rj=>⟨bq.set i none,af,gi.gone e8 aW rm aN mF rj,q⟩
   | brk =>
    obtain⟨bq,af,k4,q⟩:=cB
    have gi:=k4.yI I.ok.hd
    obtain⟨m,aN,rm⟩:=id gi.loc
    exact wpAny_nameGoes_keeps pN aN yV fun h' v mF rj=>⟨bq.set i none,af,gi.gone e8 aW rm aN mF rj,q⟩
   | cont =>
    obtain⟨bq,af,k4,q⟩:=cB
    have gi:=k4.yI I.ok.hd
    obtain⟨m,aN,rm⟩:=id gi.loc
    exact wpAny_nameGoes_keeps pN aN yV fun h' v mF rj=>⟨bq.set i none,af,gi.gone e8 aW rm aN mF rj,q⟩
   | ret u =>
    obtain⟨v0,bq,af,k4,bD,q⟩:=cB
    have gi:=k4.yI I.ok.hd
    obtain⟨m,aN,rm⟩:=id gi.loc
    exact wpAny_nameGoes_keeps pN aN yV fun h' v mF rj=>⟨v0,bq.set i none,af,gi.gone e8 aW rm aN mF rj,bD,q⟩
  | false =>
   refine dt (fun p aD=>aZ p (mem_cons_of_mem _ aD)) aA ?_ vv s L
   rw[find?_cons_of_neg (by rw[e];exact Bool.false_ne_true)]at aG
   exact aG
theorem HD {body:List Stmt}{h₀:ExceptHandler}{aS:List ExceptHandler}{cs:List (Addr × (Addr→d8))}{G:Addr→aj→Prop}{mt:Addr→Addr→Bool}{jZ:Addr→Prop}{dB:d8}{pos:Pos}(jI:X.ex=[]) (hb:X.stack=X.env::X.outer) (hf:X.env.frame=some X.env.locals) (ai:qD X jZ (h₀::aS) cs) (YG:∀C H,G C H→jZ C)
  (aZ:∀C H,G C H→∀p∈cs,exmOne X.K (.ref C) (.ref p.1)=some (mt C p.1))
  (aa:∀pp,f9 (yC X pp G) body dB):jg X (.Try body (h₀::aS) [] [] pos) (TH X.N.length mt G cs dB):=by
 intro pins s σ H D I h
 obtain⟨l1,h⟩:=h
 refine wpAny_Try_except (wpAny_mono (aa pins [] s σ H D I.Sj h) (fun fs s1 av=>?_) fun e s1 av=>?_)
 ·cases fs with
  | next =>
   obtain⟨fM,H1,aR,bw⟩:=av
   show wpAny _ _ (execs [] X.env) _ _ s1
   exact wpAny_pure ⟨fM,H1,aR.uB,bw⟩
  | brk=>obtain⟨fM,H1,aR,bw⟩:=av;exact⟨fM,H1,aR.uB,bw⟩
  | cont=>obtain⟨fM,H1,aR,bw⟩:=av;exact⟨fM,H1,aR.uB,bw⟩
  | ret u=>obtain⟨v,fM,H1,aR,bD,bw⟩:=av;exact⟨v,fM,H1,aR.uB,bD,bw⟩
 ·obtain⟨az,C,fM,H1,rfl,U,q⟩:=av
  obtain⟨aR,zI,c1⟩:=U
  obtain⟨dY,vs,T,kc,aA,a0,g1,g2,g3,jJ,kk,m2,nV,m1,l2,mK,oG,oF,p0⟩:=id zI
  have hex:∀b∈[az,T],X.ff.heap.get? b=none∧H1 b=none:=fun b aa=>by
   rcases mem_cons.mp aa with z | z
   ·rw[z];exact⟨mK,oF⟩
   ·rw[mem_singleton.mp z];exact⟨oG,p0⟩
  have lu:∀b∈[az,T],_:=fun b aa=>c1 b (by
   rcases mem_cons.mp aa with z | z
   ·exact .inl z
   ·exact .inr ⟨dY,vs,g1,g3,by rw[mem_singleton.mp z];exact kk⟩)
  have DG:Heap.FlyingW (hideAll s1.heap ([az,T]++fo X.stack)) X.stack az (.ref C) a0 s1.heap :=
   ⟨fun b o y=>PySem.W.of_hideAll _ y,PySem.W.hideAll_none _ (by simp),aR.xK _,dY,vs,T,kc,aA,g1,⟨g2,jJ⟩,g3,kk,PySem.W.hideAll_none _ (by simp),m2,nV,m1,l2⟩
  have mk:∀s2:Shared,(∃h',s2={ s1 with heap:=h' })→(hideAll s1.heap ([az,T]++fo X.stack)).StaysIn s2.heap→s1.heap.UpToSlots s2.heap→Inv X pins fM H1 s2:=fun s2 ⟨h',aQ⟩ st up=>by
   subst aQ
   have d:=x2 st up fun b aa o aF vs=>by
    obtain⟨eO,b0,cM⟩:=aR.qO b aa
    rw[aF]at b0
    cases b0
    exact cM vs
   exact aR.held (t':=s1.toks) jI d (fun b aa=>(hex b aa).2) (fun b aa=>(hex b aa).1) (fun b aa=>(lu b aa).1) (fun b aa=>(lu b aa).2.1) fun b aa=>(lu b aa).2.2
  have lK:X.A.frames=some (X.env::X.outer):=by rw[←hb];exact aR.ok.frames
  have CM:Heap.FlyingW (hideAll s1.heap ([az,T]++fo X.stack)) (X.env::X.outer) az (.ref C) a0 s1.heap:=by rw[←hb];exact DG
  refine wpAny_looks_onW (L:=X.env.locals) lK hf CM fun dw Ck u_=>?_
  refine wpAny_landsW (s:={ s1 with heap:=dw }) Ck fun gs vM u9=>?_
  have CR:Heap.FlyingW (hideAll s1.heap ([az,T]++fo X.stack)) X.stack az (.ref C) a0 gs:=by
   have z:=vM
   rw[←hb]at z
   exact z
  have Fj:Lies X pins fM H1 s1 [az,T] az (.ref C) a0 { s1 with heap:=gs }:=⟨mk _ ⟨_,rfl⟩ vM.1 (u_.trans u9),CR,u_.trans u9,⟨_,rfl⟩⟩
  obtain⟨oR,t1,ek⟩:=l1 C fM H1 aR.len q
  refine Ph (mt:=mt) (YG C H1 q) (fun xc s2 kv pe L DP=>?_) (fun s2 L=>?_) ai (aZ C H1 q) oR t1 ek _ Fj
  ·refine lands_againW L.fs fun wD vL u7=>DP _ ?_
   obtain⟨h',rfl⟩:=L.eq
   exact⟨mk _ ⟨wD,rfl⟩ vL.1 (L.up.trans u7),vL,L.up.trans u7,⟨wD,rfl⟩⟩
  ·obtain⟨_,_,_,VT,Zw,aa1,ZC,sS,k1,⟨k2,_⟩,k3,_⟩:=L.fs
   refine⟨VT,k2,k1,oF,(lu az mem_cons_self).1,fun hm=>?_,(fun v z=>by rw[k3]at z;cases z)⟩
   obtain⟨eO,b0,cM⟩:=L.inv.qO az (by
    rw[hb]
    show az∈fo (X.env::X.outer)
    unfold fo
    rw[filterMap_cons,hf]
    exact mem_cons_of_mem _ hm)
   rw[k1]at b0
   cases b0
   exact cM _ k3
end
open PySem.Calls Builtin Builtin.ObjectAttr Builtin.Getset_descriptor
structure aaL (K:PySem.W.Frag) (D:Addr):Prop where
 cJ:PySem.W.plainGet K D "__class__"=true
 hd:PySem.W.hasDictIn K D=true
 bf:findIn K (.ref D) "__class__"=some (some (.builtin "object.__class__"))
 aN:PySem.W.specialIn K (.builtin "object.__class__") "__get__"=some (some (.builtin "getset_descriptor.__get__"))
 bG:PySem.W.takesIn K (.builtin "object.__class__")=some true
 hm:PySem.W.mroIn K D (.type "object")=some true
section
variable {prog:Program}{w:World}{A:Around}{E:Value→Shared→Prop}{s:Shared}{K:PySem.W.Frag}{x D:Addr}
def uQ (x D:Addr) (h:Heap):Prop:=∃o,h.get? x=some o∧o.cls=.ref D
theorem uQ.ty {M:Model}{h:Heap}(p:uQ x D h):PySem.W.Looks M h (typeOf (.ref x)) (.ref D):=by
 obtain⟨o,av,aC⟩:=p
 rw[←aC]
 exact (PySem.W.Looks.ld av).andThen .now
end
section
variable {H af dR:aj}
theorem bh.apart {h ce ao lo pu st:Addr}{pl:List (Int × Addr)}{x:aE}(A:bh H h ce ao lo pu st pl x) (k:∀b o,b∈lo::own h ce ao pu st pl→H b=some o→af b=some o) (kt:eX H af):bh af h ce ao lo pu st pl x:=by
 obtain⟨xs,aJ,aQ⟩:=A.aG
 obtain⟨zs,k1,k2⟩:=A.fG
 have m:∀{b},b∈own h ce ao pu st pl→b∈lo::own h ce ao pu st pl:=fun aa=>mem_cons_of_mem _ aa
 refine⟨k _ _ (m (bh.p_ ..)) A.du,k _ _ (m (bh.qa ..)) A.ai,k _ _ (m (bh.tr ..)) A.hd,⟨xs,k _ _ mem_cons_self aJ,aQ.mono fun a y q=>q.mono kt⟩,k _ _ (m (bh.mp ..)) A.aD,A.gF,fun i z w p q=>?_,A.bR,⟨zs,k _ _ (m (bh.ms ..)) k1,bE.keep kt _ _ (eH dN.fR _) k2⟩,A.ap,A.nl,A.cd⟩
 obtain⟨ys,bw,aU⟩:=A.ah i z w p q
 exact⟨ys,k _ _ (m (bh.tp (mem_of_getElem? p) ..)) bw,bE.keep kt _ _ (eH iH _) aU⟩
theorem bh.alive {h ce ao lo pu st:Addr}{pl:List (Int × Addr)}{x:aE}(A:bh H h ce ao lo pu st pl x):∀b∈lo::own h ce ao pu st pl,H b≠none:=fun b aa z=>by
 rcases mem_cons.mp aa with e | e
 ·obtain⟨xs,aJ,_⟩:=A.aG
  rw[e,aJ]at z
  cases z
 ·exact A.there z e
variable {aH au:Addr}{a:dI}{lo:Addr}{pl:List (Int × Addr)}{x:aE}{aA:List (Key × V)}
theorem ck.apart (A:ck aH au H a lo pl x aA) (k:∀b o,b∈a.dJ lo pl→H b=some o→af b=some o) (kt:eX H af):ck aH au af a lo pl x aA:=by
 obtain⟨dx,aJ⟩:=A.bT
 obtain⟨dy,aQ⟩:=A.co
 have jx:=A.aN
 have kK:=A.et
 refine⟨A.c8.apart (fun b o aa q=>?_) (fun b xs q=>?_),⟨dx,k _ _ (pH ..) aJ⟩,⟨dy,k _ _ (uN ..) aQ⟩,k _ _ (uE ..) A.kt,A.gc,A.nl,A.kU,A.h7⟩
 ·by_cases b_:b=a.h
  ·subst b_
   rw[n_]at q ⊢
   exact q
  ·have dz:b≠a.c:=fun z=>by
    rcases mem_cons.mp aa with y | y
    ·exact A.nl (by rw[←z,y])
    ·exact A.gc (by rw[←z];exact y)
   rw[eW b_ dz]at q ⊢
   refine k _ _ ?_ q
   rcases mem_cons.mp aa with y | y
   ·rw[y];exact sD ..
   ·exact qI y
 ·have b_:b≠a.h:=fun z=>by rw[z,n_]at q;cases q
  have dz:b≠a.c:=fun z=>by rw[z,pJ kK.1]at q;cases q
  rw[eW b_ dz]at q ⊢
  exact kt _ _ q
theorem ck.alive (A:ck aH au H a lo pl x aA):∀b∈a.dJ lo pl,H b≠none:=fun b aa z=>by
 obtain⟨dx,aJ⟩:=A.bT
 obtain⟨dy,aQ⟩:=A.co
 obtain⟨xs,b9,_⟩:=A.aG
 rcases mem_cons.mp aa with y | aa
 ·rw[y,b9]at z;cases z
 rcases mem_cons.mp aa with y | aa
 ·rw[y,aQ]at z;cases z
 rcases mem_cons.mp aa with y | aa
 ·rw[y,A.kt]at z;cases z
 by_cases b_:b=a.h
 ·rw[b_,aJ]at z;cases z
 ·have dz:b≠a.c:=fun w=>A.gc (by rw[←w];exact aa)
  exact A.c8.there (by rw[eW b_ dz];exact z) aa
end
inductive ny where
 | f
 | a
 | b
 | c
 | d
deriving DecidableEq
structure oi (dR H:aj) (T:ny→List Addr):Prop where
 wJ:∀i j,i≠j→∀b∈T i,b∉T j
 al:∀i,∀b∈T i,H b≠none∧dR b=none
 cV:bY dR H
section
variable {dR H af:aj}{T tN:ny→List Addr}
theorem oi.step (W:oi dR H T) (i:ny) (dh:∀b o,b∉T i→H b=some o→af b=some o) (new:∀b∈tN i,b∈T i∨H b=none) (al:∀b∈tN i,af b≠none) (eq:∀j,j≠i→tN j=T j):oi dR af tN:=by
 have keep:∀j,j≠i→∀b∈T j,af b≠none:=fun j cK b aa z=>by
  cases q:H b with
  | none=>exact (W.al j b aa).1 q
  | some o =>
   rw[dh b o (W.wJ j i cK b aa) q]at z
   cases z
 have fr:∀b∈tN i,dR b=none:=fun b aa=>by
  rcases new b aa with z | z
  ·exact (W.al i b z).2
  ·exact W.cV.free z
 have Oj:∀j,j≠i→∀b∈tN i,b∉T j:=fun j cK b aa m=>by
  rcases new b aa with z | z
  ·exact W.wJ i j (Ne.symm cK) b z m
  ·exact (W.al j b m).1 z
 refine⟨fun j k DD b aa hm=>?_,fun j b aa=>?_,fun b o e=>dh b o (fun z=>?_) (W.cV b o e)⟩
 ·by_cases b_:j=i
  ·subst b_
   rw[eq k (Ne.symm DD)]at hm
   exact Oj k (Ne.symm DD) b aa hm
  ·rw[eq j b_]at aa
   by_cases dz:k=i
   ·subst dz
    exact Oj j b_ b hm aa
   ·rw[eq k dz]at hm
    exact W.wJ j k DD b aa hm
 ·by_cases b_:j=i
  ·subst b_
   exact⟨al b aa,fr b aa⟩
  ·rw[eq j b_]at aa
   exact⟨keep j b_ b aa,(W.al j b aa).2⟩
 ·rw[(W.al i b z).2]at e
  cases e
theorem oi.same (W:oi dR H T) (s:bY H af):oi dR af T :=
 ⟨W.wJ,fun i b aa=>⟨fun z=>(W.al i b aa).1 (s.free z),(W.al i b aa).2⟩,W.cV.trans s⟩
theorem oi.left (W:oi dR H T) {i j:ny}(cK:j≠i) (dh:∀b o,b∉T i→H b=some o→af b=some o):∀b o,b∈T j→H b=some o→af b=some o:=fun b o aa e=>dh b o (W.wJ j i cK b aa) e
end
theorem Pj (x:aE) (e:cZ):(x.bX e).1.aO.length=x.aO.length:=by
 cases aI:x.refusal e with
 | some w =>
  have az:x.bX e=(x,.word w):=by unfold aE.bX;rw[aI]
  rw[az]
 | none =>
  have az:x.bX e=x.i7 e:=by unfold aE.bX;rw[aI]
  rw[az]
  cases e with
  | begin =>
   have eE:x.i7 .begin=if (x.began.full 1).2=true then ((x.began.full 1).1,.word "no room") else ((x.began.full 1).1.opened,.num x.begun):=rfl
   have aQ:(x.began.full 1).1.aO=x.aO:=qB
   rw[eE]
   split
   ·show (x.began.full 1).1.aO.length=_
    rw[aQ]
   ·show (x.began.full 1).1.aO.length=_
    rw[aQ]
  | put d p n =>
   have eE:x.i7 (.put d p n)=if (x.full 2).2=true then ((x.full 2).1,.word "no room") else ((((x.full 2).1.eo d p.toNat).putIn d p.toNat n),.word "done"):=rfl
   have aQ:(x.full 2).1.aO=x.aO:=qB
   rw[eE]
   split
   ·show (x.full 2).1.aO.length=_
    rw[aQ]
   ·show ((x.full 2).1.aO.set p.toNat n).length=_
    rw[length_set,aQ]
  | fin d=>rfl
  | drop d =>
   show (x.hD d).aO.length=_
   rw[k9,tZ]
  | look p=>rfl
  | carry p =>
   show (x.gB p.toNat).aO.length=_
   rw[AF]
  | cut =>
   show x.f5.aO.length=_
   rw[AM]
theorem SM {X:br}{P:Program}{w:World}(gd:X.prog=P) (hw:X.w=w) (jI:X.ex=[]):Passes (c4 P w) X (fun _ _ _=>False):=by
 subst gd hw
 intro pins σ H s e aL I h
 obtain⟨az,cls,af,rfl,U,q⟩:=I.x4 jI h
 exact q.elim
structure nM where
 h:Addr
 ce:Addr
 ao:Addr
 lo:Addr
 pu:Addr
 st:Addr
 pl:List (Int × Addr)
structure mM where
 a:dI
 lo:Addr
 pl:List (Int × Addr)
 aA:List (Key × V)
def nM.dJ (l:nM):List Addr:=l.lo::own l.h l.ce l.ao l.pu l.st l.pl
def mM.dJ (p:mM):List Addr:=p.a.dJ p.lo p.pl
abbrev zR (H:aj) (l:nM) (x:aE):Prop:=bh H l.h l.ce l.ao l.lo l.pu l.st l.pl x
abbrev zO (aH au:Addr) (H:aj) (p:mM) (x:aE):Prop:=ck aH au H p.a p.lo p.pl x p.aA
def lands (F:List Addr) (cz cY:nM) (cp cI:mM):ny→List Addr
 | .f=>F
 | .a=>cz.dJ
 | .b=>cY.dJ
 | .c=>cp.dJ
 | .d=>cI.dJ
structure gV (aH au:Addr) (dR H:aj) (F:List Addr) (cz cY:nM) (cp cI:mM) (x y z w:aE):Prop where
 bS:oi dR H (lands F cz cY cp cI)
 bO:zR H cz x
 a_:zR H cY z
 g9:zO aH au H cp y
 fz:zO aH au H cI w
section
variable {aH au:Addr}{dR H af:aj}{F:List Addr}{cz cY iw h5:nM}{cp cI h4 lB:mM}{x y z w kP kO hg d5:aE}
theorem gV.same (W:gV aH au dR H F cz cY cp cI x y z w) (s:bY H af):gV aH au dR af F cz cY cp cI x y z w :=
 ⟨W.bS.same s,W.bO.same s,W.a_.same s,W.g9.same s,W.fz.same s⟩
theorem gV.U7 (W:gV aH au dR H F cz cY cp cI x y z w) (e:iw.h=cz.h∧iw.ce=cz.ce∧iw.ao=cz.ao∧iw.pu=cz.pu∧iw.st=cz.st) (A:zR af iw kP) (o:hG (own cz.h cz.ce cz.ao cz.pu cz.st cz.pl) cz.lo iw.lo H af) (n:∀b∈own iw.h iw.ce iw.ao iw.pu iw.st iw.pl,b∈own cz.h cz.ce cz.ao cz.pu cz.st cz.pl∨H b=none) :
  gV aH au dR af F iw cY cp cI kP y z w∧(∀b o,b∈F→H b=some o→af b=some o):=by
 have dh:∀b u,b∉cz.dJ→H b=some u→af b=some u:=fun b u aa q=>o.1 b u (fun m=>aa (mem_cons_of_mem _ m)) q
 have kt:=W.bO.gC o.1
 have lf:∀{j:ny},j≠.a→∀b u,b∈lands F cz cY cp cI j→H b=some u→af b=some u:=fun cK=>W.bS.left (i:=.a) cK dh
 refine⟨⟨W.bS.step .a dh (fun b aa=>?_) (fun b aa=>A.alive b aa) (fun j cK=>by cases j <;> first | rfl | exact absurd rfl cK),A,W.a_.apart (lf (j:=.b) (by decide)) kt,W.g9.apart (lf (j:=.c) (by decide)) kt,W.fz.apart (lf (j:=.d) (by decide)) kt⟩,lf (j:=.f) (by decide)⟩
 rcases mem_cons.mp aa with q | q
 ·rcases o.2 with b0 | b0 | b0
  ·exact .inl (by rw[q,b0];exact mem_cons_self)
  ·exact .inl (mem_cons_of_mem _ (by rw[q];exact b0))
  ·exact .inr (by rw[q];exact b0)
 ·rcases n b q with b0 | b0
  ·exact .inl (mem_cons_of_mem _ b0)
  ·exact .inr b0
theorem gV.JD (W:gV aH au dR H F cz cY cp cI x y z w) (A:zR af h5 hg) (o:hG (own cY.h cY.ce cY.ao cY.pu cY.st cY.pl) cY.lo h5.lo H af) (n:∀b∈own h5.h h5.ce h5.ao h5.pu h5.st h5.pl,b∈own cY.h cY.ce cY.ao cY.pu cY.st cY.pl∨H b=none) :
  gV aH au dR af F cz h5 cp cI x y hg w∧(∀b o,b∈F→H b=some o→af b=some o):=by
 have dh:∀b u,b∉cY.dJ→H b=some u→af b=some u:=fun b u aa q=>o.1 b u (fun m=>aa (mem_cons_of_mem _ m)) q
 have kt:=W.a_.gC o.1
 have lf:∀{j:ny},j≠.b→∀b u,b∈lands F cz cY cp cI j→H b=some u→af b=some u:=fun cK=>W.bS.left (i:=.b) cK dh
 refine⟨⟨W.bS.step .b dh (fun b aa=>?_) (fun b aa=>A.alive b aa) (fun j cK=>by cases j <;> first | rfl | exact absurd rfl cK),W.bO.apart (lf (j:=.a) (by decide)) kt,A,W.g9.apart (lf (j:=.c) (by decide)) kt,W.fz.apart (lf (j:=.d) (by decide)) kt⟩,lf (j:=.f) (by decide)⟩
 rcases mem_cons.mp aa with q | q
 ·rcases o.2 with b0 | b0 | b0
  ·exact .inl (by rw[q,b0];exact mem_cons_self)
  ·exact .inl (mem_cons_of_mem _ (by rw[q];exact b0))
  ·exact .inr (by rw[q];exact b0)
 ·rcases n b q with b0 | b0
  ·exact .inl (mem_cons_of_mem _ b0)
  ·exact .inr b0
theorem gV.Iq (W:gV aH au dR H F cz cY cp cI x y z w) (e:h4.a=cp.a) (A:zO aH au af h4 kO) (m:dP cp.a cp.lo cp.pl h4.lo h4.pl H af) :
  gV aH au dR af F cz cY h4 cI x kO z w∧(∀b o,b∈F→H b=some o→af b=some o):=by
 have kt:=m.gC W.g9
 have lf:∀{j:ny},j≠.c→∀b u,b∈lands F cz cY cp cI j→H b=some u→af b=some u:=fun cK=>W.bS.left (i:=.c) cK m.dh
 refine⟨⟨W.bS.step .c m.dh (fun b aa=>?_) (fun b aa=>A.alive b aa) (fun j cK=>by cases j <;> first | rfl | exact absurd rfl cK),W.bO.apart (lf (j:=.a) (by decide)) kt,W.a_.apart (lf (j:=.b) (by decide)) kt,A,W.fz.apart (lf (j:=.d) (by decide)) kt⟩,lf (j:=.f) (by decide)⟩
 refine m.new b ?_
 rw[←e]
 exact aa
theorem gV.Ip (W:gV aH au dR H F cz cY cp cI x y z w) (e:lB.a=cI.a) (A:zO aH au af lB d5) (m:dP cI.a cI.lo cI.pl lB.lo lB.pl H af) :
  gV aH au dR af F cz cY cp lB x y z d5∧(∀b o,b∈F→H b=some o→af b=some o):=by
 have kt:=m.gC W.fz
 have lf:∀{j:ny},j≠.d→∀b u,b∈lands F cz cY cp cI j→H b=some u→af b=some u:=fun cK=>W.bS.left (i:=.d) cK m.dh
 refine⟨⟨W.bS.step .d m.dh (fun b aa=>?_) (fun b aa=>A.alive b aa) (fun j cK=>by cases j <;> first | rfl | exact absurd rfl cK),W.bO.apart (lf (j:=.a) (by decide)) kt,W.a_.apart (lf (j:=.b) (by decide)) kt,W.g9.apart (lf (j:=.c) (by decide)) kt,A⟩,lf (j:=.f) (by decide)⟩
 refine m.new b ?_
 rw[←e]
 exact aa
theorem gV.cell (W:gV aH au dR H F cz cY cp cI x y z w) {b:Addr}{us vs:List V}(aa:b∈F) (e:H b=some (.lst us)):gV aH au dR (upd H b (.lst vs)) F cz cY cp cI x y z w:=by
 have dh:∀c u,c∉F→H c=some u→(upd H b (.lst vs)) c=some u:=fun c u ai q=>by
  rw[ay (fun m=>ai (by rw[m];exact aa))]
  exact q
 have kt:eX H (upd H b (.lst vs)):=fun c xs q=>by
  rw[ay (dv q e (fun m=>nomatch m))]
  exact q
 have lf:∀{j:ny},j≠.f→∀c u,c∈lands F cz cY cp cI j→H c=some u→(upd H b (.lst vs)) c=some u:=fun cK=>W.bS.left (i:=.f) cK dh
 refine⟨W.bS.step .f dh (fun c ai=>.inl ai) (fun c ai m=>?_) (fun j cK=>rfl),W.bO.apart (lf (j:=.a) (by decide)) kt,W.a_.apart (lf (j:=.b) (by decide)) kt,W.g9.apart (lf (j:=.c) (by decide)) kt,W.fz.apart (lf (j:=.d) (by decide)) kt⟩
 by_cases q:c=b
 ·rw[q,aT]at m;cases m
 ·rw[ay q]at m
  exact (W.bS.al .f c ai).1 m
end
structure nL (K:PySem.W.Frag) (D:Addr):Prop where
 ga:findIn K (.ref D) "__getattribute__"=some (some (.builtin "BaseException.__getattribute__"))
 YK:findIn K (.ref D) "__getattr__"=some none
 aa:PySem.W.mroIn K D (.type "BaseException")=some true
 hd:PySem.W.hasDictIn K D=true
 bf:findIn K (.ref D) "__class__"=some (some (.builtin "object.__class__"))
 aN:PySem.W.specialIn K (.builtin "object.__class__") "__get__"=some (some (.builtin "getset_descriptor.__get__"))
 bG:PySem.W.takesIn K (.builtin "object.__class__")=some true
 hm:PySem.W.mroIn K D (.type "object")=some true
section
variable {prog:Program}{w:World}{A:Around}{E:Value→Shared→Prop}{s:Shared}{K:PySem.W.Frag}{x D:Addr}
theorem Rx {M:Model}{h:Heap}(X:K.In h) (c:nL K D):PySem.W.Looks M h (find (.ref x) (.ref D) "__class__") (.bind (.builtin "getset_descriptor.__get__") (.builtin "object.__class__")):=by
 have a:PySem.W.Looks M h (getOf (some (.builtin "object.__class__"))) (some (.builtin "getset_descriptor.__get__")):=PySem.W.looks_specialIn X c.aN
 have b:PySem.W.Looks M h (dataDescriptor? (some (.builtin "object.__class__")) (some (.builtin "getset_descriptor.__get__"))) (some (.builtin "getset_descriptor.__get__",.builtin "object.__class__")):=(PySem.W.looks_takesIn X c.bG).andThen .now
 exact (PySem.W.looks_findIn X c.bf).andThen (a.andThen (b.andThen (PySem.W.Looks.tag .now)))
theorem Qt {R:Result→Shared→Prop}{ti:Value}(X:K.In s.heap) (p:uQ x D s.heap) (c:nL K D) (q:R (.ok (.ret (.ref D))) s) :
  codeAny (model prog w) A (.call (.builtin "getset_descriptor.__get__") ⟨[.builtin "object.__class__",.ref x,ti],[]⟩) R s:=by
 have a:=p.ty (M:=model prog w)
 have b:=PySem.W.looks_mroIn (M:=model prog w) X c.hm
 obtain⟨aD,g,kq,t,os⟩:=s
 refine codeAny_call_builtin PySem.W.KF.slot_gs.plain PySem.W.KF.entry_gs (PySem.W.KF.slot_gs.check _ _ _ _ _ _ _ _ PySem.W.KF.type_class (PySem.W.KF.args_gs _ _ _) ?_)
 unfold Builtin.«getset_descriptor.__get__» descrGet
 rw[PySem.W.dga_obj]
 refine wpAny_bind (wpAny_pure ?_)
 unfold descrGetter descrCheckInstance descrNameAndClass isInstance
 simp only[PySem.W.KF.owner_class]
 repeat lk
 refine⟨Code.quiet_builtin _ (by decide +kernel),codeAny_builtin PySem.W.KF.entry_class ?_⟩
 unfold Builtin.«object.__class__» shownTypeOf
 repeat lk
 exact q
theorem G9:Slot "ValueError" "__getattribute__" "BaseException.__getattribute__":=PySem.F.excAttr_ValueError.ga
theorem Qu {Q:Option Value→Shared→Prop}(X:K.In s.heap) (p:uQ x D s.heap) (c:nL K D) (q:Q (some (.ref D)) { s with toks:=s.toks+1 }):wpAny (model prog w) A (getAttr? (.ref x) "__class__") Q E s:=by
 have a:=p.ty (M:=model prog w)
 have b:=PySem.W.looks_findIn (M:=model prog w) X c.ga
 have d:=Rx (M:=model prog w) (x:=x) X c
 have e:=PySem.W.looks_findIn (M:=model prog w) X c.YK
 have m:=PySem.W.looks_mroIn (M:=model prog w) X c.aa
 obtain⟨aD,g,kq,t,os⟩:=s
 unfold getAttr? getAttrBy? getAttrBy
 refine wpAny_bind (wpAny_mkText (wpAny_bind (wpAny_attempt (wpAny_holding (wpAny_bind (a.at (wpAny_bind (b.at ?_))))))))
 dsimp only
 rw[show (onTheHeap (Value.ref D) && Value.builtin "BaseException.__getattribute__" == Value.builtin "object.__getattribute__")=false from by rw[show (Value.builtin "BaseException.__getattribute__" == Value.builtin "object.__getattribute__")=false from by decide +kernel,Bool.and_false],if_neg (by decide)]
 unfold getAttrByItsOwn
 refine wpAny_bind (PySem.W.Looks.at (show PySem.W.Looks (model prog w) _ (hookBefore (.ref D)) none from e) (wpAny_bind (wpAny_attempt (wpAny_holding ?_))))
 unfold callGetattribute
 rw[show (false && onTheHeap (Value.builtin "BaseException.__getattribute__"))=false from rfl,if_neg (by decide)]
 unfold boundAndCalled
 rw[G9.bind]
 refine wpAny_bind (wpAny_pure ?_)
 show wpAny _ _ (call (.builtin "BaseException.__getattribute__") [.ref x,.str "__class__" t]) _ _ _
 refine wpAny_call ?_
 refine codeAny_call_builtin G9.plain PySem.F.entry_bexc_ga ?_
 refine @PySem.W.check_slot (model prog w) _ _ ⟨aD,g,kq,t+1,os⟩ "BaseException.__getattribute__" "BaseException" "__getattribute__" (.ref x) [.str "__class__" t] [] _ (by decide +kernel) (by decide +kernel) (a.andThen m) (PySem.F.args_bexc_ga _ _) ?_
 unfold Builtin.«object.__getattribute__»
 refine wpAny_bind (wpAny_pure (wpAny_bind (wpAny_pure (wpAny_bind (a.at (wpAny_bind (d.at ?_)))))))
 show wpAny _ _ (holding [.builtin "object.__class__"] (call (.builtin "getset_descriptor.__get__") [.builtin "object.__class__",.ref x,.ref D]) >>= ret) _ _ _
 refine wpAny_bind (wpAny_holding (wpAny_call (Qt (s:=⟨aD,g,kq,t+1,os⟩) X p c ?_)))
 show wpAny _ _ (ret (.ref D)) _ _ _
 exact wpAny_pure (PySem.W.handed_on rfl (wpAny_pure q))
theorem Rn (c:nL K D):PySem.W.KitX K (.ref x) (.ref D) (uQ x D) where
 ty:=fun _ _ _ p=>p.ty
 it:=fun _ _ X _=>by
  obtain⟨cd,av,_⟩:=PySem.W.any_some c.hd
  unfold PySem.W.clsIn at av
  split at av
  ·rename_i _ _ _ _ aF
   intro d9 kv pe aL k q
   unfold isType loadHead
   exact wpAny_bind (wpAny_loadPart (k _ _ (X _ _ aF)) (wpAny_pure q))
  ·cases av
 ne:=fun h ti dd its n dC X WA=>by
  obtain⟨cd,av,_⟩:=PySem.W.any_some c.hd
  refine Bool.eq_false_iff.mpr fun q=>?_
  cases Value.ref.inj (beq_iff_eq.mp q)
  unfold PySem.W.clsIn at av
  split at av
  ·rename_i _ _ _ _ aF
   cases (X _ _ aF).symm.trans WA
  ·cases av
 ca:=fun X p k=>Qu X p c k
end
theorem t7 {X:br}{az:Addr}{dY:Obj}{pp:List (Addr × Obj)}{W:Value→Shared→Prop}{C:Addr}(ai:dY.cls=.ref C) (c:nL X.K C) :
  lq (rz X az dY pp W) (.builtin "isinstance") (fun xs H Q=>∃(u:V) (cl:Value) (b:Bool),xs=[.ref az,u]∧(∀v,RelV u v→v=cl)∧kitOne X.K (.ref C) cl=some b∧Q (.b8 b) H):=by
 intro pins s σ H xs us Q I bD h
 obtain⟨u,cl,b,rfl,bp,e,q⟩:=h
 obtain⟨v1,v2,rfl,bx,b7⟩:=bD.two
 cases (show v1=Value.ref az from bx)
 cases bp v2 b7
 have aD:=(I.pin (az,dY) (mem_append_left _ (mem_append_right _ (mem_singleton.mpr rfl)))).1
 exact kia_one (Rn c) I.fJ ⟨dY,aD,ai⟩ e (fun z=>nomatch z) fun bz=>⟨.b8 b,H,I.tok bz,rfl,q⟩
end L2
namespace D9
open PySem L2
theorem b6 {j k:Nat}{A:Around}(h:fS j A) (q:k≤j:=by decide):fS k A:=h.mono q
theorem dS {N Q:List Str}{sc:Scope}(a:sc.kind=.function:=by rfl) (b:sc.isCoroutine=false:=by rfl) (c:sc.isGenerator=false:=by rfl) (d:N.Nodup:=by decide +kernel) (e:N.take Q.length=Q:=by rfl) (f:∀x∈Q,sc.names.lookup x=some .local∨sc.names.lookup x=some .cell:=by decide +kernel) (g:∀y∈sc.names,y.2≠.free:=by decide +kernel):dE N Q sc:=⟨a,b,c,d,e,f,g⟩
abbrev CA:List Str:=["_law_script","_law_head","_law_count","_law_room","_law_pages","_law_asked","_law_found","_law_ones","_law_own","_law_another","_law_kept","_law_mine","_law_other","_law_due","_law_k","_law_word","_law_told"]
abbrev q1:List Str:=["_law_cells","_law_count","_law_words","_law_asked","_law_out","_law_over","_law_begun","_law_k","_law_rest","_law_word","_law_odd","_law_far","_law_page","_law_strange","_law_dealing","_law_number"]
abbrev sM:List Str:=["_law_mine","_law_dealing","_law_page","_law_number"]
abbrev yS:List Str:=["_law_pages","_law_desk","_law_log","_law_puts"]
abbrev Jz:List Str:=["_law_house","_law_deed","_law_nothing"]
abbrev uZ:List Str:=["_law_number","_law_prime","_law_many"]
abbrev yP:List Str:=["_law_puts","_law_desk","_law_deed"]
abbrev j1:List Str:=["self","dealing","page","number"]
abbrev yM:List Str:=["pages","desk","log","dealings"]
abbrev mC:List Str:=["_law_mine","_law_stroke"]
abbrev yL:List Str:=["_law_cells","_law_count"]
abbrev j0:List Str:=["_law_house","_law_deed"]
abbrev uV:List Str:=["_law_cell","_law_count"]
abbrev yT:List Str:=["_law_lines","_law_page"]
abbrev yO:List Str:=["_law_pages","_law_room"]
abbrev yN:List Str:=["self","dealing","page"]
abbrev pK:List Str:=["_law_mine","_law_deed"]
abbrev sN:List Str:=["_law_mine","_law_page"]
abbrev yU:List Str:=["_law_found","_law_due"]
abbrev yR:List Str:=["_law_puts","_law_page"]
abbrev yQ:List Str:=["_law_mine","_law_more"]
abbrev yK:List Str:=["pages","room","deeds"]
abbrev q2:List Str:=["self","pages","room"]
abbrev uX:List Str:=["_law_script","_law_k"]
abbrev uU:List Str:=["self","pages","log"]
abbrev gD:List Str:=["self","dealing"]
abbrev i8:List Str:=["self","stroke"]
abbrev mB:List Str:=["house","deed"]
abbrev fU:List Str:=["self","page"]
abbrev lE:List Str:=["self","more"]
abbrev yJ:List Str:=["_law_script"]
abbrev uY:List Str:=["_law_found"]
abbrev nB:List Str:=["_law_head"]
abbrev sO:List Str:=["_law_mine"]
abbrev uW:List Str:=["_law_puts"]
abbrev uT:List Str:=["_law_word"]
abbrev iv:List Str:=["self"]
def top (i:Nat):Stmt:=PySem.Challenge.pw_quillhouse_k12_by_hand.main.body.getD i (.Pass ⟨0,0,0,0⟩)
abbrev BN:Stmt:=inClass (top 7) 0
abbrev C4:Stmt:=inClass (top 7) 1
abbrev BC:Stmt:=top 9
abbrev BF:Stmt:=top 10
abbrev BH:Stmt:=inClass (top 12) 0
abbrev BQ:Stmt:=inClass (top 12) 1
abbrev Cs:Stmt:=inClass (top 12) 2
abbrev Ct:Stmt:=inClass (top 12) 3
abbrev B9:Stmt:=inClass (top 12) 4
abbrev B6:Stmt:=inClass (top 12) 5
abbrev BL:Stmt:=inClass (top 12) 6
abbrev Cu:Stmt:=inClass (top 12) 7
abbrev Cd:Stmt:=inClass (top 12) 8
abbrev Cb:Stmt:=inClass (top 12) 9
abbrev Cc:Stmt:=inClass (top 12) 10
abbrev Ca:Stmt:=inClass (top 12) 11
abbrev B7:Stmt:=inClass (top 12) 12
abbrev BE:Stmt:=inClass (top 12) 13
abbrev Bg:Stmt:=inClass (top 12) 14
abbrev BD:Stmt:=inClass (top 12) 15
abbrev A1:Stmt:=top 14
abbrev xT:Stmt:=top 15
abbrev Bk:Stmt:=top 16
abbrev B_:Stmt:=top 18
abbrev Bx:Stmt:=top 19
abbrev C5:Stmt:=top 20
abbrev BS:Stmt:=top 21
abbrev jh:Stmt:=top 22
abbrev By:Stmt:=top 23
abbrev AZ:Stmt:=top 24
abbrev BP:Stmt:=top 25
abbrev BU:Stmt:=top 26
abbrev Bj:Stmt:=top 27
abbrev BG:Stmt:=top 28
abbrev Bh:Stmt:=top 29
abbrev BJ:Stmt:=top 30
abbrev A0:Stmt:=top 31
abbrev B8:Stmt:=top 32
abbrev BA:Stmt:=top 33
abbrev BI:Stmt:=top 34
abbrev AQ:Stmt:=top 35
abbrev BB:Stmt:=top 36
abbrev B5:Stmt:=top 37
abbrev uK:Stmt:=top 38
abbrev BO:Stmt:=top 39
abbrev Bl:Stmt:=top 40
abbrev BK:Stmt:=top 41
abbrev BR:Stmt:=top 42
abbrev qV:Stmt:=top 43
theorem ei {c A B:Prop} [Decidable c] (ai:c) (h:A):if decide c=true then A else B:=by
 rw[decide_eq_true ai]
 exact eY h
theorem bH {c A B:Prop} [Decidable c] (ai:¬c) (h:B):if decide c=true then A else B:=by
 rw[decide_eq_false ai]
 exact dQ h
theorem od {c A B:Prop} [Decidable c] (ai:¬c) (h:A):if (!decide c)=true then A else B:=by
 rw[decide_eq_false ai]
 exact eY h
theorem i3:bootBuiltins "list"=some (.type "list"):=by decide +kernel
theorem B2:bootBuiltins "tuple"=some (.type "tuple"):=by decide +kernel
theorem oh:bootBuiltins "int"=some (.type "int"):=by decide +kernel
theorem Kf:bootBuiltins "str"=some (.type "str"):=by decide +kernel
theorem Un:bootBuiltins "bool"=some (.type "bool"):=by decide +kernel
theorem Um:bootBuiltins "dict"=some (.type "dict"):=by decide +kernel
theorem jl:bootBuiltins "isinstance"=some (.builtin "isinstance"):=by decide +kernel
section
variable (K:PySem.W.Frag)
theorem Pr:kitOne K (.type "int") (.type "int")=some true:=by kernel_rfl
theorem Pe:kitOne K (.type "int") (.type "bool")=some false:=by kernel_rfl
theorem Pq:kitOne K (.type "int") (.type "str")=some false:=by kernel_rfl
theorem F4:kitOne K (.type "str") (.type "str")=some true:=by kernel_rfl
theorem AB:kitOne K (.type "list") (.type "list")=some true:=by kernel_rfl
theorem FH:kitOne K (.type "list") (.type "tuple")=some false:=by kernel_rfl
theorem FG:kitOne K (.type "tuple") (.type "list")=some false:=by kernel_rfl
theorem FE:kitOne K (.type "tuple") (.type "tuple")=some true:=by kernel_rfl
theorem R7:PySem.W.kitAny K (.type "int") ([ "list","tuple"].map Value.type)=some false:=by kernel_rfl
theorem R6:PySem.W.kitAny K (.type "str") ([ "list","tuple"].map Value.type)=some false:=by kernel_rfl
theorem Ro:PySem.W.kitAny K (.type "list") ([ "list","tuple"].map Value.type)=some true:=by kernel_rfl
theorem Ql:PySem.W.kitAny K (.type "tuple") ([ "list","tuple"].map Value.type)=some true:=by kernel_rfl
end
structure fc (mg:Str→Option Value):Prop where
 lst:mg "list"=none
 tup:mg "tuple"=none
 int:mg "int"=none
 str:mg "str"=none
 b8:mg "bool"=none
 ju:mg "isinstance"=none
 len:mg "len"=none
 kG:mg "range"=none
 Nl:mg "enumerate"=none
 Xo:mg "dict"=none
def H3:dg:=fun vs H Q _=>∃n p m:Int,vs=[.int n,.int p,.int m]∧0<p∧0<m∧∀r:Int,0≤r→r<m→Q (.int r) H
def Hi:dg:=fun vs H Q _=>∃i:Int,vs=[.int i]∧Q (.b8 true) H
def Jf (K:PySem.W.Frag):dg:=fun vs H Q _=>∃(a:Addr) (ns:List Int) (k:Int),vs=[.ref a,.int k]∧aV K H a (ns.map V.int)∧0≤k∧∀z:Int,Q (.int z) H
def Hu:dg:=fun vs H Q _=>∃(x y:V) (d:D),vs=[x,y]∧Rep H d x∧Rep H d y∧d.ez≤190000∧∀af,bY H af→Q (.b8 true) af
section
variable {P:Program}{w:World}{K:PySem.W.Frag}{mg:Str→Option Value}{base:Heap}{f:Addr}{fd:FuncData}
theorem Su:dE uZ uZ (cT B_):=dS
theorem R3 (F:bZ K "_law_draw" "_law_draw" B_ f fd):a5 P w K mg base b1 1 f fd uZ H3:=by
 refine F.ok Su (fun vs H Q E h=>?_) (fun cg A outer s H vs Q E aI h=>?_)
 ·obtain⟨n,p,m,rfl,_⟩:=h
  rfl
 obtain⟨n,p,m,rfl,aD,hm,q⟩:=h
 refine⟨_,aY (dc (c0 ih (c0 ih (c0 ye (ah 0) aX) (ah 1)) (ah 2))),?_⟩
 refine⟨_,rfl,_,_,rfl,rfl,.inr ⟨by decide,by decide⟩,_,rfl,_,_,rfl,rfl,aD,_,rfl,_,_,rfl,rfl,hm,?_⟩
 exact q _ (Int.emod_nonneg _ (by omega)) (Int.emod_lt_of_pos _ hm)
theorem RJ:dE uY uY (cT Bx):=dS
theorem Q0 (F:bZ K "_law_whole" "_law_whole" Bx f fd) (B:fc mg):a5 P w K mg base b1 1 f fd uY Hi:=by
 refine F.ok RJ (fun vs H Q E h=>?_) (fun cg A outer s H vs Q E aI h=>?_)
 ·obtain⟨i,rfl,_⟩:=h
  rfl
 obtain⟨i,rfl,q⟩:=h
 refine⟨_,aY (dc (uA (eV n4 rfl B.ju jl (ak (ah 0) (ak (la (v:=.ty "int") rfl B.int oh rfl) aK)))
  (yc (SJ (eV n4 rfl B.ju jl (ak (ah 0) (ak (la (v:=.ty "bool") rfl B.b8 Un rfl) aK))))))),?_⟩
 refine⟨_,rfl,_,_,_,_,rfl,.int i,Pr K,_,rfl,eY ?_⟩
 exact⟨_,rfl,_,_,_,_,rfl,.int i,Pe K,_,rfl,q⟩
theorem UK:dE uX uX (cT C5):=dS
theorem TY (F:bZ K "_law_at" "_law_at" C5 f fd) (B:fc mg):a5 P w K mg base b1 1 f fd uX (Jf K):=by
 refine F.ok UK (fun vs H Q E h=>?_) (fun cg A outer s H vs Q E aI h=>?_)
 ·obtain⟨a,ns,k,rfl,_⟩:=h
  rfl
 obtain⟨a,ns,k,rfl,l0,h0,q⟩:=h
 refine⟨_,bl (cO (cU yu (ah 1) (eV hX rfl B.len PySem.boot_len (ak (ah 0) aK)) (cN _)) (aY (dc (bP ee (ah 0) (ah 1) (fun _ _=>rfl)))) dK) (aY (dc aX)),?_⟩
 refine⟨_,rfl,_,rfl,a,_,rfl,.inl l0,_,_,rfl,rfl,_,rfl,?_⟩
 refine fE (fun c=>?_) (fun c=>?_)
 ·have gK:k<(((ns.map V.int).length:Nat):Int):=of_decide_eq_true c
  obtain⟨v,av,aC⟩:=B3 h0 gK
  obtain⟨z,rfl,_⟩:=F7 aC
  exact⟨_,rfl,_,rfl,a,_,_,_,rfl,rfl,l0,av,q z⟩
 ·exact q 0
theorem ue:dE ["_law_found","_law_due","_law_left","_law_right","_law_one","_law_two"] yU (cT BS):=dS
theorem HL {α:Type}(l:List α) (a:α):(l++[a])[(l++[a]).length - 1]?=some a:=by
 rw[length_append,length_singleton,Nat.add_sub_cancel,getElem?_append_right (le_refl _),sub_self]
 rfl
theorem Rh {g:Addr}{hy:FuncData}(F:bZ K "_law_alike" "_law_alike" BS f fd) (B:fc mg) (w5:a5 P w K mg base b1 1 g hy uY Hi) (wU:Binds K hy uY []) (YA:keepIn K (.ref g)=true) (wh:mg "_law_whole"=some (.ref g)) :
  a5 P w K mg base b1 2 f fd yU Hu:=by
 refine F.ok ue (fun vs H Q E h=>?_) (fun cg A outer s H vs Q E aI h=>?_)
 ·obtain⟨x,y,d,rfl,_⟩:=h
  rfl
 obtain⟨x,y,d,rfl,aZ,cA,hz,q⟩:=h
 have bp:=hp aI
 refine⟨_,(bl (cQ (i:=2) ue.bk rfl (Or.inl rfl) (fC (ak (ah 0) aK))) (bl (cQ (i:=3) ue.bk rfl (Or.inl rfl) (fC (ak (ah 1) aK))) (bl (QW PassesOwn.never (cU (GV (Nat.lt_of_succ_lt bp)) (ah 3) (fC aK) (cN _)) (bl (cQ (i:=4) ue.bk rfl (Or.inl rfl) (BX plainAttrs_list PySem.F.slot_list_pop PySem.F.type_list_pop H8 (ah 2))) (bl (cQ (i:=5) ue.bk rfl (Or.inl rfl) (BX plainAttrs_list PySem.F.slot_list_pop PySem.F.type_list_pop H8 (ah 3))) (aY (cO (i0 (eV QA rfl B.ju jl (ak (ah 5) (ak (fQ (ak (la (v:=.ty "list") rfl B.lst i3 rfl) (ak (la (v:=.ty "tuple") rfl B.tup B2 rfl) aK))) aK)))) (bl (cO (cU kD (eV n4 rfl B.ju jl (ak (ah 4) (ak (la (v:=.ty "list") rfl B.lst i3 rfl) aK))) (eV n4 rfl B.ju jl (ak (ah 5) (ak (la (v:=.ty "list") rfl B.lst i3 rfl) aK))) (cN _)) (aY (dc jj)) dK) (bl (cO (n8 (cU kD (eV n4 rfl B.ju jl (ak (ah 4) (ak (la (v:=.ty "tuple") rfl B.tup B2 rfl) aK))) (eV n4 rfl B.ju jl (ak (ah 5) (ak (la (v:=.ty "tuple") rfl B.tup B2 rfl) aK))) (cN _)) (cU kD (eV hX rfl B.len PySem.boot_len (ak (ah 4) aK)) (eV hX rfl B.len PySem.boot_len (ak (ah 5) aK)) (cN _))) (aY (dc jj)) dK) (bl (dD (i2 plainAttrs_list PySem.F.slot_list_extend PySem.F.type_list_extend Gd (ah 2) (ak (ah 4) aK))) (aY (dD (i2 plainAttrs_list PySem.F.slot_list_extend PySem.F.type_list_extend Gd (ah 3) (ak (ah 5) aK))))))) (aY (cO (i0 (eV n4 rfl B.ju jl (ak (ah 5) (ak (la (v:=.ty "str") rfl B.str Kf rfl) aK)))) (aY (cO (n8 (mb (i0 (eV n4 rfl B.ju jl (ak (ah 4) (ak (la (v:=.ty "str") rfl B.str Kf rfl) aK))))) (cU kD (ah 4) (ah 5) (cN _))) (aY (dc jj)) dK)) (aY (cO (n8 (mb (i0 (dj w5 (b6 aI) rfl wh YA wU .nil cW (ak (ah 4) aK)))) (cU kD (ah 4) (ah 5) (cN _))) (aY (dc jj)) dK))))))))) (aY (dc jj))))),?_⟩
 have small:∀{n:Nat},n≤190000→n<sizeLine:=fun h=>jS (by omega)
 refine⟨_,rfl,cX,fun l aG=>⟨_,rfl,cX,fun r pV=>?_⟩⟩
 have pS:l≠r:=cG (aT (H:=H) (a:=l) (o:=.lst [x])) pV
 have Dy:H r=none:=by rw[ay pS.symm]at pV;exact pV
 refine⟨fun m σ aq=>∃(ds:List D) (xs ys:List V) (bU b5:Option V),m=e6 ds∧σ=[some x,some y,some (.ref l),some (.ref r),bU,b5]∧bY H aq∧aq l=some (.lst xs)∧aq r=some (.lst ys)∧bE H ds xs∧bE H ds ys∧e6 ds≤190000,
  ⟨d.ez,[d],[x],[y],none,none,by rw[l9,ma];rfl,rfl,(b3 aG _).trans (b3 pV _),by rw[ay pS,aT],aT,.cons aZ .nil,.cons cA .nil,by rw[l9,ma];exact hz⟩,?_⟩
 rintro m σ aq ⟨ds,xs,ys,bU,b5,rfl,rfl,s2,aJ,aQ,bx,b7,hsz⟩
 refine⟨_,rfl,cX,fun t bG=>?_⟩
 have s3:bY H (upd aq t (.lst [])):=s2.trans (b3 bG _)
 have D3:(upd aq t (.lst [])) l=some (.lst xs):=by rw[ay (cG aJ bG)];exact aJ
 have D1:(upd aq t (.lst [])) r=some (.lst ys):=by rw[ay (cG aQ bG)];exact aQ
 have rt:(upd aq t (.lst [])) t=some (.lst []):=aT
 generalize upd aq t (.lst [])=a3 at s3 D3 D1 rt ⊢
 refine⟨r,t,ys,rfl,rfl,D1,rt,_,rfl,?_⟩
 rcases List.eq_nil_or_concat ds with rfl | ⟨nJ,d',Nm⟩
 ·rw[b7.nu]
  refine dQ ?_
  exact q a3 s3
 rw[List.concat_eq_append]at Nm
 subst Nm
 obtain⟨jm,kP,rfl,KQ,y5⟩:=bx.snoc
 obtain⟨jY,kO,rfl,KP,y4⟩:=b7.snoc
 have jx:(!(jY++[kO]).isEmpty)=true:=by simp
 rw[jx]
 refine eY ⟨_,fun bq af h=>h,?_⟩
 have c9:∀(fW:List D) (us vs:List V) (bU b5:Option V) (af:aj),e6 fW<d'.ez→bY H af→af l=some (.lst (jm++us))→af r=some (.lst (jY++vs))→bE H fW us→bE H fW vs →
   ∃ec,ec<e6 (nJ++[d'])∧∃(ds:List D) (xs ys:List V) (cp cI:Option V),ec=e6 ds∧([some x,some y,some (.ref l),some (.ref r),bU,b5]:St)=[some x,some y,some (.ref l),some (.ref r),cp,cI]∧bY H af∧af l=some (.lst xs)∧af r=some (.lst ys)∧bE H ds xs∧bE H ds ys∧e6 ds≤190000 :=
  fun fW us vs bU b5 af de cV av aC cB dw=>by
   have e:e6 (nJ++[d'])=e6 nJ+d'.ez:=by rw[xm,l9,ma,Nat.add_zero]
   have dH:e6 (nJ++fW)=e6 nJ+e6 fW:=xm _ _
   exact⟨e6 (nJ++fW),by omega,nJ++fW,_,_,bU,b5,rfl,rfl,cV,av,aC,KQ.append cB,KP.append dw,by omega⟩
 have JQ:(upd a3 l (.lst (jm++[kP]).dropLast)) r=some (.lst (jY++[kO])):=by rw[ay pS.symm];exact D1
 refine⟨_,rfl,.inl ⟨rfl,_,aV.of D3⟩,l,_,kP,rfl,rfl,D3,HL _ _,?_⟩
 refine⟨_,rfl,.inl ⟨rfl,_,aV.of JQ⟩,r,_,kO,rfl,rfl,JQ,HL _ _,?_⟩
 have s4:bY H (upd (upd a3 l (.lst (jm++[kP]).dropLast)) r (.lst (jY++[kO]).dropLast)):=(s3.iZ aG).iZ Dy
 have jH:(upd (upd a3 l (.lst (jm++[kP]).dropLast)) r (.lst (jY++[kO]).dropLast)) l=some (.lst jm):=by rw[ay pS,aT,List.dropLast_concat]
 have mU:(upd (upd a3 l (.lst (jm++[kP]).dropLast)) r (.lst (jY++[kO]).dropLast)) r=some (.lst jY):=by rw[aT,List.dropLast_concat]
 generalize upd (upd a3 l (.lst (jm++[kP]).dropLast)) r (.lst (jY++[kO]).dropLast)=c6 at s4 jH mU ⊢
 refine⟨_,rfl,cX,fun p aD=>?_⟩
 have kS:(upd c6 p (.tup [.ty "list",.ty "tuple"])) p=some (.tup [.ty "list",.ty "tuple"]):=aT
 have s5:bY H (upd c6 p (.tup [.ty "list",.ty "tuple"])):=s4.trans (b3 aD _)
 have lY:(upd c6 p (.tup [.ty "list",.ty "tuple"])) l=some (.lst jm):=by rw[ay (cG jH aD)];exact jH
 have mT:(upd c6 p (.tup [.ty "list",.ty "tuple"])) r=some (.lst jY):=by rw[ay (cG mU aD)];exact mU
 generalize upd c6 p (.tup [.ty "list",.ty "tuple"])=e_ at kS s5 lY mT ⊢
 have hlen:∀(fW:List D) (us:List V),e6 fW<d'.ez→bE H fW us→jm.length+us.length≤sizeLine∧jY.length+us.length≤sizeLine:=fun fW us av aC=>by
  have a1:=Br fW
  have a2:=aC.length
  have ks:=Br nJ
  have OR:=KQ.length
  have OQ:=KP.length
  have e:e6 (nJ++[d'])=e6 nJ+d'.ez:=by rw[xm,l9,ma,Nat.add_zero]
  exact⟨le_of_lt (small (by omega)),le_of_lt (small (by omega))⟩
 cases d' with
 | int i =>
  cases y5.int_inv
  cases y4.int_inv
  refine⟨_,_,p,["list","tuple"],_,rfl,.int i,kS,R7 K,_,rfl,dQ ?_⟩
  refine⟨_,rfl,_,_,_,_,rfl,.int i,Pq K,_,rfl,dQ ?_⟩
  refine⟨_,rfl,i,rfl,_,rfl,dQ ?_⟩
  refine⟨_,rfl,_,rfl,rfl,_,rfl,mh rfl ?_⟩
  exact c9 [] [] [] _ _ e_ (by rw[ma,sz];decide) s5 (by rw[append_nil];exact lY) (by rw[append_nil];exact mT) .nil .nil
 | str z =>
  cases y5.str_inv
  cases y4.str_inv
  refine⟨_,_,p,["list","tuple"],_,rfl,.str z,kS,R6 K,_,rfl,dQ ?_⟩
  refine⟨_,rfl,_,_,_,_,rfl,.str z,F4 K,_,rfl,eY ?_⟩
  refine⟨_,rfl,_,_,_,_,rfl,.str z,F4 K,_,rfl,dQ ?_⟩
  refine⟨_,rfl,_,rfl,rfl,_,rfl,mh rfl ?_⟩
  exact c9 [] [] [] _ _ e_ (by rw[ma,qK];decide) s5 (by rw[append_nil];exact lY) (by rw[append_nil];exact mT) .nil .nil
 | tup fW =>
  obtain⟨a,us,rfl,bf,iQ⟩:=y5.qF
  obtain⟨b,vs,rfl,aa,rK⟩:=y4.qF
  have oD:=s5 _ _ bf
  have mH:=s5 _ _ aa
  have de:e6 fW<(D.tup fW).ez:=by rw[HX];omega
  obtain⟨dT,_⟩:=hlen fW us de iQ
  obtain⟨_,d6⟩:=hlen fW vs de rK
  refine⟨_,_,p,["list","tuple"],_,rfl,.tup mH,kS,Ql K,_,rfl,eY ?_⟩
  refine⟨_,rfl,_,_,_,_,rfl,.tup oD,FG K,_,rfl,_,_,_,_,rfl,.tup mH,FG K,rfl,_,rfl,mh rfl ?_⟩
  refine⟨_,rfl,_,_,_,_,rfl,.tup oD,FE K,_,rfl,_,_,_,_,rfl,.tup mH,FE K,rfl,_,rfl,mh rfl ?_⟩
  refine⟨_,rfl,a,us,rfl,.inr (aP.of oD),_,rfl,b,vs,rfl,.inr (aP.of mH),rfl,_,rfl,mh (by rw[iQ.length,rK.length]) ?_⟩
  refine⟨_,rfl,.inl ⟨rfl,_,aV.of lY⟩,_,rfl,l,a,jm,us,rfl,rfl,lY,.inr oD,dT,?_⟩
  have DL:(upd e_ l (.lst (jm++us))) b=some (.tup vs):=by rw[ay (cG aa aG)];exact mH
  have oV:(upd e_ l (.lst (jm++us))) r=some (.lst jY):=by rw[ay pS.symm];exact mT
  refine⟨_,rfl,.inl ⟨rfl,_,aV.of oV⟩,_,rfl,r,b,jY,vs,rfl,rfl,oV,.inr DL,d6,?_⟩
  exact c9 fW us vs _ _ _ de ((s5.iZ aG).iZ Dy) (by rw[ay pS,aT]) aT iQ rK
 | lst fW =>
  obtain⟨a,us,rfl,bf,iQ⟩:=y5.lst_inv
  obtain⟨b,vs,rfl,aa,rK⟩:=y4.lst_inv
  have oD:=s5 _ _ bf
  have mH:=s5 _ _ aa
  have de:e6 fW<(D.lst fW).ez:=by rw[x5];omega
  obtain⟨dT,_⟩:=hlen fW us de iQ
  obtain⟨_,d6⟩:=hlen fW vs de rK
  refine⟨_,_,p,["list","tuple"],_,rfl,.lst mH,kS,Ro K,_,rfl,eY ?_⟩
  refine⟨_,rfl,_,_,_,_,rfl,.lst oD,AB K,_,rfl,_,_,_,_,rfl,.lst mH,AB K,rfl,_,rfl,mh rfl ?_⟩
  refine⟨_,rfl,_,_,_,_,rfl,.lst oD,FH K,_,rfl,_,_,_,_,rfl,.lst mH,FH K,rfl,_,rfl,mh rfl ?_⟩
  refine⟨_,rfl,a,us,rfl,.inl (aV.of oD),_,rfl,b,vs,rfl,.inl (aV.of mH),rfl,_,rfl,mh (by rw[iQ.length,rK.length]) ?_⟩
  refine⟨_,rfl,.inl ⟨rfl,_,aV.of lY⟩,_,rfl,l,a,jm,us,rfl,rfl,lY,.inl oD,dT,?_⟩
  have DL:(upd e_ l (.lst (jm++us))) b=some (.lst vs):=by rw[ay (cG aa aG)];exact mH
  have oV:(upd e_ l (.lst (jm++us))) r=some (.lst jY):=by rw[ay pS.symm];exact mT
  refine⟨_,rfl,.inl ⟨rfl,_,aV.of oV⟩,_,rfl,r,b,jY,vs,rfl,rfl,oV,.inl DL,d6,?_⟩
  exact c9 fW us vs _ _ _ de ((s5.iZ aG).iZ Dy) (by rw[ay pS,aT]) aT iQ rK
def Hv:dg:=fun vs H Q _=>∃(l:Addr) (xs:List V) (log:List dV) (p:Nat),vs=[.ref l,.int (p:Nat)]∧H l=some (.lst xs)∧i4 H log xs∧Q (.b8 (log.any (jR p))) H
def GQ:dg:=fun vs H Q _=>∃(ce ao lo pu:Addr) (cs ds:List Int) (xs:List V) (log:List dV) (kvs:List (Key × V)) (op:Int→Bool),vs=[.ref ce,.ref ao,.ref lo,.ref pu]∧H ce=some (.lst (cs.map V.int))∧H ao=some (.lst (ds.map V.int))∧cs.length=ds.length∧H lo=some (.lst xs)∧i4 H log xs∧(∀ln∈log,ln.ok ds.length)∧log.length≤100000 ∧
 H pu=some (.b2 kvs)∧(∀d:Int,(dk kvs (Sum.inl d)).isSome=op d)∧∀af,bY H af→Q (.int (g_ cs ds op log:Nat)) af
def ua:dg:=fun vs H Q _=>∃(h ce ao lo pu st:Addr) (pl:List (Int × Addr)) (x:aE) (v:V) (s:dN),vs=[.ref h,v]∧bh H h ce ao lo pu st pl x∧Rep H s.D v∧s.okIn x∧x.fits 1 ∧
 ∀lo' af,bh af h ce ao lo' pu st pl (x.da s)→hG (own h ce ao pu st pl) lo lo' H af→Q .cc af
def Ba:dg:=fun vs H Q _=>∃(h ce ao lo pu st:Addr) (pl:List (Int × Addr)) (x:aE),vs=[.ref h]∧bh H h ce ao lo pu st pl x∧x.fits 1 ∧
 ∀lo' af,bh af h ce ao lo' pu st pl x.f5→hG (own h ce ao pu st pl) lo lo' H af→Q .cc af
def AO:dg:=fun vs H Q _=>∃(h ce ao lo pu st:Addr) (pl:List (Int × Addr)) (x:aE) (p:Nat),vs=[.ref h,.int (p:Nat)]∧bh H h ce ao lo pu st pl x∧p<x.aO.length∧x.fits 1 ∧
 ∀lo' af,bh af h ce ao lo' pu st pl (x.gB p)→hG (own h ce ao pu st pl) lo lo' H af→Q .cc af
theorem HA:dE ["_law_lines","_law_page","_law_one"] yT (cT BU):=dS
theorem Ri (F:bZ K "_law_put_again" "_law_put_again" BU f fd):a5 P w K mg base b1 1 f fd yT Hv:=by
 refine F.ok HA (fun vs H Q E h=>?_) (fun cg A outer s H vs Q E aI h=>?_)
 ·obtain⟨l,xs,log,p,rfl,_⟩:=h
  rfl
 obtain⟨l,xs,log,p,rfl,aG,fK,q⟩:=h
 refine⟨_,(bl (kC PassesOwn.never rfl (pA (ah 0)) (hY (i:=2) HA.bk rfl (Or.inl rfl)) (aY (cO (qG (cU d2 (bP cH (ah 2) aX (fun _ _=>rfl)) bg (cN _)) (cU d2 (bP cH (ah 2) aX (fun _ _=>rfl)) (ah 1) (cN _))) (aY (dc jj)) dK))) (aY (dc jj))),?_⟩
 refine⟨_,rfl,l,rfl,⟨xs,aV.of aG⟩,xN (K:=K) (a:=l) (xs:=xs) (fun i σ aq=>∃o:Option V,σ=[some (.ref l),some (.int (p:Nat)),o]∧aq=H∧(log.take i).any (jR p)=false)
  ⟨none,rfl,rfl,rfl⟩ (fun i σ aq _ ⟨_,_,e,_⟩=>by rw[e];exact aV.of aG) ?_ ?_⟩
 ·rintro i x σ aq aW ⟨o,rfl,rfl,aN⟩
  obtain⟨ln,iy,j5⟩:=fK.get aW
  have hA:(log.take (i+1)).any (jR p)=jR p ln:=by
   rw[take_add_one,any_append,aN,iy]
   simp
  cases ln with
  | fin d =>
   obtain⟨c,rfl,ai⟩:=j5
   refine⟨_,rfl,c,_,_,_,rfl,rfl,aP.of ai,rfl,rfl,_,rfl,bH yt ?_⟩
   refine dQ ?_
   exact⟨_,rfl,rfl,hA⟩
  | put d ht eO n =>
   obtain⟨c,rfl,ai⟩:=j5
   refine⟨_,rfl,c,_,_,_,rfl,rfl,aP.of ai,rfl,rfl,_,rfl,ei rfl ?_⟩
   refine⟨_,rfl,c,_,_,_,rfl,rfl,aP.of ai,rfl,_,rfl,rfl,_,rfl,fE (fun b_=>?_) (fun b_=>?_)⟩
   ·have aJ:V.int (ht:Nat)=V.int (p:Nat):=of_decide_eq_true b_
    injection aJ with aJ
    have aQ:ht=p:=by omega
    have b9:log.any (jR p)=true:=any_eq_true.mpr ⟨_,mem_of_getElem? iy,decide_eq_true aQ⟩
    rw[b9]at q
    exact q
   ·refine⟨_,rfl,rfl,?_⟩
    rw[hA]
    refine decide_eq_false fun z=>b_ (decide_eq_true (by rw[z]))
 ·rintro σ aq ⟨o,rfl,rfl,aN⟩
  rw[←fK.1,take_length]at aN
  rw[aN]at q
  exact q
theorem xC:dE ["_law_pages","_law_desk","_law_log","_law_puts","_law_k","_law_line","_law_page"] yS (cT Bj):=dS
theorem Qd {cs ds:List Int}{op:Int→Bool}{log:List dV}{i:Nat}{ln:dV}(h:log[i]?=some ln):log.drop i=ln::log.drop (i+1):=by
 obtain⟨aW,e⟩:=List.getElem?_eq_some_iff.mp h
 rw[List.drop_eq_getElem_cons aW,e]
theorem P9 {E6:Addr}{OM:FuncData}(F:bZ K "_law_needed" "_law_needed" Bj f fd) (B:fc mg) (Zd:a5 P w K mg base b1 1 E6 OM yT Hv) (YV:Binds K OM yT []) (YC:keepIn K (.ref E6)=true) (Yw:mg "_law_put_again"=some (.ref E6)) :
  a5 P w K mg base b1 2 f fd yS GQ:=by
 refine F.ok xC (fun vs H Q E h=>?_) (fun cg A outer s H vs Q E aI h=>?_)
 ·obtain⟨ce,ao,lo,pu,cs,ds,xs,log,kvs,op,rfl,_⟩:=h
  rfl
 obtain⟨ce,ao,lo,pu,cs,ds,xs,log,kvs,op,rfl,ai,hd,j4,aG,fK,bC,oQ,aD,oA,q⟩:=h
 have bp:=hp aI
 have mY:=fK.1
 refine⟨_,(bl (kC PassesOwn.never rfl (pn rfl B.kG (ak (eV hX rfl B.len PySem.boot_len (ak (ah 2) aK)) aK)) (hY (i:=4) xC.bk rfl (Or.inl rfl)) (bl (cQ (i:=5) xC.bk rfl (Or.inl rfl) (bP ee (ah 2) (ah 4) (fun _ _=>rfl))) (aY (cO (cU d2 (bP cH (ah 5) aX (fun _ _=>rfl)) bg (cN _)) (bl (cO (ux (BY bp (bP cH (ah 5) aX (fun _ _=>rfl)) (ah 3))) (aY (dc (ah 4))) dK) (bl (cQ (i:=6) xC.bk rfl (Or.inl rfl) (bP cH (ah 5) aX (fun _ _=>rfl))) (aY (cO (qG (mb (i0 (dj Zd (b6 aI) rfl Yw YC YV .nil cW (ak (xG xS (ah 2) (xU (c0 gN (ah 4) aX)) xV) (ak (ah 6) aK))))) (cU kD (bP ee (ah 0) (ah 6) (fun _ _=>rfl)) (bP ee (ah 1) (ah 6) (fun _ _=>rfl)) (cN _))) (aY (dc (ah 4))) dK)))) dK)))) (aY (dc (eV hX rfl B.len PySem.boot_len (ak (ah 2) aK))))),?_⟩
 refine⟨_,rfl,lo,xs,rfl,.inl (aV.of aG),_,rfl,by omega,by omega,sk (fun i σ aq=>∃hu hi kg:Option V,σ=[some (.ref ce),some (.ref ao),some (.ref lo),some (.ref pu),hu,hi,kg]∧bY H aq∧g_ cs ds op log=i+g_ cs ds op (log.drop i))
  ⟨none,none,none,rfl,bY.refl _,by rw[List.drop_zero,zero_add]⟩ ?_ ?_⟩
 ·rintro i σ aq aW ⟨hu,hi,kg,rfl,s2,aN⟩
  have e0:(0:Int)+(i:Int)=((i:Nat):Int):=by omega
  rw[e0]
  have j2:i<xs.length:=by omega
  obtain⟨ln,iy,j5⟩:=fK.get (getElem?_eq_getElem j2)
  have nx:=j5.mono s2.gC
  have hb:=Qd (cs:=cs) (ds:=ds) (op:=op) iy
  rw[hb]at aN
  refine⟨_,rfl,_,rfl,lo,_,_,_,rfl,rfl,aV.of (s2 _ _ aG),ng (getElem?_eq_getElem j2),?_⟩
  generalize xs[i]=v at nx ⊢
  cases ln with
  | fin d =>
   obtain⟨c,rfl,bA⟩:=nx
   refine⟨_,rfl,c,_,_,_,rfl,rfl,aP.of bA,rfl,rfl,_,rfl,bH yt ?_⟩
   refine⟨_,_,_,rfl,s2,?_⟩
   rw[aN]
   show i+(g_ cs ds op (log.drop (i+1))+1)=_
   omega
  | put d p o n =>
   obtain⟨c,rfl,bA⟩:=nx
   have WI:p<ds.length:=bC _ (mem_of_getElem? iy)
   refine⟨_,rfl,c,_,_,_,rfl,rfl,aP.of bA,rfl,rfl,_,rfl,ei rfl ?_⟩
   refine⟨_,rfl,c,_,_,_,rfl,rfl,aP.of bA,rfl,_,rfl,pu,_,rfl,fb.k (k:=Sum.inl d) (s2 _ _ aD),_,rfl,?_⟩
   rw[oA d]
   have iJ:¬(op d=true∨((log.drop (i+1)).any (jR p)=false∧cs[p]?≠ds[p]?))→g_ cs ds op log=(i+1)+g_ cs ds op (log.drop (i+1)):=fun z=>by
    rw[aN]
    show i+(if _ then _ else _)=_
    rw[if_neg z]
    omega
   have stop:(op d=true∨((log.drop (i+1)).any (jR p)=false∧cs[p]?≠ds[p]?))→g_ cs ds op log=i:=fun z=>by
    rw[aN]
    show i+(if _ then _ else _)=_
    rw[if_pos z]
    rfl
   refine fE (fun b_=>?_) (fun b_=>?_)
   ·have aU:=q aq s2
    rw[stop (.inl b_)]at aU
    exact⟨_,rfl,aU⟩
   refine⟨_,rfl,c,_,_,_,rfl,rfl,aP.of bA,rfl,?_⟩
   refine⟨_,rfl,_,rfl,_,_,rfl,rfl,_,rfl,lo,_,rfl,aV.of (s2 _ _ aG),fun u s7=>?_⟩
   have aJ:((i:Nat):Int)+1=((i+1:Nat):Int):=by omega
   rw[aJ,x3]at *
   have s3:=b3 s7 (.lst (xs.drop (i+1)))
   have kX:(upd aq u (.lst (xs.drop (i+1)))) u=some (.lst (xs.drop (i+1))):=aT
   generalize upd aq u (.lst (xs.drop (i+1)))=a3 at s3 kX ⊢
   have hT:=s2.trans s3
   obtain⟨dT,a1,en⟩:=ji (ns:=cs) (k:=((p:Nat):Int)) (by omega) (by omega)
   obtain⟨d6,a2,fk⟩:=ji (ns:=ds) (k:=((p:Nat):Int)) (by omega) (by omega)
   rw[Int.toNat_natCast]at a1 a2
   refine⟨_,rfl,u,_,log.drop (i+1),p,rfl,kX,(fK.mono fun a x h=>h.mono hT.gC).drop _,_,rfl,?_⟩
   cases JN:(log.drop (i+1)).any (jR p) with
   | true =>
    refine dQ (dQ ?_)
    exact⟨_,_,_,rfl,hT,iJ fun z=>z.elim (fun y=>b_ y) fun y=>by rw[JN]at y;cases y.1⟩
   | false =>
    refine eY ?_
    refine⟨_,rfl,_,rfl,ce,_,_,_,rfl,rfl,aV.of (hT _ _ ai),en,_,rfl,_,rfl,ao,_,_,_,rfl,rfl,aV.of (hT _ _ hd),fk,rfl,_,rfl,?_⟩
    by_cases e:dT=d6
    ·rw[e]
     have eE:decide (V.int d6=V.int d6)=true:=decide_eq_true rfl
     rw[eE]
     refine dQ ?_
     exact⟨_,_,_,rfl,hT,iJ fun z=>z.elim (fun y=>b_ y) fun y=>y.2 (by rw[a1,a2,e])⟩
    ·have eE:decide (V.int dT=V.int d6)=false:=decide_eq_false fun y=>e (by injection y)
     rw[eE]
     refine eY ?_
     have aU:=q a3 hT
     rw[stop (.inr ⟨JN,by rw[a1,a2];exact fun y=>e (Option.some.inj y)⟩)]at aU
     exact⟨_,rfl,aU⟩
 ·rintro σ aq ⟨hu,hi,kg,rfl,s2,aN⟩
  have aQ:(xs.length:Int).toNat=log.length:=by omega
  rw[aQ,List.drop_length]at aN
  have aU:=q aq s2
  rw[aN]at aU
  refine⟨_,rfl,lo,xs,rfl,.inl (aV.of (s2 _ _ aG)),?_⟩
  rw[←mY]
  exact aU
theorem QH:dE mC mC (cT Bh):=dS
theorem I_:¬(V.str "cut"=V.str "line"):=by decide +kernel
theorem Ir:¬(V.str "page"=V.str "line"):=by decide +kernel
theorem TO:¬(V.str "page"=V.str "cut"):=by decide +kernel
theorem P8 (F:bZ K "_law_stroke_in" "_law_stroke_in" Bh f fd) (B:fc mg):a5 P w K mg base b1 1 f fd mC ua:=by
 refine F.ok QH (fun vs H Q E h=>?_) (fun cg A outer s H vs Q E aI h=>?_)
 ·obtain⟨h,ce,ao,lo,pu,st,pl,x,v,s,rfl,_⟩:=h
  rfl
 obtain⟨h,ce,ao,lo,pu,st,pl,x,v,cV,rfl,bO,bD,bC,⟨dT,d6,tg⟩,q⟩:=h
 have bp:=hp aI
 refine⟨_,(bl (dD (i2 plainAttrs_list PySem.F.slot_list_append PySem.F.type_list_append iY (ew bp (ah 0) bg (fun _ _=>rfl)) (ak (ah 1) aK))) (aY (cO (cU d2 (bP cH (ah 1) aX (fun _ _=>rfl)) bg (cN _)) (aY (nd bp (ah 0) bg (c0 yf (ew bp (ah 0) bg (fun _ _=>rfl)) (fC (ak (bP cH (ah 1) aX (fun _ _=>rfl)) aK))) rfl)) (aY (cO (cU d2 (bP cH (ah 1) aX (fun _ _=>rfl)) bg (cN _)) (aY (nd bp (ah 0) bg (xG xS (ew bp (ah 0) bg (fun _ _=>rfl)) (xU (bP cH (ah 1) aX (fun _ _=>rfl))) xV) rfl)) (aY (x9 (bP cH (ah 1) aX (fun _ _=>rfl)) (yb (ew bp (ah 0) bg (fun _ _=>rfl)) (bP cH (ah 1) aX (fun _ _=>rfl)) set_list)))))))),?_⟩
 obtain⟨zs,aM,rs⟩:=bO.fG
 have lX:=rs.length
 rw[length_map]at lX
 refine⟨_,rfl,h,_,rfl,bO.Ru,.inl ⟨rfl,_,aV.of aM⟩,_,rfl,st,zs,v,rfl,rfl,aM,jS (by omega),?_⟩
 have a_:=bO.Jh aM rs bD
 have kt:eX H (upd H st (.lst (zs++[v]))):=t5 aM
 have sU:=Rep.keep kt _ _ (dN.fR cV) bD
 have b5:h6 (own h ce ao pu st pl) H (upd H st (.lst (zs++[v]))):=nf (bh.ms ..)
 generalize upd H st (.lst (zs++[v]))=aq at a_ sU b5 ⊢
 cases cV with
 | line ln =>
  obtain⟨c,b0,cM,rfl,ai,bx,b7⟩:=gk sU
  cases bx.str_inv
  refine⟨_,rfl,c,_,_,_,rfl,rfl,aP.of ai,rfl,rfl,_,rfl,ei rfl ?_⟩
  obtain⟨xs,hQ,p9⟩:=a_.aG
  have rP:xs.length=x.log.length:=p9.1.symm
  refine⟨_,rfl,h,_,rfl,a_.u4,_,rfl,c,_,_,_,rfl,rfl,aP.of ai,rfl,cX,fun g4 av=>?_⟩
  have s3:=b3 av (.lst [cM])
  have b9:(upd aq g4 (.lst [cM])) g4=some (.lst [cM]):=aT
  generalize upd aq g4 (.lst [cM])=a3 at s3 b9 ⊢
  have cn:=a_.same s3
  refine⟨lo,g4,_,_,rfl,rfl,s3 _ _ hQ,b9,le_of_lt (jS (by rw[length_singleton];omega)),fun gb aC=>?_⟩
  have s4:=b3 aC (.lst (xs++[cM]))
  have cC:(upd a3 gb (.lst (xs++[cM]))) gb=some (.lst (xs++[cM])):=aT
  have c_:=cn.there aC
  generalize upd a3 gb (.lst (xs++[cM]))=c6 at s4 cC ⊢
  have d4:=cn.same s4
  have o8:=s3.trans s4
  have Fl:i4 c6 (x.log++[ln]) (xs++[cM]):=h3.snoc (p9.mono fun a y q=>q.mono o8.gC) ((mq.Iz b7).mono o8.gC)
  refine⟨_,rfl,h,_,rfl,d4.Jt _,?_⟩
  exact q gb _ (d4.Cr cC Fl c_) (.fresh (b5.trans (bY.dh s3)) aC (b5.trans ((bY.dh o8).trans (nf (bh.p_ ..)))))
 | cut k =>
  obtain⟨c,b0,cM,rfl,ai,bx,b7⟩:=gk sU
  cases bx.str_inv
  cases b7.int_inv
  refine⟨_,rfl,c,_,_,_,rfl,rfl,aP.of ai,rfl,rfl,_,rfl,bH I_ ?_⟩
  refine⟨_,rfl,c,_,_,_,rfl,rfl,aP.of ai,rfl,rfl,_,rfl,ei rfl ?_⟩
  obtain⟨xs,hQ,p9⟩:=a_.aG
  refine⟨_,rfl,h,_,rfl,a_.u4,_,rfl,c,_,_,_,rfl,rfl,aP.of ai,rfl,_,rfl,lo,xs,rfl,aV.of hQ,fun gb aC=>?_⟩
  rw[x3]at *
  have s4:=b3 aC (.lst (xs.drop k))
  have cC:(upd aq gb (.lst (xs.drop k))) gb=some (.lst (xs.drop k)):=aT
  have c_:=a_.there aC
  generalize upd aq gb (.lst (xs.drop k))=c6 at s4 cC ⊢
  have d4:=a_.same s4
  have Fl:i4 c6 (x.log.drop k) (xs.drop k):=(p9.mono fun a y q=>q.mono s4.gC).drop k
  refine⟨_,rfl,h,_,rfl,d4.Jt _,?_⟩
  exact q gb _ (d4.Cr cC Fl c_) (.fresh b5 aC (b5.trans ((bY.dh s4).trans (nf (bh.p_ ..)))))
 | f6 p n =>
  obtain⟨c,b0,cM,g0,rfl,ai,bx,b7,kR⟩:=GR sU
  cases bx.str_inv
  cases b7.int_inv
  cases kR.int_inv
  refine⟨_,rfl,c,_,_,_,rfl,rfl,aP.of ai,rfl,rfl,_,rfl,bH Ir ?_⟩
  refine⟨_,rfl,c,_,_,_,rfl,rfl,aP.of ai,rfl,rfl,_,rfl,bH TO ?_⟩
  have aD:p<x.aO.length:=bC
  refine⟨_,rfl,c,_,_,_,rfl,rfl,aP.of ai,rfl,_,rfl,h,_,rfl,a_.Bs,_,rfl,c,_,_,_,rfl,rfl,aP.of ai,rfl,ce,_,_,p,rfl,rfl,a_.ai,x1 (by rw[length_map];exact bO.cd ▸ aD),?_⟩
  rw[xh]
  exact q lo _ (a_.setC (by rw[length_set];exact bO.cd)) (b5.trans (nf (bh.qa ..))).l
def A9:dg:=fun vs H Q _=>∃(h ce ao lo pu st:Addr) (pl:List (Int × Addr)) (x:aE) (d:Int) (p:Nat) (n:Int),vs=[.ref h,.int d,.int (p:Nat),.int n]∧bh H h ce ao lo pu st pl x∧p<x.aO.length∧x.fits 1 ∧
 ∀lo' af,bh af h ce ao lo' pu st pl (x.putIn d p n)→hG (own h ce ao pu st pl) lo lo' H af→Q .cc af
def Hs:dg:=fun vs H Q _=>∃(h ce ao lo pu st:Addr) (pl:List (Int × Addr)) (x:aE),vs=[.ref pu]∧bh H h ce ao lo pu st pl x∧x.bQ.length≤200∧∀af,bY H af→Q (.int x.bound) af
def Hj:dg:=fun vs H Q _=>∃(h ce ao lo pu st:Addr) (pl:List (Int × Addr)) (x:aE) (p:Nat),vs=[.ref pu,.int (p:Nat)]∧bh H h ce ao lo pu st pl x∧∀af,bY H af→Q (.int ((x.eK p).getD (-1))) af
def H2:dg:=fun vs H Q _=>∃(h ce ao lo pu st:Addr) (pl:List (Int × Addr)) (x:aE) (m:Int),vs=[.ref h,.int m]∧bh H h ce ao lo pu st pl x∧x.bQ.length≤200∧x.aO.length≤1000∧x.fits (x.aO.length+1) ∧
 ∀lo' af,bh af h ce ao lo' pu st pl (x.full m).1→hG (own h ce ao pu st pl) lo lo' H af→Q (.b8 (x.full m).2) af
theorem Hy:dE ["_law_mine","_law_many"] sO (cT BJ):=dS
theorem Q9 {je:Addr}{kr:FuncData}{gf:Addr}{g5:FuncData}(F:bZ K "_law_cut_in" "_law_cut_in" BJ f fd) (B:fc mg) (pa:a5 P w K mg base b1 2 je kr yS GQ) (o5:Binds K kr yS []) (EV:keepIn K (.ref je)=true) (mN:mg "_law_needed"=some (.ref je)) (jP:a5 P w K mg base b1 1 gf g5 mC ua) (jM:Binds K g5 mC []) (rQ:keepIn K (.ref gf)=true) (jG:mg "_law_stroke_in"=some (.ref gf)):a5 P w K mg base b1 3 f fd sO Ba:=by
 refine F.ok Hy (fun vs H Q E h=>?_) (fun cg A outer s H vs Q E aI h=>?_)
 ·obtain⟨h,ce,ao,lo,pu,st,pl,x,rfl,_⟩:=h
  rfl
 obtain⟨h,ce,ao,lo,pu,st,pl,x,rfl,bO,z,q⟩:=h
 have bp:=hp aI
 refine⟨_,(bl (cQ (i:=1) Hy.bk rfl (Or.inl rfl) (dj pa (b6 aI) rfl mN EV o5 .nil cW (ak (ew bp (ah 0) bg (fun _ _=>rfl)) (ak (ew bp (ah 0) bg (fun _ _=>rfl)) (ak (ew bp (ah 0) bg (fun _ _=>rfl)) (ak (ew bp (ah 0) bg (fun _ _=>rfl)) aK)))))) (aY (cO (cU yv (ah 1) aX (cN _)) (aY (dD (dj jP (b6 aI) rfl jG rQ jM .nil cW (ak (ah 0) (ak (fQ (ak bg (ak (ah 1) aK))) aK))))) dK))),?_⟩
 obtain⟨xs,hQ,p9⟩:=bO.aG
 refine⟨_,rfl,h,_,rfl,bO.Bs,_,rfl,h,_,rfl,bO.kE,_,rfl,h,_,rfl,bO.u4,_,rfl,h,_,rfl,bO.jT,?_⟩
 refine⟨ce,ao,lo,pu,_,_,xs,x.log,_,x.isOpen,rfl,bO.ai,bO.hd,bO.cd,hQ,p9,z.2.2,by have:=z.2.1;omega,bO.aD,bO.isOpen,fun aq s2=>?_⟩
 have a_:=bO.same s2
 have gJ:x.f5=if 0<g_ x.d7 x.aO x.isOpen x.log then x.da (.cut (g_ x.d7 x.aO x.isOpen x.log)) else x:=rfl
 generalize g_ x.d7 x.aO x.isOpen x.log=n at gJ ⊢
 refine⟨_,rfl,_,_,rfl,rfl,_,rfl,fE (fun b_=>?_) (fun b_=>?_)⟩
 ·have dz:0<n:=by have e9:(0:Int)<(n:Nat):=of_decide_eq_true b_;omega
  rw[if_pos dz]at gJ
  refine⟨_,rfl,_,rfl,cX,fun t bG=>?_⟩
  have s3:=b3 bG (.tup [.str "cut",.int (n:Nat)])
  refine⟨h,ce,ao,lo,pu,st,pl,x,.ref t,.cut n,rfl,a_.same s3,.f3 aT (.cons .ofStr (.cons .ofInt .nil)),True.intro,z,fun lo' af cn dr=>?_⟩
  rw[←gJ]at cn
  exact q lo' af cn ((bY.dh (s2.trans s3)).l.trans dr)
 ·have dz:¬0<n:=fun y=>b_ (decide_eq_true (by omega))
  rw[if_neg dz]at gJ
  rw[←gJ]at a_
  exact q lo aq a_ ((bY.dh s2).l)
theorem Gq:dE ["_law_mine","_law_page","_law_number"] sN (cT A0):=dS
theorem PF {gf:Addr}{g5:FuncData}(F:bZ K "_law_carry_in" "_law_carry_in" A0 f fd) (B:fc mg) (jP:a5 P w K mg base b1 1 gf g5 mC ua) (jM:Binds K g5 mC []) (rQ:keepIn K (.ref gf)=true) (jG:mg "_law_stroke_in"=some (.ref gf)):a5 P w K mg base b1 2 f fd sN AO:=by
 refine F.ok Gq (fun vs H Q E h=>?_) (fun cg A outer s H vs Q E aI h=>?_)
 ·obtain⟨h,ce,ao,lo,pu,st,pl,x,p,rfl,_⟩:=h
  rfl
 obtain⟨h,ce,ao,lo,pu,st,pl,x,p,rfl,bO,aD,z,q⟩:=h
 have bp:=hp aI
 refine⟨_,(bl (cQ (i:=2) Gq.bk rfl (Or.inl rfl) (bP ee (ew bp (ah 0) bg (fun _ _=>rfl)) (ah 1) (fun _ _=>rfl))) (aY (cO (cU kD (bP ee (ew bp (ah 0) bg (fun _ _=>rfl)) (ah 1) (fun _ _=>rfl)) (ah 2) (cN _)) (aY (dD (dj jP (b6 aI) rfl jG rQ jM .nil cW (ak (ah 0) (ak (fQ (ak bg (ak (ah 1) (ak (ah 2) aK)))) aK))))) dK))),?_⟩
 obtain⟨c,b_,dz⟩:=bO.atC aD
 obtain⟨d,fX,eF⟩:=bO.p5 aD
 have gJ:x.gB p=if x.d7[p]?=x.aO[p]? then x else x.da (.f6 p (x.aO.getD p 0)):=rfl
 rw[getD_eq_getElem?_getD,b_,fX,Option.getD_some]at gJ
 refine⟨_,rfl,h,_,rfl,bO.kE,_,rfl,ao,_,_,_,rfl,rfl,aV.of bO.hd,eF,?_⟩
 refine⟨_,rfl,h,_,rfl,bO.Bs,_,rfl,ce,_,_,_,rfl,rfl,aV.of bO.ai,dz,_,rfl,rfl,_,rfl,?_⟩
 by_cases e:c=d
 ·have eE:decide (V.int c=V.int d)=true:=decide_eq_true (by rw[e])
  rw[eE]
  rw[if_pos (by rw[e])]at gJ
  refine dQ ?_
  rw[←gJ]at bO
  exact q lo H bO (h6.refl _ _).l
 ·have eE:decide (V.int c=V.int d)=false:=decide_eq_false fun y=>e (by injection y)
  rw[eE]
  rw[if_neg (fun y=>e (Option.some.inj y))]at gJ
  refine eY ?_
  refine⟨_,rfl,_,rfl,_,rfl,cX,fun t bG=>?_⟩
  have s3:=b3 bG (.tup [.str "page",.int (p:Nat),.int d])
  refine⟨h,ce,ao,lo,pu,st,pl,x,.ref t,.f6 p d,rfl,bO.same s3,.f3 aT (.cons .ofStr (.cons .ofInt (.cons .ofInt .nil))),aD,z,fun lo' af cn dr=>?_⟩
  rw[←gJ]at cn
  exact q lo' af cn ((bY.dh s3).l.trans dr)
theorem Hw:dE ["_law_mine","_law_dealing","_law_page","_law_number","_law_old"] sM (cT BA):=dS
theorem Q3 {gf:Addr}{g5:FuncData}(F:bZ K "_law_put_in" "_law_put_in" BA f fd) (B:fc mg) (jP:a5 P w K mg base b1 1 gf g5 mC ua) (jM:Binds K g5 mC []) (rQ:keepIn K (.ref gf)=true) (jG:mg "_law_stroke_in"=some (.ref gf)):a5 P w K mg base b1 2 f fd sM A9:=by
 refine F.ok Hw (fun vs H Q E h=>?_) (fun cg A outer s H vs Q E aI h=>?_)
 ·obtain⟨h,ce,ao,lo,pu,st,pl,x,d,p,n,rfl,_⟩:=h
  rfl
 obtain⟨h,ce,ao,lo,pu,st,pl,x,d,p,n,rfl,bO,aD,z,q⟩:=h
 have bp:=hp aI
 refine⟨_,(bl (cQ (i:=4) Hw.bk rfl (Or.inl rfl) (bP ee (ew bp (ah 0) bg (fun _ _=>rfl)) (ah 2) (fun _ _=>rfl))) (bl (dD (dj jP (b6 aI) rfl jG rQ jM .nil cW (ak (ah 0) (ak (fQ (ak bg (ak (fQ (ak bg (ak (ah 1) (ak (ah 2) (ak (ah 4) (ak (ah 3) aK)))))) aK))) aK)))) (aY (x9 (ah 3) (yb (ew bp (ah 0) bg (fun _ _=>rfl)) (ah 2) set_list))))),?_⟩
 obtain⟨o,fX,eF⟩:=bO.p5 aD
 have iF:x.aO.getD p 0=o:=by rw[getD_eq_getElem?_getD,fX];rfl
 have gJ:x.putIn d p n={ x.da (.line (.put d p (x.aO.getD p 0) n)) with aO:=x.aO.set p n }:=rfl
 rw[iF]at gJ
 refine⟨_,rfl,h,_,rfl,bO.kE,_,rfl,ao,_,_,_,rfl,rfl,aV.of bO.hd,eF,?_⟩
 refine⟨_,rfl,_,rfl,_,rfl,_,rfl,_,rfl,cX,fun t1 ri=>⟨cX,fun ek rg=>?_⟩⟩
 have s1:=b3 ri (.tup [.str "put",.int d,.int (p:Nat),.int o,.int n])
 have aJ:(upd H t1 (.tup [.str "put",.int d,.int (p:Nat),.int o,.int n])) t1=some (.tup [.str "put",.int d,.int (p:Nat),.int o,.int n]):=aT
 have u1:(upd H t1 (.tup [.str "put",.int d,.int (p:Nat),.int o,.int n])) ek=none:=rg
 have s2:=b3 u1 (.tup [.str "line",.ref t1])
 refine⟨h,ce,ao,lo,pu,st,pl,x,.ref ek,.line (.put d p o n),rfl,bO.same (s1.trans s2),.f3 aT (.cons .ofStr (.cons (.f3 (s2 _ _ aJ) (.cons .ofStr (.cons .ofInt (.cons .ofInt (.cons .ofInt (.cons .ofInt .nil)))))) .nil)),aD,z,fun lo' af cn dr=>?_⟩
 have ld:(x.da (.line (.put d p o n))).aO=x.aO:=rfl
 refine⟨_,rfl,_,rfl,h,_,rfl,cn.kE,_,rfl,ao,_,_,p,rfl,rfl,cn.hd,x1 (by rw[length_map];exact aD),?_⟩
 rw[xh]
 have d4:=cn.yF (c:=x.aO.set p n) (by rw[length_set];rfl)
 exact q lo' _ (by rw[gJ];exact d4) ((bY.dh (s1.trans s2)).l.trans (dr.trans (nf (bh.tr ..)).l))
structure CZ (mg:Str→Option Value):Prop where
 sum:mg "sum"=none
 rev:mg "reversed"=none
theorem Vu:bootBuiltins "sum"=some (.builtin "sum"):=by decide +kernel
theorem RN:dE uW uW (cT BP):=dS
theorem Rd (F:bZ K "_law_bound" "_law_bound" BP f fd) (B:fc mg) (fz:CZ mg):a5 P w K mg base b1 1 f fd uW Hs:=by
 refine F.ok RN (fun vs H Q E h=>?_) (fun cg A outer s H vs Q E aI h=>?_)
 ·obtain⟨h,ce,ao,lo,pu,st,pl,x,rfl,_⟩:=h
  rfl
 obtain⟨h,ce,ao,lo,pu,st,pl,x,rfl,bO,zX,q⟩:=h
 have bp:=hp aI
 refine⟨_,(aY (dc (eV (RA aI.hd) rfl fz.sum Vu (ak (uf [0] ["_law_dealing","_law_puts"] (jU.one (fv:="_law_puts") (j:=0) rfl (by decide +kernel) (by decide +kernel) rfl (by decide +kernel) rfl rfl (by decide +kernel) rfl rfl rfl) rfl (pA (hl (AN aI.hd) rfl B.lst i3 (ak (ah 0) aK))) (fun C s1 H1 cj=>(c0 gN (eV (O_ (K:=K) rfl) rfl B.len PySem.boot_len (ak (ew bp (ah 1) (ah 0) (fun _ _=>rfl)) aK)) aX))) aK)))),?_⟩
 have tv:=bO.q3
 refine⟨_,rfl,pu,_,rfl,bO.aD,fun cz av=>⟨cz,rfl,⟨_,aV.of aT⟩,fun acc eg=>?_⟩⟩
 rw[Bm]at *
 have s1:=b3 av (.lst ((pl.map (·.1)).map V.int))
 have aJ:(upd H cz (.lst ((pl.map (·.1)).map V.int))) cz=some (.lst ((pl.map (·.1)).map V.int)):=aT
 have a_:=bO.same s1
 have Cn:(upd H cz (.lst ((pl.map (·.1)).map V.int))) acc=none:=eg
 generalize upd H cz (.lst ((pl.map (·.1)).map V.int))=H1 at s1 aJ a_ Cn ⊢
 refine Qx (K:=K) (zs:=(x.bQ.map fun z=>(z.2.length:Int)+1).map V.int) aJ Cn (by rw[length_map,length_map];omega) (by rw[length_map,length_map,length_map,length_map];exact tv.symm) (fun i y z a3 k cA hz s3 a4=>?_) ?_
 ·have aW:i<pl.length:=by
   have:=(List.getElem?_eq_some_iff.mp cA).1
   rw[length_map,length_map]at this
   exact this
  have hc:pl[i]?=some pl[i]:=getElem?_eq_getElem aW
  obtain⟨w,ys,fe,eL,iB,rH,v8⟩:=(a_.same s3).at_ hc
  have fu:y=.int (pl[i]).1:=by
   rw[getElem?_map,getElem?_map,hc]at cA
   exact (Option.some.inj cA).symm
  have iS:z=.int ((w.2.length:Int)+1):=by
   rw[getElem?_map,getElem?_map,fe]at hz
   exact (Option.some.inj hz).symm
  subst fu iS
  have ia:=rH.length
  rw[length_map]at ia
  refine⟨_,rfl,_,rfl,pu,_,rfl,v8,_,ys,rfl,.inl (aV.of iB),_,_,rfl,rfl,?_⟩
  rw[ia]
  exact a4
 ·exact⟨acc,_,rfl,aV.of aT,q _ (s1.trans (b3 Cn _))⟩
theorem Bd:dE ["_law_puts","_law_page","_law_dealing","_law_pair"] yR (cT By):=dS
theorem Q2 (F:bZ K "_law_taker" "_law_taker" By f fd) (B:fc mg):a5 P w K mg base b1 1 f fd yR Hj:=by
 refine F.ok Bd (fun vs H Q E h=>?_) (fun cg A outer s H vs Q E aI h=>?_)
 ·obtain⟨h,ce,ao,lo,pu,st,pl,x,p,rfl,_⟩:=h
  rfl
 obtain⟨h,ce,ao,lo,pu,st,pl,x,p,rfl,bO,q⟩:=h
 have bp:=hp aI
 refine⟨_,(bl (kC PassesOwn.never rfl (pA (hl (AN aI.hd) rfl B.lst i3 (ak (ah 0) aK))) (hY (i:=2) Bd.bk rfl (Or.inl rfl)) (aY (kC PassesOwn.never rfl (pA (ew bp (ah 0) (ah 2) (fun _ _=>rfl))) (hY (i:=3) Bd.bk rfl (Or.inl rfl)) (aY (cO (cU d2 (bP cH (ah 3) aX (fun _ _=>rfl)) (ah 1) (cN _)) (aY (dc (ah 2))) dK))))) (aY (dc (sF sy aX)))),?_⟩
 have tv:=bO.q3
 refine⟨_,rfl,pu,_,rfl,bO.aD,fun cz av=>⟨cz,rfl,⟨_,aV.of aT⟩,?_⟩⟩
 rw[Bm]at *
 have s1:=b3 av (.lst ((pl.map (·.1)).map V.int))
 have aJ:(upd H cz (.lst ((pl.map (·.1)).map V.int))) cz=some (.lst ((pl.map (·.1)).map V.int)):=aT
 have a_:=bO.same s1
 generalize upd H cz (.lst ((pl.map (·.1)).map V.int))=H1 at s1 aJ a_ ⊢
 have bN:=q H1 s1
 refine xN (K:=K) (a:=cz) (xs:=(pl.map (·.1)).map V.int) (fun i σ aq=>∃b5 dr:Option V,σ=[some (.ref pu),some (.int (p:Nat)),b5,dr]∧H1=aq∧(x.bQ.take i).find? (fun z=>z.2.any fun y=>y.1 == p)=none)
  ⟨none,none,rfl,rfl,rfl⟩ (fun i σ aq _ ⟨_,_,_,e,_⟩=>by rw[←e];exact aV.of aJ) ?_ ?_
 ·rintro i v σ aq aW ⟨b5,dr,rfl,rfl,aN⟩
  have vE:i<pl.length:=by
   have:=(List.getElem?_eq_some_iff.mp aW).1
   rw[length_map,length_map]at this
   exact this
  have hc:pl[i]?=some pl[i]:=getElem?_eq_getElem vE
  obtain⟨w,ys,fe,eL,iB,rH,v8⟩:=a_.at_ hc
  have fu:v=.int w.1:=by
   rw[getElem?_map,getElem?_map,hc]at aW
   rw[eL]
   exact (Option.some.inj aW).symm
  subst fu
  rw[←eL]at v8
  generalize (pl[i]).2=ki at iB v8
  refine⟨_,rfl,_,rfl,pu,_,rfl,v8,ki,rfl,⟨ys,aV.of iB⟩,?_⟩
  refine xN (K:=K) (a:=ki) (xs:=ys) (fun j σ aq=>∃dr:Option V,σ=[some (.ref pu),some (.int (p:Nat)),some (.int w.1),dr]∧H1=aq∧(w.2.take j).any (fun y=>y.1 == p)=false)
   ⟨_,rfl,rfl,rfl⟩ (fun j σ aq _ ⟨_,_,e,_⟩=>by rw[←e];exact aV.of iB) ?_ ?_
  ·rintro j v σ aq cK ⟨dr,rfl,rfl,hm⟩
   obtain⟨z,dT,d6⟩:=sm rH cK
   obtain⟨c,b0,cM,rfl,ai,bx,b7⟩:=gk (a:=.int (z.1:Nat)) (b:=.int z.2) d6
   cases bx.int_inv
   have hA:(w.2.take (j+1)).any (fun y=>y.1 == p)=(z.1 == p):=by
    rw[take_add_one,any_append,hm,dT]
    simp
   refine⟨_,rfl,c,_,_,_,rfl,rfl,aP.of ai,rfl,_,rfl,rfl,_,rfl,fE (fun b_=>?_) (fun b_=>?_)⟩
   ·have b9:V.int (z.1:Nat)=V.int (p:Nat):=of_decide_eq_true b_
    injection b9 with b9
    have cC:z.1=p:=by omega
    have ed:x.eK p=some w.1:=by
     unfold aE.eK
     rw[Gg fe aN (any_eq_true.mpr ⟨z,mem_of_getElem? dT,by rw[cC];exact beq_self_eq_true p⟩)]
     rfl
    rw[ed]at bN
    exact⟨_,rfl,bN⟩
   ·refine⟨_,rfl,rfl,?_⟩
    rw[hA]
    exact beq_eq_false_iff_ne.mpr fun y=>b_ (decide_eq_true (by rw[y]))
  ·rintro σ aq ⟨dr,rfl,rfl,hm⟩
   have ia:=rH.length
   rw[length_map]at ia
   rw[ia,take_length]at hm
   exact⟨_,_,rfl,rfl,Qq fe aN hm⟩
 ·rintro σ aq ⟨b5,dr,rfl,rfl,aN⟩
  rw[length_map,length_map,tv,take_length]at aN
  have ed:x.eK p=none:=by
   unfold aE.eK
   rw[aN]
   rfl
  rw[ed]at bN
  exact⟨_,rfl,bN⟩
theorem H4:dE ["_law_mine","_law_more","_law_page"] yQ (cT B8):=dS
theorem R0 {o2:Addr}{qj:FuncData}{hO:Addr}{iU:FuncData}{hN:Addr}{iT:FuncData}(F:bZ K "_law_full" "_law_full" B8 f fd) (B:fc mg) (tQ:a5 P w K mg base b1 1 o2 qj uW Hs) (tH:Binds K qj uW []) (OA:keepIn K (.ref o2)=true) (nS:mg "_law_bound"=some (.ref o2)) (m9:a5 P w K mg base b1 2 hO iU sN AO) (m5:Binds K iU sN []) (wu:keepIn K (.ref hO)=true) (mX:mg "_law_carry_in"=some (.ref hO)) (l6:a5 P w K mg base b1 3 hN iT sO Ba) (l4:Binds K iT sO []) (tw:keepIn K (.ref hN)=true) (lV:mg "_law_cut_in"=some (.ref hN)):a5 P w K mg base b1 4 f fd yQ H2:=by
 refine F.ok H4 (fun vs H Q E h=>?_) (fun cg A outer s H vs Q E aI h=>?_)
 ·obtain⟨h,ce,ao,lo,pu,st,pl,x,m,rfl,_⟩:=h
  rfl
 obtain⟨h,ce,ao,lo,pu,st,pl,x,m,rfl,bO,zX,aaN,z,q⟩:=h
 have bp:=hp aI
 refine⟨_,(bl (cO (cU Iv (c0 gN (c0 gN (eV hX rfl B.len PySem.boot_len (ak (ew bp (ah 0) bg (fun _ _=>rfl)) aK)) (dj tQ (b6 aI) rfl nS OA tH .nil cW (ak (ew bp (ah 0) bg (fun _ _=>rfl)) aK))) (ah 1)) (ew bp (ah 0) bg (fun _ _=>rfl)) (cN _)) (aY (dc jj)) dK) (bl (kC PassesOwn.never rfl (pn rfl B.kG (ak (eV hX rfl B.len PySem.boot_len (ak (ew bp (ah 0) bg (fun _ _=>rfl)) aK)) aK)) (hY (i:=2) H4.bk rfl (Or.inl rfl)) (aY (dD (dj m9 (b6 aI) rfl mX wu m5 .nil cW (ak (ah 0) (ak (ah 2) aK)))))) (bl (dD (dj l6 (b6 aI) rfl lV tw l4 .nil cW (ak (ah 0) aK))) (aY (dc (pB yv (c0 gN (c0 gN (eV hX rfl B.len PySem.boot_len (ak (ew bp (ah 0) bg (fun _ _=>rfl)) aK)) (dj tQ (b6 aI) rfl nS OA tH .nil cW (ak (ew bp (ah 0) bg (fun _ _=>rfl)) aK))) (ah 1)) (ew bp (ah 0) bg (fun _ _=>rfl)) (cN _))))))),?_⟩
 obtain⟨xs,hQ,p9⟩:=bO.aG
 have mY:x.log.length=xs.length:=p9.1
 have nX:x.full m=if x.i1 m=true then (x,false) else (x.hC, !x.hC.i1 m):=rfl
 refine⟨_,rfl,h,_,rfl,bO.u4,lo,xs,rfl,.inl (aV.of hQ),_,rfl,h,_,rfl,bO.jT,h,ce,ao,lo,pu,st,pl,x,rfl,bO,zX,fun aq s2=>?_⟩
 have a_:=bO.same s2
 refine⟨_,_,rfl,rfl,_,rfl,_,_,rfl,rfl,_,rfl,h,_,rfl,a_.IQ,_,_,rfl,rfl,_,rfl,fE (fun b_=>?_) (fun b_=>?_)⟩
 ·have dz:x.i1 m=true:=by unfold aE.i1;rw[mY];exact b_
  rw[if_pos dz]at nX
  rw[nX]at q
  exact q lo aq a_ ((bY.dh s2).l)
 have dz:¬x.i1 m=true:=fun y=>b_ (by unfold aE.i1 at y;rw[mY]at y;exact y)
 rw[if_neg dz]at nX
 rw[nX]at q
 have ld:(x.aO.map V.int).length=x.aO.length:=length_map _
 refine⟨_,rfl,h,_,rfl,a_.kE,ao,_,rfl,.inl (aV.of a_.hd),_,rfl,by omega,by omega,sk (fun i σ a3=>∃(b5:Option V) (lo':Addr),σ=[some (.ref h),some (.int m),b5]∧bh a3 h ce ao lo' pu st pl (x.gY i)∧hG (own h ce ao pu st pl) lo lo' H a3)
  ⟨none,lo,rfl,a_,(bY.dh s2).l⟩ ?_ ?_⟩
 ·rintro i σ a3 aW ⟨b5,lo',rfl,cn,dr⟩
  have e0:(0:Int)+(i:Int)=((i:Nat):Int):=by omega
  rw[e0]
  have j2:i<x.aO.length:=by omega
  refine⟨_,rfl,_,rfl,h,ce,ao,lo',pu,st,pl,_,i,rfl,cn,by rw[tY];exact j2,aE.fits.gY (i:=i) (k:=1) (z.mono (by omega)) (by omega),fun dm c6 d4 hu=>?_⟩
  rw[←qu]at d4
  exact⟨_,dm,rfl,d4,dr.trans hu⟩
 ·rintro σ a3 ⟨b5,lo',rfl,cn,dr⟩
  have wI:((x.aO.map V.int).length:Int).toNat=x.aO.length:=by omega
  rw[wI]at cn
  refine⟨_,rfl,h,ce,ao,lo',pu,st,pl,_,rfl,cn,aE.fits.gY (i:=x.aO.length) (k:=1) z (le_refl _),fun dm c6 d4 hu=>?_⟩
  rw[←qx]at d4
  obtain⟨ys,Xj,VN⟩:=d4.aG
  have ia:x.hC.log.length=ys.length:=VN.1
  refine⟨_,rfl,h,_,rfl,d4.u4,dm,ys,rfl,.inl (aV.of Xj),_,rfl,h,_,rfl,d4.jT,h,ce,ao,dm,pu,st,pl,x.hC,rfl,d4,by rw[FJ];exact zX,fun e_ s5=>?_⟩
  have gM:=d4.same s5
  refine⟨_,_,rfl,rfl,_,rfl,_,_,rfl,rfl,_,rfl,h,_,rfl,gM.IQ,_,_,rfl,rfl,?_⟩
  have nQ:=q dm e_ gM (dr.trans (hu.trans (bY.dh s5).l))
  have kp:(!x.hC.i1 m)=decide (x.hC.room<(ys.length:Int)+x.hC.bound+m):=by
   unfold aE.i1
   rw[ia]
   by_cases y:(ys.length:Int)+x.hC.bound+m≤x.hC.room
   ·rw[decide_eq_true y,decide_eq_false (by omega)];rfl
   ·rw[decide_eq_false y,decide_eq_true (by omega)];rfl
  rw[kp]at nQ
  exact nQ
def Gm:dg:=fun vs H Q _=>∃(h ce ao lo pu st:Addr) (pl:List (Int × Addr)) (x:aE) (v:V) (e:cZ),vs=[.ref pu,.ref ao,v]∧bh H h ce ao lo pu st pl x∧Rep H e.D v∧1≤x.aO.length∧(∀z∈x.bQ,0≤z.1)∧∀af,bY H af→Q (.str ((x.refusal e).getD "done")) af
def Th (kq:Bool) (d:Int):cZ:=if kq then .drop d else .fin d
def Hp:dg:=fun vs H Q _=>∃(h ce ao lo pu st:Addr) (pl:List (Int × Addr)) (x:aE) (v:V) (kq:Bool) (d:Int),vs=[.ref h,v]∧bh H h ce ao lo pu st pl x∧Rep H (Th kq d).D v∧x.isOpen d=true∧(∀z∈x.ef d,z.1<x.aO.length)∧x.fits ((x.ef d).length+1) ∧
 ∀lo' af,bh af h ce ao lo' pu st (pl.filter fun z=>z.1 != d) ((if kq then x.hD d else x).pI d)→hG (own h ce ao pu st pl) lo lo' H af→Q .cc af
theorem xr:dE ["_law_puts","_law_desk","_law_deed","_law_page"] yP (cT AZ):=dS
theorem R8 (t d:Int):(if true=true then !gq (.int t) [.int (-1),.int d] else gq (.int t) [.int (-1),.int d]) = !decide (t = -1∨t=d):=by
 rw[if_pos rfl]
 have e:=Rp t [-1,d]
 have aQ:([-1,d]:List Int).map V.int=[.int (-1),.int d]:=rfl
 rw[aQ]at e
 rw[e]
 congr 1
 exact decide_eq_decide.mpr (by simp)
theorem pL {c A B:Prop} [Decidable c] (ai:c) (h:B):if (!decide c)=true then A else B:=by
 rw[decide_eq_true ai]
 exact dQ h
theorem PE {E4:Addr}{hj:FuncData}(F:bZ K "_law_refusal" "_law_refusal" AZ f fd) (B:fc mg) (GT:a5 P w K mg base b1 1 E4 hj yR Hj) (YT:Binds K hj yR []) (EU:keepIn K (.ref E4)=true) (ts:mg "_law_taker"=some (.ref E4)):a5 P w K mg base b1 2 f fd yP Gm:=by
 refine F.ok xr (fun vs H Q E h=>?_) (fun cg A outer s H vs Q E aI h=>?_)
 ·obtain⟨h,ce,ao,lo,pu,st,pl,x,v,e,rfl,_⟩:=h
  rfl
 obtain⟨h,ce,ao,lo,pu,st,pl,x,v,e,rfl,bO,bD,ZZ,aN,q⟩:=h
 have bp:=hp aI
 refine⟨_,(bl (cO (qG (cU xy (bP cH (ah 2) aX (fun _ _=>rfl)) (fC (ak bg (ak bg (ak bg aK)))) (by with_unfolding_all rfl)) (ux (Gs bp (bP cH (ah 2) aX (fun _ _=>rfl)) (ah 0)))) (aY (dc bg)) dK) (bl (cQ (i:=3) xr.bk rfl (Or.inl rfl) aX) (bl (cO (cU d2 (bP cH (ah 2) aX (fun _ _=>rfl)) bg (cN _)) (aY (cQ (i:=3) xr.bk rfl (Or.inl rfl) (bP cH (ah 2) aX (fun _ _=>rfl)))) dK) (bl (cO (n8 (cU d2 (bP cH (ah 2) aX (fun _ _=>rfl)) bg (cN _)) (cU d2 (bP cH (ah 2) aX (fun _ _=>rfl)) bg (cN _))) (aY (cQ (i:=3) xr.bk rfl (Or.inl rfl) (bP cH (ah 2) aX (fun _ _=>rfl)))) dK) (bl (cO (n8 (cU yu (ah 3) aX (cN _)) (cU Iw (ah 3) (eV hX rfl B.len PySem.boot_len (ak (ah 1) aK)) (cN _))) (aY (dc bg)) dK) (bl (cO (qG (cU d2 (bP cH (ah 2) aX (fun _ _=>rfl)) bg (cN _)) (cU Pc (dj GT (b6 aI) rfl ts EU YT .nil cW (ak (ah 0) (ak (ah 3) aK))) (fC (ak (sF sy aX) (ak (bP cH (ah 2) aX (fun _ _=>rfl)) aK))) (by with_unfolding_all rfl))) (aY (dc bg)) dK) (aY (dc bg)))))))),?_⟩
 cases e with
 | begin =>
  obtain⟨c,b0,rfl,ai,bx⟩:=px bD
  cases bx.str_inv
  refine⟨_,rfl,c,_,_,_,rfl,rfl,aP.of ai,rfl,cX,fun l aG=>⟨l,_,rfl,.inl (aV.of aT),rfl,rfl,_,rfl,?_⟩⟩
  have s1:=b3 aG (.lst [.str "put",.str "end",.str "drop"])
  have a_:=bO.same s1
  have cE:=s1 _ _ ai
  have aU:=q _ s1
  generalize upd H l (.lst [.str "put",.str "end",.str "drop"])=H1 at s1 a_ cE aU ⊢
  have kJ:(if false=true then !gq (V.str "begin") [V.str "put",V.str "end",V.str "drop"] else gq (V.str "begin") [V.str "put",V.str "end",V.str "drop"])=false:=by decide +kernel
  rw[kJ]
  have aU:Q (.str ((none:Option Str).getD "done")) H1:=aU
  refine dQ (dQ ?_)
  refine⟨_,rfl,c,_,_,_,rfl,rfl,aP.of cE,rfl,rfl,_,rfl,bH (by decide +kernel) ?_⟩
  refine⟨_,rfl,c,_,_,_,rfl,rfl,aP.of cE,rfl,rfl,_,rfl,bH (by decide +kernel) ?_⟩
  refine⟨_,rfl,c,_,_,_,rfl,rfl,aP.of cE,rfl,rfl,_,rfl,bH (by decide +kernel) ?_⟩
  refine⟨_,rfl,_,_,rfl,rfl,_,rfl,bH (by decide) ?_⟩
  refine⟨_,rfl,_,rfl,ao,_,rfl,.inl (aV.of a_.hd),_,_,rfl,rfl,_,rfl,bH (by rw[length_map];omega) ?_⟩
  refine⟨_,rfl,c,_,_,_,rfl,rfl,aP.of cE,rfl,rfl,_,rfl,bH (by decide +kernel) (dQ ?_)⟩
  exact aU
 | put d p n =>
  obtain⟨c,b0,cM,g0,kN,rfl,ai,bx,b7,kR,mU⟩:=xD bD
  cases bx.str_inv
  cases b7.int_inv
  cases kR.int_inv
  cases mU.int_inv
  refine⟨_,rfl,c,_,_,_,rfl,rfl,aP.of ai,rfl,cX,fun l aG=>⟨l,_,rfl,.inl (aV.of aT),rfl,rfl,_,rfl,?_⟩⟩
  have s1:=b3 aG (.lst [.str "put",.str "end",.str "drop"])
  have a_:=bO.same s1
  have cE:=s1 _ _ ai
  have aU:=q _ s1
  generalize upd H l (.lst [.str "put",.str "end",.str "drop"])=H1 at s1 a_ cE aU ⊢
  have kJ:(if false=true then !gq (V.str "put") [V.str "put",V.str "end",V.str "drop"] else gq (V.str "put") [V.str "put",V.str "end",V.str "drop"])=true:=by decide +kernel
  rw[kJ]
  have aU:Q (.str (((if x.isOpen d=false then some "no dealing" else if p<0∨(x.aO.length:Int)≤p then some "no page" else if x.eK p.toNat=none∨x.eK p.toNat=some d then none else some "taken"):Option Str).getD "done")) H1:=aU
  refine eY ?_
  refine⟨_,rfl,c,_,_,_,rfl,rfl,aP.of cE,rfl,_,rfl,pu,_,rfl,a_.yw d,_,rfl,?_⟩
  rw[a_.isOpen d]
  cases aF:x.isOpen d with
  | false =>
   rw[aF,if_pos rfl]at aU
   exact eY aU
  | true =>
  rw[aF,if_neg (fun z=>nomatch z)]at aU
  refine dQ ?_
  refine⟨_,rfl,c,_,_,_,rfl,rfl,aP.of cE,rfl,rfl,_,rfl,ei rfl ?_⟩
  refine⟨_,rfl,c,_,_,_,rfl,rfl,aP.of cE,rfl,?_⟩
  refine⟨_,rfl,c,_,_,_,rfl,rfl,aP.of cE,rfl,rfl,_,rfl,bH (by decide +kernel) ?_⟩
  refine⟨_,rfl,c,_,_,_,rfl,rfl,aP.of cE,rfl,rfl,_,rfl,bH (by decide +kernel) ?_⟩
  refine⟨_,rfl,_,_,rfl,rfl,_,rfl,fE (fun b_=>?_) (fun b_=>?_)⟩
  ·have dz:p<0:=of_decide_eq_true b_
   refine eY ?_
   rw[if_pos (Or.inl dz)]at aU
   exact aU
  refine⟨_,rfl,_,rfl,ao,_,rfl,.inl (aV.of a_.hd),_,_,rfl,rfl,_,rfl,fE (fun e9=>?_) (fun e9=>?_)⟩
  ·have gg:((x.aO.map V.int).length:Int)≤p:=of_decide_eq_true e9
   rw[length_map]at gg
   rw[if_pos (Or.inr gg)]at aU
   exact aU
  have dz:¬p<0:=fun y=>b_ (decide_eq_true y)
  have gg:¬(x.aO.length:Int)≤p:=fun y=>e9 (decide_eq_true (by rw[length_map];exact y))
  rw[if_neg (fun y=>y.elim dz gg)]at aU
  refine⟨_,rfl,c,_,_,_,rfl,rfl,aP.of cE,rfl,rfl,_,rfl,ei rfl ?_⟩
  obtain⟨bR,rfl⟩:∃bR:Nat,p=(bR:Int):=⟨p.toNat,by omega⟩
  rw[Int.toNat_natCast]at aU
  refine⟨_,rfl,_,rfl,h,ce,ao,lo,pu,st,pl,x,bR,rfl,a_,fun a3 s3=>?_⟩
  have lM:=s3 _ _ cE
  refine⟨_,rfl,_,rfl,c,_,_,_,rfl,rfl,aP.of lM,rfl,cX,fun cY zB=>⟨cY,_,rfl,.inl (aV.of aT),rfl,rfl,_,rfl,?_⟩⟩
  have s4:=b3 zB (.lst [.int (-1),.int d])
  have jb:=q _ (s1.trans (s3.trans s4))
  have jb:Q (.str ((if x.isOpen d=false then some "no dealing" else if (bR:Int)<0∨(x.aO.length:Int)≤(bR:Int) then some "no page" else if x.eK (bR:Int).toNat=none∨x.eK (bR:Int).toNat=some d then none else some "taken":Option Str).getD "done")) _:=jb
  rw[aF,if_neg (fun z=>nomatch z),if_neg (fun y=>y.elim dz gg),Int.toNat_natCast]at jb
  rw[R8]
  cases bG:x.eK bR with
  | none =>
   rw[bG,if_pos (Or.inl rfl)]at jb
   refine pL ?_ jb
   exact Or.inl rfl
  | some t =>
   rw[bG]at jb
   have t0:0≤t:=by
    unfold aE.eK at bG
    obtain⟨z,hz,e⟩:=Option.map_eq_some_iff.mp bG
    rw[←e]
    exact aN z (List.mem_of_find?_eq_some hz)
   by_cases e:t=d
   ·subst e
    rw[if_pos (Or.inr rfl)]at jb
    exact pL (Or.inr rfl) jb
   ·rw[if_neg (fun y=>y.elim (fun z=>nomatch z) fun z=>e (Option.some.inj z))]at jb
    refine od (fun y=>?_) jb
    rcases y with y | y
    ·have kO:t = -1:=y
     omega
    ·exact e y
 | fin d =>
  obtain⟨c,b0,cM,rfl,ai,bx,b7⟩:=gk bD
  cases bx.str_inv
  cases b7.int_inv
  refine⟨_,rfl,c,_,_,_,rfl,rfl,aP.of ai,rfl,cX,fun l aG=>⟨l,_,rfl,.inl (aV.of aT),rfl,rfl,_,rfl,?_⟩⟩
  have s1:=b3 aG (.lst [.str "put",.str "end",.str "drop"])
  have a_:=bO.same s1
  have cE:=s1 _ _ ai
  have aU:=q _ s1
  generalize upd H l (.lst [.str "put",.str "end",.str "drop"])=H1 at s1 a_ cE aU ⊢
  have kJ:(if false=true then !gq (V.str "end") [V.str "put",V.str "end",V.str "drop"] else gq (V.str "end") [V.str "put",V.str "end",V.str "drop"])=true:=by decide +kernel
  rw[kJ]
  have aU:Q (.str (((if x.isOpen d=false then some "no dealing" else none):Option Str).getD "done")) H1:=aU
  refine eY ?_
  refine⟨_,rfl,c,_,_,_,rfl,rfl,aP.of cE,rfl,_,rfl,pu,_,rfl,a_.yw d,_,rfl,?_⟩
  rw[a_.isOpen d]
  cases aF:x.isOpen d with
  | false =>
   rw[aF,if_pos rfl]at aU
   exact eY aU
  | true =>
  rw[aF,if_neg (fun z=>nomatch z)]at aU
  refine dQ ?_
  refine⟨_,rfl,c,_,_,_,rfl,rfl,aP.of cE,rfl,rfl,_,rfl,bH (by decide +kernel) ?_⟩
  refine⟨_,rfl,c,_,_,_,rfl,rfl,aP.of cE,rfl,rfl,_,rfl,bH (by decide +kernel) ?_⟩
  refine⟨_,rfl,c,_,_,_,rfl,rfl,aP.of cE,rfl,rfl,_,rfl,bH (by decide +kernel) ?_⟩
  refine⟨_,rfl,_,_,rfl,rfl,_,rfl,bH (by decide) ?_⟩
  refine⟨_,rfl,_,rfl,ao,_,rfl,.inl (aV.of a_.hd),_,_,rfl,rfl,_,rfl,bH (by rw[length_map];omega) ?_⟩
  refine⟨_,rfl,c,_,_,_,rfl,rfl,aP.of cE,rfl,rfl,_,rfl,bH (by decide +kernel) (dQ ?_)⟩
  exact aU
 | drop d =>
  obtain⟨c,b0,cM,rfl,ai,bx,b7⟩:=gk bD
  cases bx.str_inv
  cases b7.int_inv
  refine⟨_,rfl,c,_,_,_,rfl,rfl,aP.of ai,rfl,cX,fun l aG=>⟨l,_,rfl,.inl (aV.of aT),rfl,rfl,_,rfl,?_⟩⟩
  have s1:=b3 aG (.lst [.str "put",.str "end",.str "drop"])
  have a_:=bO.same s1
  have cE:=s1 _ _ ai
  have aU:=q _ s1
  generalize upd H l (.lst [.str "put",.str "end",.str "drop"])=H1 at s1 a_ cE aU ⊢
  have kJ:(if false=true then !gq (V.str "drop") [V.str "put",V.str "end",V.str "drop"] else gq (V.str "drop") [V.str "put",V.str "end",V.str "drop"])=true:=by decide +kernel
  rw[kJ]
  have aU:Q (.str (((if x.isOpen d=false then some "no dealing" else none):Option Str).getD "done")) H1:=aU
  refine eY ?_
  refine⟨_,rfl,c,_,_,_,rfl,rfl,aP.of cE,rfl,_,rfl,pu,_,rfl,a_.yw d,_,rfl,?_⟩
  rw[a_.isOpen d]
  cases aF:x.isOpen d with
  | false =>
   rw[aF,if_pos rfl]at aU
   exact eY aU
  | true =>
  rw[aF,if_neg (fun z=>nomatch z)]at aU
  refine dQ ?_
  refine⟨_,rfl,c,_,_,_,rfl,rfl,aP.of cE,rfl,rfl,_,rfl,bH (by decide +kernel) ?_⟩
  refine⟨_,rfl,c,_,_,_,rfl,rfl,aP.of cE,rfl,rfl,_,rfl,bH (by decide +kernel) ?_⟩
  refine⟨_,rfl,c,_,_,_,rfl,rfl,aP.of cE,rfl,rfl,_,rfl,bH (by decide +kernel) ?_⟩
  refine⟨_,rfl,_,_,rfl,rfl,_,rfl,bH (by decide) ?_⟩
  refine⟨_,rfl,_,rfl,ao,_,rfl,.inl (aV.of a_.hd),_,_,rfl,rfl,_,rfl,bH (by rw[length_map];omega) ?_⟩
  refine⟨_,rfl,c,_,_,_,rfl,rfl,aP.of cE,rfl,rfl,_,rfl,bH (by decide +kernel) (dQ ?_)⟩
  exact aU
 | look p =>
  obtain⟨c,b0,cM,rfl,ai,bx,b7⟩:=gk bD
  cases bx.str_inv
  cases b7.int_inv
  refine⟨_,rfl,c,_,_,_,rfl,rfl,aP.of ai,rfl,cX,fun l aG=>⟨l,_,rfl,.inl (aV.of aT),rfl,rfl,_,rfl,?_⟩⟩
  have s1:=b3 aG (.lst [.str "put",.str "end",.str "drop"])
  have a_:=bO.same s1
  have cE:=s1 _ _ ai
  have aU:=q _ s1
  generalize upd H l (.lst [.str "put",.str "end",.str "drop"])=H1 at s1 a_ cE aU ⊢
  have kJ:(if false=true then !gq (V.str "look") [V.str "put",V.str "end",V.str "drop"] else gq (V.str "look") [V.str "put",V.str "end",V.str "drop"])=false:=by decide +kernel
  rw[kJ]
  have aU:Q (.str (((if p<0∨(x.aO.length:Int)≤p then some "no page" else none):Option Str).getD "done")) H1:=aU
  refine dQ (dQ ?_)
  refine⟨_,rfl,c,_,_,_,rfl,rfl,aP.of cE,rfl,rfl,_,rfl,bH (by decide +kernel) ?_⟩
  refine⟨_,rfl,c,_,_,_,rfl,rfl,aP.of cE,rfl,rfl,_,rfl,ei rfl (eY ?_)⟩
  refine⟨_,rfl,c,_,_,_,rfl,rfl,aP.of cE,rfl,?_⟩
  refine⟨_,rfl,_,_,rfl,rfl,_,rfl,fE (fun b_=>?_) (fun b_=>?_)⟩
  ·have dz:p<0:=of_decide_eq_true b_
   refine eY ?_
   rw[if_pos (Or.inl dz)]at aU
   exact aU
  refine⟨_,rfl,_,rfl,ao,_,rfl,.inl (aV.of a_.hd),_,_,rfl,rfl,_,rfl,fE (fun e9=>?_) (fun e9=>?_)⟩
  ·have gg:((x.aO.map V.int).length:Int)≤p:=of_decide_eq_true e9
   rw[length_map]at gg
   rw[if_pos (Or.inr gg)]at aU
   exact aU
  have dz:¬p<0:=fun y=>b_ (decide_eq_true y)
  have gg:¬(x.aO.length:Int)≤p:=fun y=>e9 (decide_eq_true (by rw[length_map];exact y))
  rw[if_neg (fun y=>y.elim dz gg)]at aU
  refine⟨_,rfl,c,_,_,_,rfl,rfl,aP.of cE,rfl,rfl,_,rfl,bH (by decide +kernel) (dQ ?_)⟩
  exact aU
 | carry p =>
  obtain⟨c,b0,cM,rfl,ai,bx,b7⟩:=gk bD
  cases bx.str_inv
  cases b7.int_inv
  refine⟨_,rfl,c,_,_,_,rfl,rfl,aP.of ai,rfl,cX,fun l aG=>⟨l,_,rfl,.inl (aV.of aT),rfl,rfl,_,rfl,?_⟩⟩
  have s1:=b3 aG (.lst [.str "put",.str "end",.str "drop"])
  have a_:=bO.same s1
  have cE:=s1 _ _ ai
  have aU:=q _ s1
  generalize upd H l (.lst [.str "put",.str "end",.str "drop"])=H1 at s1 a_ cE aU ⊢
  have kJ:(if false=true then !gq (V.str "carry") [V.str "put",V.str "end",V.str "drop"] else gq (V.str "carry") [V.str "put",V.str "end",V.str "drop"])=false:=by decide +kernel
  rw[kJ]
  have aU:Q (.str (((if p<0∨(x.aO.length:Int)≤p then some "no page" else none):Option Str).getD "done")) H1:=aU
  refine dQ (dQ ?_)
  refine⟨_,rfl,c,_,_,_,rfl,rfl,aP.of cE,rfl,rfl,_,rfl,bH (by decide +kernel) ?_⟩
  refine⟨_,rfl,c,_,_,_,rfl,rfl,aP.of cE,rfl,rfl,_,rfl,bH (by decide +kernel) ?_⟩
  refine⟨_,rfl,c,_,_,_,rfl,rfl,aP.of cE,rfl,rfl,_,rfl,ei rfl ?_⟩
  refine⟨_,rfl,c,_,_,_,rfl,rfl,aP.of cE,rfl,?_⟩
  refine⟨_,rfl,_,_,rfl,rfl,_,rfl,fE (fun b_=>?_) (fun b_=>?_)⟩
  ·have dz:p<0:=of_decide_eq_true b_
   refine eY ?_
   rw[if_pos (Or.inl dz)]at aU
   exact aU
  refine⟨_,rfl,_,rfl,ao,_,rfl,.inl (aV.of a_.hd),_,_,rfl,rfl,_,rfl,fE (fun e9=>?_) (fun e9=>?_)⟩
  ·have gg:((x.aO.map V.int).length:Int)≤p:=of_decide_eq_true e9
   rw[length_map]at gg
   rw[if_pos (Or.inr gg)]at aU
   exact aU
  have dz:¬p<0:=fun y=>b_ (decide_eq_true y)
  have gg:¬(x.aO.length:Int)≤p:=fun y=>e9 (decide_eq_true (by rw[length_map];exact y))
  rw[if_neg (fun y=>y.elim dz gg)]at aU
  refine⟨_,rfl,c,_,_,_,rfl,rfl,aP.of cE,rfl,rfl,_,rfl,bH (by decide +kernel) (dQ ?_)⟩
  exact aU
 | cut =>
  obtain⟨c,b0,rfl,ai,bx⟩:=px bD
  cases bx.str_inv
  refine⟨_,rfl,c,_,_,_,rfl,rfl,aP.of ai,rfl,cX,fun l aG=>⟨l,_,rfl,.inl (aV.of aT),rfl,rfl,_,rfl,?_⟩⟩
  have s1:=b3 aG (.lst [.str "put",.str "end",.str "drop"])
  have a_:=bO.same s1
  have cE:=s1 _ _ ai
  have aU:=q _ s1
  generalize upd H l (.lst [.str "put",.str "end",.str "drop"])=H1 at s1 a_ cE aU ⊢
  have kJ:(if false=true then !gq (V.str "cut") [V.str "put",V.str "end",V.str "drop"] else gq (V.str "cut") [V.str "put",V.str "end",V.str "drop"])=false:=by decide +kernel
  rw[kJ]
  have aU:Q (.str ((none:Option Str).getD "done")) H1:=aU
  refine dQ (dQ ?_)
  refine⟨_,rfl,c,_,_,_,rfl,rfl,aP.of cE,rfl,rfl,_,rfl,bH (by decide +kernel) ?_⟩
  refine⟨_,rfl,c,_,_,_,rfl,rfl,aP.of cE,rfl,rfl,_,rfl,bH (by decide +kernel) ?_⟩
  refine⟨_,rfl,c,_,_,_,rfl,rfl,aP.of cE,rfl,rfl,_,rfl,bH (by decide +kernel) ?_⟩
  refine⟨_,rfl,_,_,rfl,rfl,_,rfl,bH (by decide) ?_⟩
  refine⟨_,rfl,_,rfl,ao,_,rfl,.inl (aV.of a_.hd),_,_,rfl,rfl,_,rfl,bH (by rw[length_map];omega) ?_⟩
  refine⟨_,rfl,c,_,_,_,rfl,rfl,aP.of cE,rfl,rfl,_,rfl,bH (by decide +kernel) (dQ ?_)⟩
  exact aU
theorem Be:dE ["_law_mine","_law_deed","_law_page","_law_old"] pK (cT BI):=dS
theorem Q7 {gf:Addr}{g5:FuncData}{gu:Addr}{g6:FuncData}(F:bZ K "_law_end_in" "_law_end_in" BI f fd) (B:fc mg) (fz:CZ mg) (jP:a5 P w K mg base b1 1 gf g5 mC ua) (jM:Binds K g5 mC []) (rQ:keepIn K (.ref gf)=true) (jG:mg "_law_stroke_in"=some (.ref gf)) (jQ:a5 P w K mg base b1 2 gu g6 sM A9) (jN:Binds K g6 sM []) (rR:keepIn K (.ref gu)=true) (hL:mg "_law_put_in"=some (.ref gu)):a5 P w K mg base b1 3 f fd pK Hp:=by
 refine F.ok Be (fun vs H Q E h=>?_) (fun cg A outer s H vs Q E aI h=>?_)
 ·obtain⟨h,ce,ao,lo,pu,st,pl,x,v,kq,d,rfl,_⟩:=h
  rfl
 obtain⟨h,ce,ao,lo,pu,st,pl,x,v,kq,d,rfl,bO,bD,aF,pW,z,q⟩:=h
 have bp:=hp aI
 refine⟨_,(bl (cO (cU d2 (bP cH (ah 1) aX (fun _ _=>rfl)) bg (cN _)) (aY (kC PassesOwn.never rfl (pA (PD aI.hd rfl B.lst rfl fz.rev (ew bp (ew bp (ah 0) bg (fun _ _=>rfl)) (bP cH (ah 1) aX (fun _ _=>rfl)) (fun _ _=>rfl)))) (ya rfl (pz (hY (i:=2) Be.bk rfl (Or.inl rfl)) (pz (hY (i:=3) Be.bk rfl (Or.inl rfl)) xW))) (aY (dD (dj jQ (b6 aI) rfl hL rR jN .nil cW (ak (ah 0) (ak (bP cH (ah 1) aX (fun _ _=>rfl)) (ak (ah 2) (ak (ah 3) aK))))))))) dK) (bl (dD (dj jP (b6 aI) rfl jG rQ jM .nil cW (ak (ah 0) (ak (fQ (ak bg (ak (fQ (ak bg (ak (bP cH (ah 1) aX (fun _ _=>rfl)) aK))) aK))) aK)))) (aY (dD (GU (ew bp (ah 0) bg (fun _ _=>rfl)) (bP cH (ah 1) aX (fun _ _=>rfl)) ⟨rfl,rfl,rfl,rfl⟩))))),?_⟩
 obtain⟨c,cM,ev,ai,b7,jx⟩:∃c w,v=.ref c∧H c=some (.tup [.str w,.int d])∧(kq=true→w="drop")∧(kq=false→w="end"):=by
  cases kq with
  | true =>
   obtain⟨c,b0,cM,rfl,ai,bx,b7⟩:=gk (a:=.str "drop") (b:=.int d) bD
   cases bx.str_inv
   cases b7.int_inv
   exact⟨c,_,rfl,ai,fun _=>rfl,(fun z=>nomatch z)⟩
  | false =>
   obtain⟨c,b0,cM,rfl,ai,bx,b7⟩:=gk (a:=.str "end") (b:=.int d) bD
   cases bx.str_inv
   cases b7.int_inv
   exact⟨c,_,rfl,ai,(fun z=>nomatch z),fun _=>rfl⟩
 subst ev
 cases kq with
 | true =>
  cases b7 rfl
  refine⟨_,rfl,c,_,_,_,rfl,rfl,aP.of ai,rfl,rfl,_,rfl,ei rfl ?_⟩
  obtain⟨i,a,ys,aW,hw,bf,zw,cJ⟩:=bO.ug aF
  have pT:=zw.length
  rw[length_map]at pT
  refine⟨_,rfl,h,_,rfl,bO.jT,_,rfl,c,_,_,_,rfl,rfl,aP.of ai,rfl,pu,_,rfl,cJ,a,ys,rfl,aV.of bf,fun l aG=>⟨l,rfl,⟨_,aV.of aT⟩,?_⟩⟩
  have s1:=b3 aG (.lst ys.reverse)
  have aJ:(upd H l (.lst ys.reverse)) l=some (.lst ys.reverse):=aT
  have nl:=bO.there aG
  have a_:=bO.same s1
  have Mk:=bE.mono s1 _ _ zw
  have cE:=s1 _ _ ai
  generalize upd H l (.lst ys.reverse)=H1 at s1 aJ a_ Mk cE ⊢
  refine xN (K:=K) (a:=l) (xs:=ys.reverse) (fun j σ aq=>∃(b5 dr:Option V) (lo':Addr),σ=[some (.ref h),some (.ref c),b5,dr]∧bh aq h ce ao lo' pu st pl (x.gm d ((x.ef d).reverse.take j))∧hG (own h ce ao pu st pl) lo lo' H1 aq)
   ⟨none,none,lo,rfl,a_,(h6.refl _ _).l⟩ (fun j σ aq _ ⟨_,_,_,_,_,b5⟩=>aV.of (b5.1 _ _ nl aJ)) ?_ ?_
  ·rintro j v σ aq cK ⟨b5,dr,lo',rfl,cn,dh⟩
   have W0:j<ys.length:=by
    have:=(List.getElem?_eq_some_iff.mp cK).1
    rw[length_reverse]at this
    exact this
   have zC:ys[ys.length - 1 - j]?=some v:=by rw[getElem?_reverse W0]at cK;exact cK
   obtain⟨iA,dT,d6⟩:=sm Mk zC
   have VA:(x.ef d).reverse[j]?=some iA:=by
    rw[getElem?_reverse (by omega),←pT]
    exact dT
   have kt:=a_.gC dh.1
   obtain⟨b,fe,eL,rfl,aa,bw,aU⟩:=gk (a:=.int (iA.1:Nat)) (b:=.int iA.2) (Rep.keep kt _ _ (iH iA) d6)
   cases bw.int_inv
   cases aU.int_inv
   have nE:iA.1<x.aO.length:=pW iA (mem_of_getElem? dT)
   refine⟨b,_,rfl,aP.of aa,rfl,_,_,rfl,_,_,rfl,rfl,?_⟩
   refine⟨_,rfl,_,rfl,c,_,_,_,rfl,rfl,aP.of (kt _ _ cE),rfl,_,rfl,_,rfl,h,ce,ao,lo',pu,st,pl,_,d,iA.1,iA.2,rfl,cn,by rw[tZ];exact nE,aE.fits.gm (k:=1) (z.mono ?_) (fun y cA=>pW y (mem_reverse.mp (List.mem_of_mem_take cA))),fun dm c6 d4 hu=>?_⟩
   ·rw[length_take,length_reverse]
    omega
   ·rw[←FZ]at d4
    have hA:(x.ef d).reverse.take (j+1)=(x.ef d).reverse.take j++[iA]:=by
     rw[take_add_one,VA]
     rfl
    rw[←hA]at d4
    exact⟨_,_,dm,rfl,d4,dh.trans hu⟩
  ·rintro σ aq ⟨b5,dr,lo',rfl,cn,dh⟩
   have hQ:ys.reverse.length=(x.ef d).reverse.length:=by rw[length_reverse,length_reverse];exact pT
   rw[hQ,take_length,←k9]at cn
   have lM:=a_.gC dh.1 _ _ cE
   have y9:(x.hD d).bQ=x.bQ:=by rw[k9,sd]
   have tg:(x.hD d).fits 1:=by
    rw[k9]
    exact aE.fits.gm (k:=1) (by rw[length_reverse];exact z) fun y cA=>pW y (mem_reverse.mp cA)
   have s8:(x.hD d).isOpen d=true:=by unfold aE.isOpen;rw[y9];exact aF
   have fp:∀dm af,bh af h ce ao dm pu st (pl.filter fun z=>z.1 != d) ((x.hD d).pI d)→hG (own h ce ao pu st pl) lo' dm aq af→Q .cc af:=fun dm af d4 hu=>q dm af d4 ((bY.dh s1).l.trans (dh.trans hu))
   refine⟨_,rfl,_,rfl,c,_,_,_,rfl,rfl,aP.of lM,rfl,cX,fun t1 ri=>⟨cX,fun ek rg=>?_⟩⟩
   have s1:=b3 ri (.tup [.str "end",.int d])
   have aJ:(upd aq t1 (.tup [.str "end",.int d])) t1=some (.tup [.str "end",.int d]):=aT
   have u1:(upd aq t1 (.tup [.str "end",.int d])) ek=none:=rg
   have s2:=b3 u1 (.tup [.str "line",.ref t1])
   have fY:=s1.trans s2
   refine⟨h,ce,ao,lo',pu,st,pl,(x.hD d),.ref ek,.line (.fin d),rfl,cn.same fY,.f3 aT (.cons .ofStr (.cons (.f3 (s2 _ _ aJ) (.cons .ofStr (.cons .ofInt .nil))) .nil)),True.intro,tg,fun dm e_ gM hi=>?_⟩
   have pY:=(cn.same fY).gC hi.1 _ _ (fY _ _ lM)
   have bA:=gM.isOpen d
   have DA:((x.hD d).da (.line (.fin d))).isOpen d=true:=s8
   rw[DA]at bA
   obtain⟨EK,Dv⟩:=Option.isSome_iff_exists.mp bA
   refine⟨_,rfl,h,_,rfl,gM.jT,pu,rfl,.inl ⟨_,.inl gM.aD⟩,_,rfl,c,_,_,_,rfl,rfl,aP.of pY,rfl,_,Sum.inl d,EK,gM.aD,rfl,Dv,?_⟩
   exact fp dm _ (gM.ended d) ((bY.dh fY).l.trans (hi.trans (nf (bh.mp ..)).l))
 | false =>
  cases jx rfl
  refine⟨_,rfl,c,_,_,_,rfl,rfl,aP.of ai,rfl,rfl,_,rfl,bH (by decide +kernel) ?_⟩
  have fp:∀dm af,bh af h ce ao dm pu st (pl.filter fun z=>z.1 != d) (x.pI d)→hG (own h ce ao pu st pl) lo dm H af→Q .cc af:=q
  have cn:=bO
  have lM:=ai
  have s8:=aF
  have tg:x.fits 1:=z.mono (by omega)
  refine⟨_,rfl,_,rfl,c,_,_,_,rfl,rfl,aP.of lM,rfl,cX,fun t1 ri=>⟨cX,fun ek rg=>?_⟩⟩
  have s1:=b3 ri (.tup [.str "end",.int d])
  have aJ:(upd H t1 (.tup [.str "end",.int d])) t1=some (.tup [.str "end",.int d]):=aT
  have u1:(upd H t1 (.tup [.str "end",.int d])) ek=none:=rg
  have s2:=b3 u1 (.tup [.str "line",.ref t1])
  have fY:=s1.trans s2
  refine⟨h,ce,ao,lo,pu,st,pl,x,.ref ek,.line (.fin d),rfl,cn.same fY,.f3 aT (.cons .ofStr (.cons (.f3 (s2 _ _ aJ) (.cons .ofStr (.cons .ofInt .nil))) .nil)),True.intro,tg,fun dm e_ gM hi=>?_⟩
  have pY:=(cn.same fY).gC hi.1 _ _ (fY _ _ lM)
  have bA:=gM.isOpen d
  have DA:(x.da (.line (.fin d))).isOpen d=true:=s8
  rw[DA]at bA
  obtain⟨EK,Dv⟩:=Option.isSome_iff_exists.mp bA
  refine⟨_,rfl,h,_,rfl,gM.jT,pu,rfl,.inl ⟨_,.inl gM.aD⟩,_,rfl,c,_,_,_,rfl,rfl,aP.of pY,rfl,_,Sum.inl d,EK,gM.aD,rfl,Dv,?_⟩
  exact fp dm _ (gM.ended d) ((bY.dh fY).l.trans (hi.trans (nf (bh.mp ..)).l))
def F8:dg:=fun vs H Q _=>∃(h ce ao lo pu st:Addr) (pl:List (Int × Addr)) (x:aE) (v:V) (e:cZ) (n:Nat),vs=[.ref h,v]∧bh H h ce ao lo pu st pl x∧Rep H e.D v∧x.good n∧n≤110 ∧
 ∀lo' c3 af,bh af h ce ao lo' pu st c3 (x.bX e).1→hG (own h ce ao pu st pl) lo lo' H af→(∀b∈own h ce ao pu st c3,b∈own h ce ao pu st pl∨H b=none)→Q (x.bX e).2.v af
theorem Im:dE ["_law_mine","_law_deed","_law_word"] pK (cT AQ):=dS
theorem Pn {tA:Addr}{wM:FuncData}{kV:Addr}{m4:FuncData}{gu:Addr}{g6:FuncData}{rU:Addr}{wN:FuncData}{hO:Addr}{iU:FuncData}{hN:Addr}{iT:FuncData}(F:bZ K "_law_answered" "_law_answered" AQ f fd) (B:fc mg) (As:a5 P w K mg base b1 4 tA wM yQ H2) (Ak:Binds K wM yQ []) (Oz:keepIn K (.ref tA)=true) (z_:mg "_law_full"=some (.ref tA)) (r8:a5 P w K mg base b1 2 kV m4 yP Gm) (rZ:Binds K m4 yP []) (wm:keepIn K (.ref kV)=true) (lW:mg "_law_refusal"=some (.ref kV)) (jQ:a5 P w K mg base b1 2 gu g6 sM A9) (jN:Binds K g6 sM []) (rR:keepIn K (.ref gu)=true) (hL:mg "_law_put_in"=some (.ref gu)) (GE:a5 P w K mg base b1 3 rU wN pK Hp) (wW:Binds K wN pK []) (wo:keepIn K (.ref rU)=true) (wj:mg "_law_end_in"=some (.ref rU)) (m9:a5 P w K mg base b1 2 hO iU sN AO) (m5:Binds K iU sN []) (wu:keepIn K (.ref hO)=true) (mX:mg "_law_carry_in"=some (.ref hO)) (l6:a5 P w K mg base b1 3 hN iT sO Ba) (l4:Binds K iT sO []) (tw:keepIn K (.ref hN)=true) (lV:mg "_law_cut_in"=some (.ref hN)):a5 P w K mg base b1 5 f fd pK F8:=by
 refine F.ok Im (fun vs H Q E h=>?_) (fun cg A outer s H vs Q E aI h=>?_)
 ·obtain⟨h,ce,ao,lo,pu,st,pl,x,v,e,n,rfl,_⟩:=h
  rfl
 obtain⟨h,ce,ao,lo,pu,st,pl,x,v,e,nn,rfl,bO,bD,g,aN,q⟩:=h
 have bp:=hp aI
 refine⟨_,(bl (cO (cU d2 (bP cH (ah 1) aX (fun _ _=>rfl)) bg (cN _)) (bl (nd bp (ah 0) bg (c0 gN (ew bp (ah 0) bg (fun _ _=>rfl)) aX) rfl) (bl (cO (i0 (dj As (b6 aI) rfl z_ Oz Ak .nil cW (ak (ah 0) (ak aX aK)))) (aY (dc bg)) dK) (bl (nd bp (ew bp (ah 0) bg (fun _ _=>rfl)) (c0 qM (ew bp (ah 0) bg (fun _ _=>rfl)) aX) (fC aK) rfl) (aY (dc (c0 qM (ew bp (ah 0) bg (fun _ _=>rfl)) aX)))))) dK) (bl (cQ (i:=2) Im.bk rfl (Or.inl rfl) (dj r8 (b6 aI) rfl lW wm rZ .nil cW (ak (ew bp (ah 0) bg (fun _ _=>rfl)) (ak (ew bp (ah 0) bg (fun _ _=>rfl)) (ak (ah 1) aK))))) (bl (cO (cU kD (ah 2) bg (cN _)) (aY (dc (ah 2))) dK) (bl (cO (cU d2 (bP cH (ah 1) aX (fun _ _=>rfl)) bg (cN _)) (bl (cO (i0 (dj As (b6 aI) rfl z_ Oz Ak .nil cW (ak (ah 0) (ak aX aK)))) (aY (dc bg)) dK) (bl (dD (i2 plainAttrs_list PySem.F.slot_list_append PySem.F.type_list_append iY (ew bp (ew bp (ah 0) bg (fun _ _=>rfl)) (bP cH (ah 1) aX (fun _ _=>rfl)) (fun _ _=>rfl)) (ak (fQ (ak (bP cH (ah 1) aX (fun _ _=>rfl)) (ak (bP ee (ew bp (ah 0) bg (fun _ _=>rfl)) (bP cH (ah 1) aX (fun _ _=>rfl)) (fun _ _=>rfl)) aK))) aK))) (aY (dD (dj jQ (b6 aI) rfl hL rR jN .nil cW (ak (ah 0) (ak (bP cH (ah 1) aX (fun _ _=>rfl)) (ak (bP cH (ah 1) aX (fun _ _=>rfl)) (ak (bP cH (ah 1) aX (fun _ _=>rfl)) aK))))))))) (aY (cO (n8 (cU d2 (bP cH (ah 1) aX (fun _ _=>rfl)) bg (cN _)) (cU d2 (bP cH (ah 1) aX (fun _ _=>rfl)) bg (cN _))) (aY (dD (dj GE (b6 aI) rfl wj wo wW .nil cW (ak (ah 0) (ak (ah 1) aK))))) (aY (cO (cU d2 (bP cH (ah 1) aX (fun _ _=>rfl)) bg (cN _)) (aY (dc (bP ee (ew bp (ah 0) bg (fun _ _=>rfl)) (bP cH (ah 1) aX (fun _ _=>rfl)) (fun _ _=>rfl)))) (aY (cO (cU d2 (bP cH (ah 1) aX (fun _ _=>rfl)) bg (cN _)) (aY (dD (dj m9 (b6 aI) rfl mX wu m5 .nil cW (ak (ah 0) (ak (bP cH (ah 1) aX (fun _ _=>rfl)) aK))))) (aY (dD (dj l6 (b6 aI) rfl lV tw l4 .nil cW (ak (ah 0) aK))))))))))) (aY (dc bg)))))),?_⟩
 cases e with
 | begin =>
  obtain⟨c,b0,rfl,ai,bx⟩:=px bD
  cases bx.str_inv
  refine⟨_,rfl,c,_,_,_,rfl,rfl,aP.of ai,rfl,rfl,_,rfl,ei rfl ?_⟩
  have az:x.bX .begin=if (x.began.full 1).2=true then ((x.began.full 1).1,.word "no room") else ((x.began.full 1).1.opened,.num x.begun):=rfl
  refine⟨_,rfl,h,_,rfl,bO.B1,_,_,rfl,rfl,_,rfl,h,_,rfl,bO.SO _,?_⟩
  have a_:bh _ h ce ao lo pu st pl x.began:=bO.setB (n:=x.begun+1) (b:=(x.begun:Int)+1) (by omega)
  have b5:h6 (own h ce ao pu st pl) H (upd H h (.b2 (putK (a4 ce ao lo pu st x.room x.begun) (Sum.inr "begun") (.int ((x.begun:Int)+1))))):=nf (bh.p_ ..)
  generalize upd H h (.b2 (putK (a4 ce ao lo pu st x.room x.begun) (Sum.inr "begun") (.int ((x.begun:Int)+1))))=aq at a_ b5 ⊢
  have qh:x.began.fits (x.began.aO.length+1):=g.fits (by omega) (by have:=g.eF;show x.aO.length+1≤_;omega)
  refine⟨_,rfl,h,ce,ao,lo,pu,st,pl,x.began,1,rfl,a_,(by have:=g.pl;show x.bQ.length≤200;omega),(by have:=g.eF;show x.aO.length≤1000;omega),qh,fun lo' a3 cn dr=>⟨_,rfl,?_⟩⟩
  cases hf:(x.began.full 1).2 with
  | true =>
   rw[hf,if_pos rfl]at az
   refine eY ?_
   rw[az]at q
   exact q lo' pl a3 cn (b5.l.trans dr) fun b aa=>.inl aa
  | false =>
   rw[hf,if_neg Bool.false_ne_true]at az
   rw[az]at q
   refine dQ ?_
   have es:(x.began.full 1).1.begun=x.begun+1:=ph
   have cL:(x.began.full 1).1.bQ=x.bQ:=pq
   have iF:(x.began.full 1).1.opened={ (x.began.full 1).1 with bQ:=(x.began.full 1).1.bQ++[((((x.began.full 1).1.begun:Nat):Int) - 1,[])] }:=rfl
   rw[iF]at q
   generalize (x.began.full 1).1=y at cn q es cL
   have oA:y.isOpen ((y.begun:Int) - 1)=false:=by
    cases cA:y.isOpen ((y.begun:Int) - 1) with
    | false=>rfl
    | true =>
     have m:=qz cA
     rw[cL]at m
     have:=(g.fV _ m).2.1
     rw[es]at this
     have Zm:(((x.begun+1:Nat):Int) - 1)<(x.begun:Nat):=this
     omega
   refine⟨cX,fun u s7=>?_⟩
   have Oi:=cn.there s7
   have s4:=b3 s7 (.lst [])
   have cC:(upd a3 u (.lst [])) u=some (.lst []):=aT
   have nul:u≠lo':=by
    obtain⟨xs,hQ,_⟩:=cn.aG
    exact (cG hQ s7).symm
   have Wy:u∉own h ce ao pu st pl→H u=none:=fun aN=>by
    cases e:H u with
    | none=>rfl
    | some bT =>
     have:=(b5.trans dr.1) u bT aN e
     rw[s7]at this
     cases this
   have d4:=cn.same s4
   generalize upd a3 u (.lst [])=c6 at s4 cC d4 ⊢
   have Wa:(eN pl).length<sizeLine:=jS (by
    have aJ:(eN pl).length=pl.length:=length_map _
    have aQ:=bO.q3
    have:=g.pl
    omega)
   refine⟨_,rfl,h,_,rfl,d4.jT,_,rfl,h,_,rfl,d4.B1,_,_,rfl,rfl,pu,_,rfl,.inl ⟨_,Sum.inl ((y.begun:Int) - 1),d4.aD,rfl,Wa,rfl⟩,?_⟩
   have gM:=d4.opened (d:=(y.begun:Int) - 1) cC Oi nul oA
   refine⟨_,rfl,h,_,rfl,gM.B1,_,_,rfl,rfl,?_⟩
   have nQ:=q lo' _ _ gM (b5.l.trans (dr.trans ((bY.dh s4).l.trans (nf (bh.mp ..)).l))) fun b aa=>by
    rw[n5]at aa
    rcases aa with e | e | e | e | e | ⟨z,hz,e⟩
    ·rw[e];exact .inl (bh.p_ ..)
    ·rw[e];exact .inl (bh.qa ..)
    ·rw[e];exact .inl (bh.tr ..)
    ·rw[e];exact .inl (bh.mp ..)
    ·rw[e];exact .inl (bh.ms ..)
    ·rcases mem_append.mp hz with hz | hz
     ·rw[←e];exact .inl (bh.tp hz ..)
     ·have iS:=mem_singleton.mp hz
      rw[iS]at e
      rw[←e]
      exact .inr (Wy Oi)
   have ev:V.int ((y.begun:Int) - 1)=(dn.num x.begun).v:=by
    show V.int _=V.int _
    rw[es]
    congr 1
    omega
   show Q (V.int ((y.begun:Int) - 1)) _
   rw[ev]
   exact nQ
 | put d p n =>
  obtain⟨c,b0,cM,g0,kN,rfl,ai,bx,b7,kR,mU⟩:=xD bD
  cases bx.str_inv
  cases b7.int_inv
  cases kR.int_inv
  cases mU.int_inv
  refine⟨_,rfl,c,_,_,_,rfl,rfl,aP.of ai,rfl,rfl,_,rfl,bH (by decide +kernel) ?_⟩
  refine⟨_,rfl,h,_,rfl,bO.jT,_,rfl,h,_,rfl,bO.kE,_,rfl,h,ce,ao,lo,pu,st,pl,x,.ref c,(.put d p n),rfl,bO,bD,g.fX,fun z hz=>(g.fV z hz).1,fun aq s2=>?_⟩
  have a_:=bO.same s2
  have cE:=s2 _ _ ai
  cases ey:x.refusal (.put d p n) with
  | some ww =>
   have az:x.bX (.put d p n)=(x,.word ww):=by unfold aE.bX;rw[ey]
   rw[az]at q
   refine⟨_,rfl,rfl,_,rfl,od (sb ey) ?_⟩
   exact⟨_,rfl,q lo pl aq a_ ((bY.dh s2).l) fun b aa=>.inl aa⟩
  | none =>
  have az:x.bX (.put d p n)=x.i7 (.put d p n):=by unfold aE.bX;rw[ey]
  rw[az]at q
  refine⟨_,rfl,rfl,_,rfl,pL rfl ?_⟩
  refine⟨_,rfl,c,_,_,_,rfl,rfl,aP.of cE,rfl,rfl,_,rfl,ei rfl ?_⟩
  have aF:x.isOpen d=true:=tX (.inl ⟨p,n,rfl⟩) ey
  obtain⟨rN,cp⟩:=tW (.inl ⟨d,n,rfl⟩) ey
  obtain⟨bR,rfl⟩:∃bR:Nat,p=(bR:Int):=⟨p.toNat,by omega⟩
  have lI:bR<x.aO.length:=by omega
  have eE:x.i7 (.put d (bR:Int) n)=if (x.full 2).2=true then ((x.full 2).1,.word "no room") else ((((x.full 2).1.eo d (bR:Int).toNat).putIn d (bR:Int).toNat n),.word "done"):=rfl
  rw[Int.toNat_natCast]at eE
  have qh:x.fits (x.aO.length+1+1):=g.fits (by omega) (by have:=g.eF;omega)
  refine⟨_,rfl,h,ce,ao,lo,pu,st,pl,x,2,rfl,a_,(by have:=g.pl;omega),(by have:=g.eF;omega),qh.mono (by omega),fun lo' a3 cn dr=>⟨_,rfl,?_⟩⟩
  have f7:=(bY.dh (fN:=own h ce ao pu st pl) s2).l.trans dr
  cases hf:(x.full 2).2 with
  | true =>
   rw[hf,if_pos rfl]at eE
   refine eY ?_
   rw[eE]at q
   exact q lo' pl a3 cn f7 fun b aa=>.inl aa
  | false =>
   rw[hf,if_neg Bool.false_ne_true]at eE
   rw[eE]at q
   refine dQ ?_
   have cL:(x.full 2).1.bQ=x.bQ:=pq
   have vO:(x.full 2).1.aO=x.aO:=qB
   have qg:(x.full 2).1.fits 1:=aE.fits.full qh
   have lM:=a_.gC dr.1 _ _ cE
   generalize (x.full 2).1=y at cn q cL vO qg
   have rk:y.isOpen d=true:=by unfold aE.isOpen;rw[cL];exact aF
   have vB:bR<y.aO.length:=by rw[vO];exact lI
   obtain⟨i,a,ys,aW,hw,bf,zw,cJ⟩:=cn.ug rk
   obtain⟨o,fX,eF⟩:=cn.p5 vB
   have iF:y.aO.getD bR 0=o:=by rw[getD_eq_getElem?_getD,fX];rfl
   have pT:=zw.length
   rw[length_map]at pT
   have lX:(y.ef d).length≤110:=by
    have m:=qz rk
    rw[cL]at m
    have cB:(y.ef d).length≤_:=(g.fV _ m).2.2.1
    omega
   refine⟨_,rfl,h,_,rfl,cn.jT,_,rfl,c,_,_,_,rfl,rfl,aP.of lM,rfl,pu,_,rfl,cJ,.inl ⟨rfl,_,aV.of bf⟩,_,rfl,c,_,_,_,rfl,rfl,aP.of lM,rfl,_,rfl,h,_,rfl,cn.kE,_,rfl,c,_,_,_,rfl,rfl,aP.of lM,rfl,ao,_,_,_,rfl,rfl,aV.of cn.hd,eF,cX,fun t bG=>?_⟩
   have s4:=b3 bG (.tup [.int (bR:Nat),.int o])
   have cC:(upd a3 t (.tup [.int (bR:Nat),.int o])) t=some (.tup [.int (bR:Nat),.int o]):=aT
   have d4:=cn.same s4
   have My:=s4 _ _ lM
   generalize upd a3 t (.tup [.int (bR:Nat),.int o])=c6 at s4 cC d4 My ⊢
   refine⟨a,ys,.ref t,rfl,rfl,s4 _ _ bf,jS (by omega),?_⟩
   have gM:=d4.eo (y:=(bR,o)) (v:=.ref t) aW (s4 _ _ bf) (.f3 cC (.cons .ofInt (.cons .ofInt .nil)))
   have Ys:a∈own h ce ao pu st pl:=bh.tp (mem_of_getElem? aW) ..
   have hi:h6 (own h ce ao pu st pl) c6 (upd c6 a (.lst (ys++[.ref t]))):=nf Ys
   have pY:=d4.gC hi _ _ My
   have m3:y.eo d bR={ y with bQ:=y.bQ.map fun z=>if z.1=d then (z.1,z.2++[(bR,y.aO.getD bR 0)]) else z }:=rfl
   rw[iF]at m3
   rw[←m3]at gM
   generalize upd c6 a (.lst (ys++[.ref t]))=e_ at gM hi pY ⊢
   refine⟨_,rfl,_,rfl,c,_,_,_,rfl,rfl,aP.of pY,rfl,_,rfl,c,_,_,_,rfl,rfl,aP.of pY,rfl,_,rfl,c,_,_,_,rfl,rfl,aP.of pY,rfl,h,ce,ao,lo',pu,st,pl,y.eo d bR,d,bR,n,rfl,gM,vB,qg,fun dm iW tU kg=>?_⟩
   exact q dm pl iW tU (f7.trans ((bY.dh s4).l.trans (hi.l.trans kg))) fun b aa=>.inl aa
 | fin d =>
  obtain⟨c,b0,cM,rfl,ai,bx,b7⟩:=gk bD
  cases bx.str_inv
  cases b7.int_inv
  refine⟨_,rfl,c,_,_,_,rfl,rfl,aP.of ai,rfl,rfl,_,rfl,bH (by decide +kernel) ?_⟩
  refine⟨_,rfl,h,_,rfl,bO.jT,_,rfl,h,_,rfl,bO.kE,_,rfl,h,ce,ao,lo,pu,st,pl,x,.ref c,(.fin d),rfl,bO,bD,g.fX,fun z hz=>(g.fV z hz).1,fun aq s2=>?_⟩
  have a_:=bO.same s2
  have cE:=s2 _ _ ai
  cases ey:x.refusal (.fin d) with
  | some ww =>
   have az:x.bX (.fin d)=(x,.word ww):=by unfold aE.bX;rw[ey]
   rw[az]at q
   refine⟨_,rfl,rfl,_,rfl,od (sb ey) ?_⟩
   exact⟨_,rfl,q lo pl aq a_ ((bY.dh s2).l) fun b aa=>.inl aa⟩
  | none =>
  have az:x.bX (.fin d)=x.i7 (.fin d):=by unfold aE.bX;rw[ey]
  rw[az]at q
  refine⟨_,rfl,rfl,_,rfl,pL rfl ?_⟩
  refine⟨_,rfl,c,_,_,_,rfl,rfl,aP.of cE,rfl,rfl,_,rfl,bH (by decide +kernel) ?_⟩
  refine⟨_,rfl,c,_,_,_,rfl,rfl,aP.of cE,rfl,rfl,_,rfl,ei rfl (eY ?_)⟩
  have aF:x.isOpen d=true:=tX (.inr (.inl rfl)) ey
  have m:=g.fV _ (qz aF)
  have lX:(x.ef d).length≤nn:=m.2.2.1
  refine⟨_,rfl,_,rfl,h,ce,ao,lo,pu,st,pl,x,.ref c,false,d,rfl,a_,Rep.keep s2.gC _ _ (cZ.fR _) bD,aF,m.2.2.2,g.fits (by omega) (by omega),fun lo' a3 cn dr=>?_⟩
  refine q lo' _ a3 cn ((bY.dh s2).l.trans dr) fun b aa=>.inl ?_
  rw[n5]at aa ⊢
  rcases aa with e | e | e | e | e | ⟨z,hz,e⟩
  ·exact .inl e
  ·exact .inr (.inl e)
  ·exact .inr (.inr (.inl e))
  ·exact .inr (.inr (.inr (.inl e)))
  ·exact .inr (.inr (.inr (.inr (.inl e))))
  ·exact .inr (.inr (.inr (.inr (.inr ⟨z,(mem_filter.mp hz).1,e⟩))))
 | drop d =>
  obtain⟨c,b0,cM,rfl,ai,bx,b7⟩:=gk bD
  cases bx.str_inv
  cases b7.int_inv
  refine⟨_,rfl,c,_,_,_,rfl,rfl,aP.of ai,rfl,rfl,_,rfl,bH (by decide +kernel) ?_⟩
  refine⟨_,rfl,h,_,rfl,bO.jT,_,rfl,h,_,rfl,bO.kE,_,rfl,h,ce,ao,lo,pu,st,pl,x,.ref c,(.drop d),rfl,bO,bD,g.fX,fun z hz=>(g.fV z hz).1,fun aq s2=>?_⟩
  have a_:=bO.same s2
  have cE:=s2 _ _ ai
  cases ey:x.refusal (.drop d) with
  | some ww =>
   have az:x.bX (.drop d)=(x,.word ww):=by unfold aE.bX;rw[ey]
   rw[az]at q
   refine⟨_,rfl,rfl,_,rfl,od (sb ey) ?_⟩
   exact⟨_,rfl,q lo pl aq a_ ((bY.dh s2).l) fun b aa=>.inl aa⟩
  | none =>
  have az:x.bX (.drop d)=x.i7 (.drop d):=by unfold aE.bX;rw[ey]
  rw[az]at q
  refine⟨_,rfl,rfl,_,rfl,pL rfl ?_⟩
  refine⟨_,rfl,c,_,_,_,rfl,rfl,aP.of cE,rfl,rfl,_,rfl,bH (by decide +kernel) ?_⟩
  refine⟨_,rfl,c,_,_,_,rfl,rfl,aP.of cE,rfl,rfl,_,rfl,bH (by decide +kernel) ?_⟩
  refine⟨_,rfl,c,_,_,_,rfl,rfl,aP.of cE,rfl,rfl,_,rfl,ei rfl ?_⟩
  have aF:x.isOpen d=true:=tX (.inr (.inr rfl)) ey
  have m:=g.fV _ (qz aF)
  have lX:(x.ef d).length≤nn:=m.2.2.1
  refine⟨_,rfl,_,rfl,h,ce,ao,lo,pu,st,pl,x,.ref c,true,d,rfl,a_,Rep.keep s2.gC _ _ (cZ.fR _) bD,aF,m.2.2.2,g.fits (by omega) (by omega),fun lo' a3 cn dr=>?_⟩
  refine q lo' _ a3 cn ((bY.dh s2).l.trans dr) fun b aa=>.inl ?_
  rw[n5]at aa ⊢
  rcases aa with e | e | e | e | e | ⟨z,hz,e⟩
  ·exact .inl e
  ·exact .inr (.inl e)
  ·exact .inr (.inr (.inl e))
  ·exact .inr (.inr (.inr (.inl e)))
  ·exact .inr (.inr (.inr (.inr (.inl e))))
  ·exact .inr (.inr (.inr (.inr (.inr ⟨z,(mem_filter.mp hz).1,e⟩))))
 | look p =>
  obtain⟨c,b0,cM,rfl,ai,bx,b7⟩:=gk bD
  cases bx.str_inv
  cases b7.int_inv
  refine⟨_,rfl,c,_,_,_,rfl,rfl,aP.of ai,rfl,rfl,_,rfl,bH (by decide +kernel) ?_⟩
  refine⟨_,rfl,h,_,rfl,bO.jT,_,rfl,h,_,rfl,bO.kE,_,rfl,h,ce,ao,lo,pu,st,pl,x,.ref c,(.look p),rfl,bO,bD,g.fX,fun z hz=>(g.fV z hz).1,fun aq s2=>?_⟩
  have a_:=bO.same s2
  have cE:=s2 _ _ ai
  cases ey:x.refusal (.look p) with
  | some ww =>
   have az:x.bX (.look p)=(x,.word ww):=by unfold aE.bX;rw[ey]
   rw[az]at q
   refine⟨_,rfl,rfl,_,rfl,od (sb ey) ?_⟩
   exact⟨_,rfl,q lo pl aq a_ ((bY.dh s2).l) fun b aa=>.inl aa⟩
  | none =>
  have az:x.bX (.look p)=x.i7 (.look p):=by unfold aE.bX;rw[ey]
  rw[az]at q
  refine⟨_,rfl,rfl,_,rfl,pL rfl ?_⟩
  refine⟨_,rfl,c,_,_,_,rfl,rfl,aP.of cE,rfl,rfl,_,rfl,bH (by decide +kernel) ?_⟩
  refine⟨_,rfl,c,_,_,_,rfl,rfl,aP.of cE,rfl,rfl,_,rfl,bH (by decide +kernel) ?_⟩
  refine⟨_,rfl,c,_,_,_,rfl,rfl,aP.of cE,rfl,rfl,_,rfl,bH (by decide +kernel) ?_⟩
  obtain⟨rN,cp⟩:=tW (.inr (.inl rfl)) ey
  obtain⟨bR,rfl⟩:∃bR:Nat,p=(bR:Int):=⟨p.toNat,by omega⟩
  have lI:bR<x.aO.length:=by omega
  refine⟨_,rfl,c,_,_,_,rfl,rfl,aP.of cE,rfl,rfl,_,rfl,ei rfl ?_⟩
  obtain⟨o,fX,eF⟩:=a_.p5 lI
  have eE:x.i7 (.look (bR:Int))=(x,.num (x.aO.getD (bR:Int).toNat 0)):=rfl
  rw[Int.toNat_natCast,getD_eq_getElem?_getD,fX,Option.getD_some]at eE
  rw[eE]at q
  exact⟨_,rfl,h,_,rfl,a_.kE,_,rfl,c,_,_,_,rfl,rfl,aP.of cE,rfl,ao,_,_,_,rfl,rfl,aV.of a_.hd,eF,q lo pl aq a_ ((bY.dh s2).l) fun b aa=>.inl aa⟩
 | carry p =>
  obtain⟨c,b0,cM,rfl,ai,bx,b7⟩:=gk bD
  cases bx.str_inv
  cases b7.int_inv
  refine⟨_,rfl,c,_,_,_,rfl,rfl,aP.of ai,rfl,rfl,_,rfl,bH (by decide +kernel) ?_⟩
  refine⟨_,rfl,h,_,rfl,bO.jT,_,rfl,h,_,rfl,bO.kE,_,rfl,h,ce,ao,lo,pu,st,pl,x,.ref c,(.carry p),rfl,bO,bD,g.fX,fun z hz=>(g.fV z hz).1,fun aq s2=>?_⟩
  have a_:=bO.same s2
  have cE:=s2 _ _ ai
  cases ey:x.refusal (.carry p) with
  | some ww =>
   have az:x.bX (.carry p)=(x,.word ww):=by unfold aE.bX;rw[ey]
   rw[az]at q
   refine⟨_,rfl,rfl,_,rfl,od (sb ey) ?_⟩
   exact⟨_,rfl,q lo pl aq a_ ((bY.dh s2).l) fun b aa=>.inl aa⟩
  | none =>
  have az:x.bX (.carry p)=x.i7 (.carry p):=by unfold aE.bX;rw[ey]
  rw[az]at q
  refine⟨_,rfl,rfl,_,rfl,pL rfl ?_⟩
  refine⟨_,rfl,c,_,_,_,rfl,rfl,aP.of cE,rfl,rfl,_,rfl,bH (by decide +kernel) ?_⟩
  refine⟨_,rfl,c,_,_,_,rfl,rfl,aP.of cE,rfl,rfl,_,rfl,bH (by decide +kernel) ?_⟩
  refine⟨_,rfl,c,_,_,_,rfl,rfl,aP.of cE,rfl,rfl,_,rfl,bH (by decide +kernel) ?_⟩
  obtain⟨rN,cp⟩:=tW (.inr (.inr rfl)) ey
  obtain⟨bR,rfl⟩:∃bR:Nat,p=(bR:Int):=⟨p.toNat,by omega⟩
  have lI:bR<x.aO.length:=by omega
  refine⟨_,rfl,c,_,_,_,rfl,rfl,aP.of cE,rfl,rfl,_,rfl,bH (by decide +kernel) ?_⟩
  refine⟨_,rfl,c,_,_,_,rfl,rfl,aP.of cE,rfl,rfl,_,rfl,ei rfl ?_⟩
  have eE:x.i7 (.carry (bR:Int))=(x.gB (bR:Int).toNat,.word "done"):=rfl
  rw[Int.toNat_natCast]at eE
  rw[eE]at q
  refine⟨_,rfl,_,rfl,c,_,_,_,rfl,rfl,aP.of cE,rfl,h,ce,ao,lo,pu,st,pl,x,bR,rfl,a_,lI,g.fits (by omega) (by omega),fun lo' a3 cn dr=>?_⟩
  exact q lo' pl a3 cn ((bY.dh s2).l.trans dr) fun b aa=>.inl aa
 | cut =>
  obtain⟨c,b0,rfl,ai,bx⟩:=px bD
  cases bx.str_inv
  refine⟨_,rfl,c,_,_,_,rfl,rfl,aP.of ai,rfl,rfl,_,rfl,bH (by decide +kernel) ?_⟩
  refine⟨_,rfl,h,_,rfl,bO.jT,_,rfl,h,_,rfl,bO.kE,_,rfl,h,ce,ao,lo,pu,st,pl,x,.ref c,(.cut),rfl,bO,bD,g.fX,fun z hz=>(g.fV z hz).1,fun aq s2=>?_⟩
  have a_:=bO.same s2
  have cE:=s2 _ _ ai
  cases ey:x.refusal (.cut) with
  | some ww =>
   have az:x.bX (.cut)=(x,.word ww):=by unfold aE.bX;rw[ey]
   rw[az]at q
   refine⟨_,rfl,rfl,_,rfl,od (sb ey) ?_⟩
   exact⟨_,rfl,q lo pl aq a_ ((bY.dh s2).l) fun b aa=>.inl aa⟩
  | none =>
  have az:x.bX (.cut)=x.i7 (.cut):=by unfold aE.bX;rw[ey]
  rw[az]at q
  refine⟨_,rfl,rfl,_,rfl,pL rfl ?_⟩
  refine⟨_,rfl,c,_,_,_,rfl,rfl,aP.of cE,rfl,rfl,_,rfl,bH (by decide +kernel) ?_⟩
  refine⟨_,rfl,c,_,_,_,rfl,rfl,aP.of cE,rfl,rfl,_,rfl,bH (by decide +kernel) ?_⟩
  refine⟨_,rfl,c,_,_,_,rfl,rfl,aP.of cE,rfl,rfl,_,rfl,bH (by decide +kernel) ?_⟩
  refine⟨_,rfl,c,_,_,_,rfl,rfl,aP.of cE,rfl,rfl,_,rfl,bH (by decide +kernel) ?_⟩
  refine⟨_,rfl,c,_,_,_,rfl,rfl,aP.of cE,rfl,rfl,_,rfl,bH (by decide +kernel) ?_⟩
  have eE:x.i7 .cut=(x.f5,.word "done"):=rfl
  rw[eE]at q
  refine⟨_,rfl,h,ce,ao,lo,pu,st,pl,x,rfl,a_,g.fits (by omega) (by omega),fun lo' a3 cn dr=>?_⟩
  exact q lo' pl a3 cn ((bY.dh s2).l.trans dr) fun b aa=>.inl aa
def aE.new (aB:List Int) (room:Int):aE:=⟨aB,aB,[],[],room,0,[]⟩
def Ho:dg:=fun vs H Q _=>∃(p:Addr) (aB:List Int) (room:Int),vs=[.ref p,.int room]∧H p=some (.lst (aB.map V.int)) ∧
 ∀h ce ao lo pu st af,bY H af→bh af h ce ao lo pu st [] (aE.new aB room)→(∀b∈lo::own h ce ao pu st [],H b=none)→Q (.ref h) af
def HY:dg:=fun vs H Q _=>∃i:Int,vs=[.int i]∧∀(r:Int) (af:aj),bY H af→Q (.int r) af
def Hl:dg:=fun vs H Q _=>∃(i c:Int),vs=[.int i,.int c]∧1≤c∧c≤100∧∀(p:Addr) (aB:List Int) (af:aj),bY H af→H p=none→af p=some (.lst (aB.map V.int))→aB.length=c.toNat→Q (.ref p) af
theorem Hx:dE ["_law_pages","_law_room","_law_mine"] yO (cT BG):=dS
theorem Rj (ce ao lo pu st:Addr) (room:Int):putK (putK (putK (lg [] [(Sum.inr "cellar",V.ref ce),(Sum.inr "desk",V.ref ao),(Sum.inr "log",V.ref lo),(Sum.inr "puts",V.ref pu)]) (Sum.inr "room") (.int room)) (Sum.inr "begun") (.int 0)) (Sum.inr "strokes") (.ref st)=a4 ce ao lo pu st room 0:=by kernel_rfl
theorem Q5 (F:bZ K "_law_house_of" "_law_house_of" BG f fd) (B:fc mg):a5 P w K mg base b1 1 f fd yO Ho:=by
 refine F.ok Hx (fun vs H Q E h=>?_) (fun cg A outer s H vs Q E aI h=>?_)
 ·obtain⟨p,aB,room,rfl,_⟩:=h
  rfl
 obtain⟨p,aB,room,rfl,aD,q⟩:=h
 have bp:=hp aI
 refine⟨_,(bl (cQ (i:=2) Hx.bk rfl (Or.inl rfl) (RW (xF bg (hl n0 rfl B.lst i3 (ak (ah 0) aK)) (xF bg (hl n0 rfl B.lst i3 (ak (ah 0) aK)) (xF bg (fC aK) (xF bg xH RU)))) rfl rfl (fun z=>nomatch z) (by decide))) (bl (nd bp (ah 2) bg (ah 1) rfl) (bl (nd bp (ah 2) bg aX rfl) (bl (nd bp (ah 2) bg (fC aK) rfl) (aY (dc (ah 2))))))),?_⟩
 intro h du
 have s0:=b3 du (.b2 [])
 have e0:(upd H h (.b2 [])) h=some (.b2 []):=aT
 generalize upd H h (.b2 [])=dO at s0 e0 ⊢
 refine⟨_,rfl,p,_,rfl,.inl (aV.of (s0 _ _ aD)),fun ce DK=>?_⟩
 have s1:=b3 DK (.lst (aB.map V.int))
 have aJ:(upd dO ce (.lst (aB.map V.int))) ce=some (.lst (aB.map V.int)):=aT
 have f1:=s0.free DK
 generalize upd dO ce (.lst (aB.map V.int))=H1 at s1 aJ ⊢
 have r4:=s0.trans s1
 refine⟨_,rfl,p,_,rfl,.inl (aV.of (r4 _ _ aD)),fun ao rq=>?_⟩
 have s2:=b3 rq (.lst (aB.map V.int))
 have aQ:(upd H1 ao (.lst (aB.map V.int))) ao=some (.lst (aB.map V.int)):=aT
 have f2:=r4.free rq
 generalize upd H1 ao (.lst (aB.map V.int))=aq at s2 aQ ⊢
 have fY:=r4.trans s2
 refine⟨cX,fun lo lJ=>?_⟩
 have s3:=b3 lJ (.lst [])
 have b9:(upd aq lo (.lst [])) lo=some (.lst []):=aT
 generalize upd aq lo (.lst [])=a3 at s3 b9 ⊢
 have fL:=fY.free lJ
 have hT:=fY.trans s3
 intro pu jw
 have s4:=b3 jw (.b2 [])
 have cC:(upd a3 pu (.b2 [])) pu=some (.b2 []):=aT
 have f4:=hT.free jw
 generalize upd a3 pu (.b2 [])=c6 at s4 cC ⊢
 have o8:=hT.trans s4
 have b_:=(s2.trans (s3.trans s4)) _ _ aJ
 have dz:=(s3.trans s4) _ _ aQ
 have e9:=s4 _ _ b9
 have wQ:=(s1.trans (s2.trans (s3.trans s4))) _ _ e0
 have dF:ce≠h:=(cG e0 DK).symm
 have c_:ao≠h:=(cG (s1 _ _ e0) rq).symm
 have eb:lo≠h:=(cG ((s1.trans s2) _ _ e0) lJ).symm
 have eS:pu≠h:=(cG ((s1.trans (s2.trans s3)) _ _ e0) jw).symm
 have fj:ce≠ao:=cG aJ rq
 have fi:ce≠lo:=cG (s2 _ _ aJ) lJ
 have gU:ce≠pu:=cG ((s2.trans s3) _ _ aJ) jw
 have jc:ao≠lo:=cG aQ lJ
 have jF:ao≠pu:=cG (s3 _ _ aQ) jw
 have na:lo≠pu:=cG b9 jw
 refine⟨wQ,[(Sum.inr "cellar",V.ref ce),(Sum.inr "desk",V.ref ao),(Sum.inr "log",V.ref lo),(Sum.inr "puts",V.ref pu)],rfl,le_of_ble_eq_true rfl,?_⟩
 have aa3:(lg [] [(Sum.inr "cellar",V.ref ce),(Sum.inr "desk",V.ref ao),(Sum.inr "log",V.ref lo),(Sum.inr "puts",V.ref pu)]).length≤4:=by
  have:=AA [(Sum.inr "cellar",V.ref ce),(Sum.inr "desk",V.ref ao),(Sum.inr "log",V.ref lo),(Sum.inr "puts",V.ref pu)] []
  exact this
 have L2:(putK (lg [] [(Sum.inr "cellar",V.ref ce),(Sum.inr "desk",V.ref ao),(Sum.inr "log",V.ref lo),(Sum.inr "puts",V.ref pu)]) (Sum.inr "room") (.int room)).length≤5:=by
  have:=pg (lg [] [(Sum.inr "cellar",V.ref ce),(Sum.inr "desk",V.ref ao),(Sum.inr "log",V.ref lo),(Sum.inr "puts",V.ref pu)]) (Sum.inr "room") (.int room)
  omega
 have aa2:(putK (putK (lg [] [(Sum.inr "cellar",V.ref ce),(Sum.inr "desk",V.ref ao),(Sum.inr "log",V.ref lo),(Sum.inr "puts",V.ref pu)]) (Sum.inr "room") (.int room)) (Sum.inr "begun") (.int 0)).length≤6:=by
  have:=pg (putK (lg [] [(Sum.inr "cellar",V.ref ce),(Sum.inr "desk",V.ref ao),(Sum.inr "log",V.ref lo),(Sum.inr "puts",V.ref pu)]) (Sum.inr "room") (.int room)) (Sum.inr "begun") (.int 0)
  omega
 refine⟨_,rfl,_,rfl,h,_,rfl,.inl ⟨_,Sum.inr "room",aT,rfl,jS (by omega),rfl⟩,?_⟩
 rw[qE]
 refine⟨_,rfl,h,_,rfl,.inl ⟨_,Sum.inr "begun",aT,rfl,jS (by omega),rfl⟩,?_⟩
 rw[qE]
 refine⟨cX,fun st hb=>?_⟩
 have yW:(upd c6 h (.b2 (putK (putK (lg [] [(Sum.inr "cellar",V.ref ce),(Sum.inr "desk",V.ref ao),(Sum.inr "log",V.ref lo),(Sum.inr "puts",V.ref pu)]) (Sum.inr "room") (.int room)) (Sum.inr "begun") (.int 0)))) st=none:=hb
 have m0:st≠h:=fun e=>by rw[e,aT]at yW;cases yW
 have u2:c6 st=none:=by rw[ay m0]at yW;exact yW
 have gv:=o8.free u2
 refine⟨_,rfl,h,_,rfl,.inl ⟨_,Sum.inr "strokes",by rw[ay m0.symm];exact aT,rfl,jS (by omega),rfl⟩,?_⟩
 rw[Rj]
 have fq:ce≠st:=cG b_ u2
 have d_:ao≠st:=cG dz u2
 have el:lo≠st:=cG e9 u2
 have gG:pu≠st:=cG cC u2
 refine⟨_,rfl,q h ce ao lo pu st _ ?_ ?_ ?_⟩
 ·intro b o aa
  have nb:b≠h:=fun e=>by rw[e,du]at aa;cases aa
  have ns:b≠st:=fun e=>by rw[e,gv]at aa;cases aa
  rw[ay nb,ay ns,ay nb]
  exact o8 _ _ aa
 ·refine⟨aT,by rw[ay dF,ay fq,ay dF];exact b_,by rw[ay c_,ay d_,ay c_];exact dz,⟨[],by rw[ay eb,ay el,ay eb];exact e9,.nil⟩,by rw[ay eS,ay gG,ay eS];exact cC,rfl,fun i z w a=>by simp at a,nodup_nil,⟨[],by rw[ay m0,aT],.nil⟩,?_,?_,rfl⟩
  ·unfold own
   simp[dF.symm,c_.symm,eS.symm,m0.symm,fj,gU,fq,jF,d_,gG]
  ·unfold own
   simp[eb,fi.symm,jc.symm,na,el]
 ·intro b aa
  rcases mem_cons.mp aa with e | aa
  ·rw[e];exact fL
  rw[n5]at aa
  rcases aa with e | e | e | e | e | ⟨z,hz,_⟩
  ·rw[e];exact du
  ·rw[e];exact f1
  ·rw[e];exact f2
  ·rw[e];exact f4
  ·rw[e];exact gv
  ·cases hz
theorem RK:dE uV uV (cT BB):=dS
theorem Q4 (F:bZ K "_law_pages_of" "_law_pages_of" BB f fd) (B:fc mg):a5 P w K mg base b1 1 f fd uV Hl:=by
 refine F.ok RK (fun vs H Q E h=>?_) (fun cg A outer s H vs Q E aI h=>?_)
 ·obtain⟨i,c,rfl,_⟩:=h
  rfl
 obtain⟨i,c,rfl,av,aC,q⟩:=h
 refine⟨_,(aY (dc (uf [0] ["_law_k","_law_cell"] (jU.one (fv:="_law_cell") (j:=0) rfl (by decide +kernel) (by decide +kernel) rfl (by decide +kernel) rfl rfl (by decide +kernel) rfl rfl rfl) rfl (pn rfl B.kG (ak (ah 1) aK)) (fun C s1 H1 cj=>(bP (G1 (K:=K) rfl) (fC (ak (c0 ih (c0 gN (ah 1) (c0 ye aX (ah 0))) aX) (ak (c0 qM (c0 ih (ah 1) (c0 yd aX aX)) (ah 0)) aK))) (c0 ih (ah 0) aX) (fun _ _=>rfl)))))),?_⟩
 refine⟨_,rfl,c,rfl,by omega,by omega,fun acc eg=>Px (fun v=>∃z:Int,v=.int z) eg (by omega) (fun k a3 oX a4 ro=>?_) fun ys af ia sY s1 aJ=>?_⟩
 ·refine⟨_,rfl,_,rfl,_,_,rfl,rfl,.inl ⟨by decide,by decide⟩,_,_,rfl,rfl,_,_,rfl,rfl,(by decide:(0:Int)<7),_,rfl,_,_,rfl,rfl,⟨by decide,by decide,by decide⟩,_,_,rfl,rfl,(show (0:Int)<10 ^ (30:Int).toNat by decide),_,rfl,_,_,rfl,rfl,cX,fun t bG=>?_⟩
  refine⟨_,rfl,_,_,rfl,rfl,(by decide:(0:Int)<2),?_⟩
  obtain⟨z,a1,en⟩:=ji (ns:=[(i+3 * (0+(k:Int))) % 7,i % 10 ^ (30:Int).toNat - (0+(k:Int))]) (k:=(0+(k:Int)) % 2) (by omega) (by show _<(2:Int);omega)
  exact⟨t,_,_,_,rfl,rfl,aV.of aT,en,ro _ _ ⟨z,rfl⟩ (b3 bG _)⟩
 ·obtain⟨aB,rfl⟩:=ints_of sY
  rw[length_map]at ia
  exact q acc aB af s1 eg aJ ia
theorem Sq:dE nB nB (cT B5):=dS
theorem RX (F:bZ K "_law_room_of" "_law_room_of" B5 f fd) (B:fc mg):a5 P w K mg base b1 1 f fd nB HY:=by
 refine F.ok Sq (fun vs H Q E h=>?_) (fun cg A outer s H vs Q E aI h=>?_)
 ·obtain⟨i,rfl,_⟩:=h
  rfl
 obtain⟨i,rfl,q⟩:=h
 refine⟨_,(aY (dc (bP ee (fC (ak (c0 yd aX aX) (ak aX (ak aX (ak aX (ak aX (ak (c0 gN aX (c0 ih (c0 uh (ah 0) aX) aX)) (ak (c0 ih (ah 0) (c0 yd aX aX)) aK)))))))) (c0 ih (c0 uh (ah 0) aX) aX) (fun _ _=>rfl)))),?_⟩
 refine⟨_,_,rfl,rfl,⟨by decide,by decide,by decide⟩,_,rfl,_,_,rfl,rfl,⟨by decide,by decide⟩,_,_,rfl,rfl,(by decide:(0:Int)<60),_,_,rfl,rfl,_,rfl,_,_,rfl,rfl,⟨by decide,by decide,by decide⟩,_,_,rfl,rfl,(show (0:Int)<10 ^ (30:Int).toNat by decide),cX,fun t bG=>?_⟩
 refine⟨_,rfl,_,_,rfl,rfl,⟨by decide,by decide⟩,_,_,rfl,rfl,(by decide:(0:Int)<7),?_⟩
 obtain⟨z,a1,en⟩:=ji (ns:=[10 ^ (12:Int).toNat,4,6,9,14,15+i / 25 % 60,i % 10 ^ (30:Int).toNat]) (k:=i / 5 % 7) (by omega) (by show _<(7:Int);omega)
 exact⟨t,_,_,_,rfl,rfl,aV.of aT,en,q z _ (b3 bG _)⟩
structure hn (K:PySem.W.Frag) (mg:Str→Option Value) (C:Addr):Prop where
 cl:j7 K C
 sr:iI K C "cellar"
 nh:iI K C "desk"
 IA:iI K C "room"
 GX:iI K C "strokes"
 Bq:iI K C "begins"
 pG:iI K C "puts"
 Bp:iI K C "takers"
 uC:iI K C "bound"
 vn:mg "House"=some (.ref C)
abbrev p4:List Value:=[.type "ValueError",.type "Exception",.type "BaseException",.type "object"]
structure rC (K:PySem.W.Frag) (mg:Str→Option Value) (bJ bB bM bI:Addr):Prop where
 fH:mg "NoDealing"=some (.ref bJ)
 hL:mg "NoPage"=some (.ref bB)
 ts:mg "Taken"=some (.ref bM)
 lW:mg "NoRoom"=some (.ref bI)
 Yd:excIn K bJ p4 "ValueError.__new__"=true
 Yc:excIn K bB p4 "ValueError.__new__"=true
 X_:excIn K bM p4 "ValueError.__new__"=true
 Yb:excIn K bI p4 "ValueError.__new__"=true
theorem SN {P:Program}{w:World}{X:br}:Passes (c4 P w) X O1:=fun _ _ _ _ _ _ _ h=>by
 obtain⟨_,_,_,_,_,_,_,_,_,q⟩:=h
 exact q.elim
def Cq (C:Addr):dg:=fun vs H Q _=>∃(c cu dU:Addr) (x:V) (aB ls:List V) (fG:hS),vs=[.ref c,x]∧yo C H c cu dU aB ls∧CU H fG x∧fG.ok aB.length∧ls.length≤199999 ∧
 ∀(lH:Addr) (af:aj),yo C af c cu lH (hS.cu aB fG) (hS.dU ls fG)→(lH=dU∨H lH=none)→(∀b o,H b=some o→b≠c→b≠cu→(b≠dU∨lH≠dU)→af b=some o)→Q .cc af
def sL (aH au:Addr):dg:=fun vs H Q _=>∃(a:dI) (lo:Addr) (pl:List (Int × Addr)) (x:aE) (aA:List (Key × V)) (v:V) (s:dN),vs=[.ref a.h,v]∧ck aH au H a lo pl x aA∧Rep H s.D v∧s.okIn x∧x.fits 1 ∧
 ∀lo' af,ck aH au af a lo' pl (x.da s) aA→dP a lo pl lo' pl H af→Q .cc af
def yE (aH au:Addr):dg:=fun vs H Q _=>∃(a:dI) (lo:Addr) (pl:List (Int × Addr)) (x:aE) (aA:List (Key × V)) (d:Int) (p:Nat) (n:Int),vs=[.ref a.h,.int d,.int (p:Nat),.int n]∧ck aH au H a lo pl x aA∧p<x.aO.length∧x.fits 1 ∧
 ∀lo' af,ck aH au af a lo' pl (x.putIn d p n) aA→dP a lo pl lo' pl H af→Q .cc af
def Bu (aH au:Addr):dg:=fun vs H Q _=>∃(a:dI) (lo:Addr) (pl:List (Int × Addr)) (x:aE) (aA:List (Key × V)) (m:Int),vs=[.ref a.h,.int m]∧ck aH au H a lo pl x aA∧Q (.b8 (x.i1 m)) H
def uv (aH au bB:Addr):dg:=fun vs H Q E=>∃(a:dI) (lo:Addr) (pl:List (Int × Addr)) (x:aE) (aA:List (Key × V)) (p:Int),vs=[.ref a.h,.int p]∧ck aH au H a lo pl x aA∧p.natAbs.log2<1920∧(if p<0∨(x.aO.length:Int)≤p then E (.ref bB) none H else Q .cc H)
def uw (aH au bJ:Addr):dg:=fun vs H Q E=>∃(a:dI) (lo:Addr) (pl:List (Int × Addr)) (x:aE) (aA:List (Key × V)) (d:Int),vs=[.ref a.h,.int d]∧ck aH au H a lo pl x aA∧d.natAbs.log2<1920∧(if x.isOpen d=false then E (.ref bJ) none H else Q .cc H)
def Bv (aH au bM:Addr):dg:=fun vs H Q E=>∃(a:dI) (lo:Addr) (pl:List (Int × Addr)) (x:aE) (aA:List (Key × V)) (d:Int) (p:Nat),vs=[.ref a.h,.int d,.int (p:Nat)]∧ck aH au H a lo pl x aA∧x.begun≤1000∧p≤1000∧(if x.eK p=none∨x.eK p=some d then Q .cc H else E (.ref bM) none H)
theorem UJ:dE uU uU (cT BN):=dS
theorem Ra {C:Addr}(F:bZ K "__init__" "Cellar.__init__" BN f fd) (B:fc mg) (T:pv K mg C):a5 P w K mg base b1 1 f fd uU (Bb C):=by
 refine F.ok UJ (fun vs H Q E h=>?_) (fun cg A outer s H vs Q E aI h=>?_)
 ·obtain⟨c,dx,a,b,aB,ls,rfl,_⟩:=h
  rfl
 obtain⟨c,dx,a,b,aB,ls,rfl,ai,bf,aa,k⟩:=h
 refine⟨_,(bl (mc (ah 0) (hl n0 rfl B.lst i3 (ak (ah 1) aK)) rfl) (aY (mc (ah 0) (hl n0 rfl B.lst i3 (ak (ah 2) aK)) rfl))),?_⟩
 refine⟨_,rfl,a,aB,rfl,.inl (aV.of bf),fun cu pW=>?_⟩
 have rd:c≠cu:=cG ai pW
 have ZE:c≠a:=dv ai bf (by intro z;cases z)
 have V3:c≠b:=dv ai aa (by intro z;cases z)
 have V4:b≠cu:=cG aa pW
 refine⟨_,rfl,c,C,dx,[],rfl,(by rw[ay rd];exact ai),T.cl,T.z8,(by show 0<1000;decide),?_⟩
 refine⟨_,rfl,b,ls,rfl,.inl (aV.of (by rw[ay V3.symm,ay V4];exact aa)),fun dU s9=>?_⟩
 have zd:dU≠c:=fun z=>by rw[z,aT]at s9;cases s9
 have Dd:dU≠cu:=fun z=>by rw[z,ay rd.symm,aT]at s9;cases s9
 have JG:H dU=none:=by rw[ay zd,ay Dd]at s9;exact s9
 refine⟨_,rfl,c,C,dx,_,rfl,(by rw[ay zd.symm];exact aT),T.cl,T.tl,(by show 1<1000;decide),?_⟩
 refine k cu dU _ pW JG ⟨⟨dx,aT⟩,by rw[ay rd.symm,ay Dd.symm,ay rd.symm,aT],by rw[ay zd,aT],Dd.symm⟩ fun d o e hd=>?_
 rw[ay hd,ay (cG e JG),ay hd,ay (cG e pW)]
 exact e
theorem UH:dE i8 i8 (cT C4):=dS
theorem TV {C:Addr}(F:bZ K "do_stroke" "Cellar.do_stroke" C4 f fd) (T:pv K mg C):a5 P w K mg base b1 1 f fd i8 (Cq C):=by
 refine F.ok UH (fun vs H Q E h=>?_) (fun cg A outer s H vs Q E aI h=>?_)
 ·obtain⟨c,cu,dU,x,aB,ls,fG,rfl,_⟩:=h
  rfl
 obtain⟨c,cu,dU,x,aB,ls,fG,rfl,⟨⟨dx,av⟩,aD,aG,zc⟩,j5,bC,oQ,k⟩:=h
 have rd:c≠cu:=dv av aD (by intro z;cases z)
 have V1:c≠dU:=dv av aG (by intro z;cases z)
 refine⟨_,(aY (cO (cU d2 (bP cH (ah 1) aX (fun _ _=>rfl)) bg (cN _)) (aY (dD (i2 plainAttrs_list PySem.F.slot_list_append PySem.F.type_list_append iY (e5 (ah 0) rfl) (ak (bP cH (ah 1) aX (fun _ _=>rfl)) aK)))) (aY (cO (cU d2 (bP cH (ah 1) aX (fun _ _=>rfl)) bg (cN _)) (aY (x9 (bP cH (ah 1) aX (fun _ _=>rfl)) (yb (e5 (ah 0) rfl) (bP cH (ah 1) aX (fun _ _=>rfl)) set_list))) (aY (cO (cU d2 (bP cH (ah 1) aX (fun _ _=>rfl)) bg (cN _)) (aY (mc (ah 0) (xG xS (e5 (ah 0) rfl) (xU (bP cH (ah 1) aX (fun _ _=>rfl))) xV) rfl)) dK)))))),?_⟩
 cases fG with
 | line v =>
  obtain⟨t,rfl,bG⟩:=j5
  refine⟨_,rfl,t,_,_,_,rfl,rfl,aP.of bG,rfl,rfl,_,rfl,ei rfl ?_⟩
  refine⟨_,rfl,c,C,dx,_,_,rfl,av,T.cl,T.tl,xB _ _,.inl ⟨rfl,_,aV.of aG⟩,_,rfl,t,_,_,_,rfl,rfl,aP.of bG,rfl,dU,_,v,rfl,rfl,aG,jS (by omega),?_⟩
  refine k dU _ ⟨⟨dx,by rw[ay V1];exact av⟩,by rw[ay zc];exact aD,aT,zc⟩ (.inl rfl) fun b o e _ _ eb=>?_
  rw[ay (eb.elim id fun z=>absurd rfl z)]
  exact e
 | f6 j n =>
  obtain⟨t,rfl,bG⟩:=j5
  refine⟨_,rfl,t,_,_,_,rfl,rfl,aP.of bG,rfl,rfl,_,rfl,bH Ir ?_⟩
  refine⟨_,rfl,t,_,_,_,rfl,rfl,aP.of bG,rfl,rfl,_,rfl,ei rfl ?_⟩
  refine⟨_,rfl,t,_,_,_,rfl,rfl,aP.of bG,rfl,_,rfl,c,C,dx,_,_,rfl,av,T.cl,T.z8,AJ _ _,_,rfl,t,_,_,_,rfl,rfl,aP.of bG,rfl,cu,_,_,j,rfl,rfl,aD,x1 bC,?_⟩
  refine k dU _ ⟨⟨dx,by rw[ay rd];exact av⟩,aT,by rw[ay zc.symm];exact aG,zc⟩ (.inl rfl) fun b o e _ c_ _=>?_
  rw[ay c_]
  exact e
 | cut m =>
  obtain⟨t,rfl,bG⟩:=j5
  refine⟨_,rfl,t,_,_,_,rfl,rfl,aP.of bG,rfl,rfl,_,rfl,bH I_ ?_⟩
  refine⟨_,rfl,t,_,_,_,rfl,rfl,aP.of bG,rfl,rfl,_,rfl,bH Ul ?_⟩
  refine⟨_,rfl,t,_,_,_,rfl,rfl,aP.of bG,rfl,rfl,_,rfl,ei rfl ?_⟩
  refine⟨_,rfl,c,C,dx,_,_,rfl,av,T.cl,T.tl,xB _ _,_,rfl,t,_,_,_,rfl,rfl,aP.of bG,rfl,m,rfl,dU,_,rfl,aV.of aG,fun lH yY=>?_⟩
  have JA:c≠lH:=cG av yY
  have Jx:cu≠lH:=cG aD yY
  refine⟨_,rfl,c,C,dx,_,rfl,(by rw[ay JA];exact av),T.cl,T.tl,(by rw[A8];show 2<1000;decide),?_⟩
  refine k lH _ ⟨⟨dx,Eq.trans aT (congrArg (fun l=>some (eU.ins C dx l)) (Qz _ _ _))⟩,by rw[ay rd.symm,ay Jx];exact aD,by rw[ay JA.symm,aT];rfl,Jx⟩ (.inr yY) fun b o e dF _ _=>?_
  rw[ay dF,ay (cG e yY)]
  exact e
theorem UD:dE i8 i8 (cT BD):=dS
theorem TR {aH au:Addr}{eB:Addr}{fx:FuncData}(F:bZ K "make_stroke" "House.make_stroke" BD f fd) (T:hn K mg au) (ku:pv K mg aH) (gy:a5 P w K mg base b1 1 eB fx i8 (Cq aH)) (gx:Binds K fx i8 []) (fH:Meth K aH "do_stroke" eB):a5 P w K mg base b1 2 f fd i8 (sL aH au):=by
 refine F.ok UD (fun vs H Q E h=>?_) (fun cg A outer s H vs Q E aI h=>?_)
 ·obtain⟨a,lo,pl,x,aA,v,s,rfl,_⟩:=h
  rfl
 obtain⟨a,lo,pl,x,aA,v,cV,rfl,A,bA,bC,hE,q⟩:=h
 obtain⟨dx,bU⟩:=A.bT
 obtain⟨dy,b5⟩:=A.co
 obtain⟨xs,aJ,aQ⟩:=A.aG
 obtain⟨zs,b9,cC⟩:=A.fG
 obtain⟨y,j5,iy⟩:=P1 bA
 have Dh:a.ce≠lo:=A.c8.ne.2.2.2.2.2.2.2.2.2.2.2.1.symm
 have ZQ:=aQ.1
 have ZP:zs.length=x.gA.length:=by rw[bE.length cC,length_map]
 obtain⟨ZY,Mt,ZX⟩:=hE
 have WD:(ob y cV).ok (x.d7.map V.int).length:=by
  rw[length_map,A.c8.cd]
  cases cV with
  | line ln=>trivial
  | f6 p n=>exact bC
  | cut k=>trivial
 refine⟨_,(bl (dD (fB (e5 (ah 0) rfl) ku.cl fH gy (b6 aI) gx .nil cW (ak (ah 1) aK))) (aY (dD (i2 plainAttrs_list PySem.F.slot_list_append PySem.F.type_list_append iY (e5 (ah 0) rfl) (ak (ah 1) aK))))),?_⟩
 refine⟨_,rfl,a.h,au,dx,_,_,rfl,bU,T.cl,T.sr,t6 .., a.c,dy,_,rfl,b5,Rz _ _ (by decide +kernel) (by decide +kernel),_,rfl,a.c,a.ce,lo,v,_,xs,ob y cV,rfl,⟨⟨dy,b5⟩,A.ai,aJ,Dh⟩,j5,WD,by omega,fun lo' H1 w_ lJ bK=>?_⟩
 have b_:a.h≠a.c:=A.et.1.symm
 have vh:H1 a.h=_:=bK _ _ bU b_ A.aN.1.symm (.inl A.aN.2.2.2.2.1.symm)
 have rt:H1 a.st=_:=bK _ _ b9 A.et.2.2.2.2.1.symm A.c8.ne.2.2.2.2.2.2.1.symm (.inl A.c8.ne.2.2.2.2.2.2.2.2.2.2.2.2.2.2.1.symm)
 refine⟨_,rfl,a.h,au,dx,_,_,rfl,vh,T.cl,T.GX,PO .., .inl ⟨rfl,_,aV.of rt⟩,_,rfl,a.st,zs,v,rfl,rfl,rt,jS (by omega),?_⟩
 refine q lo' _ (A.RH bC bA iy aJ aQ b9 cC w_ lJ bK) (dP.upd ⟨fun b o aa e=>?_,fun b aa=>?_⟩ (yh ..))
 ·exact bK b o e (fun z=>aa (by rw[z];exact uN ..)) (fun z=>aa (by rw[z];exact yk ..)) (.inl fun z=>aa (by rw[z];exact sD ..))
 ·rcases mem_cons.mp aa with z | z
  ·rcases lJ with y | y
   ·rw[z,y];exact .inl (sD ..)
   ·rw[z];exact .inr y
  ·exact .inl (mem_cons_of_mem _ z)
theorem UC:dE j1 j1 (cT Bg):=dS
theorem TQ {aH au:Addr}{gf:Addr}{g5:FuncData}(F:bZ K "write_put" "House.write_put" Bg f fd) (T:hn K mg au) (jP:a5 P w K mg base b1 2 gf g5 i8 (sL aH au)) (jM:Binds K g5 i8 []) (jG:Meth K au "make_stroke" gf):a5 P w K mg base b1 3 f fd j1 (yE aH au):=by
 refine F.ok UC (fun vs H Q E h=>?_) (fun cg A outer s H vs Q E aI h=>?_)
 ·obtain⟨a,lo,pl,x,aA,d,p,n,rfl,_⟩:=h
  rfl
 obtain⟨a,lo,pl,x,aA,d,p,n,rfl,A,aD,hE,q⟩:=h
 obtain⟨dx,bU⟩:=A.bT
 obtain⟨z,dT,d6⟩:=A.c8.p5 aD
 have iS:x.aO.getD p 0=z:=by rw[getD_eq_getElem?_getD,dT];rfl
 refine⟨_,(bl (dD (fB (ah 0) T.cl jG jP (b6 aI) jM .nil cW (ak (fQ (ak bg (ak (fQ (ak bg (ak (ah 1) (ak (ah 2) (ak (bP ee (e5 (ah 0) rfl) (ah 2) (fun _ _=>rfl)) (ak (ah 3) aK)))))) aK))) aK))) (aY (x9 (ah 3) (yb (e5 (ah 0) rfl) (ah 2) set_list)))),?_⟩
 refine⟨_,rfl,a.h,dx,_,rfl,bU,(by kernel_rfl),_,rfl,_,rfl,_,rfl,a.h,au,dx,_,_,rfl,bU,T.cl,T.nh,n7 .., _,rfl,a.ao,_,_,_,rfl,rfl,aV.of A.hd,d6,_,rfl,cX,fun t1 av=>⟨cX,fun ek aC=>?_⟩⟩
 have s1:=b3 av (.tup [.str "put",.int d,.int ((p:Nat):Int),.int z,.int n])
 have s2:=b3 aC (.tup [.str "line",.ref t1])
 have a_:=A.same (s1.trans s2)
 have bA:Rep (upd (upd H t1 (.tup [.str "put",.int d,.int ((p:Nat):Int),.int z,.int n])) ek (.tup [.str "line",.ref t1])) (dN.line (.put d p z n)).D (.ref ek) :=
  Rep.f3 aT (.cons .ofStr (.cons (Rep.f3 (s2 _ _ aT) (.cons .ofStr (.cons .ofInt (.cons .ofInt (.cons .ofInt (.cons .ofInt .nil)))))) .nil))
 refine⟨a,lo,pl,x,aA,_,.line (.put d p z n),rfl,a_,bA,aD,hE,fun lo' a3 cn el=>?_⟩
 obtain⟨lO,dr⟩:=cn.bT
 have WK:p<(x.aO.map V.int).length:=by rw[length_map];exact aD
 have Mw:=cn.hd
 rw[qv]at Mw
 refine⟨_,rfl,_,rfl,a.h,au,lO,_,_,rfl,dr,T.cl,T.nh,n7 .., _,rfl,a.ao,_,_,p,rfl,rfl,Mw,x1 WK,?_⟩
 have eE:x.putIn d p n={ x.da (.line (.put d p z n)) with aO:=x.aO.set p n }:=by
  unfold aE.putIn
  rw[iS]
 have d4:=cn.yF (c:=x.aO.set p n) (by rw[qv,length_set])
 rw[xh]
 rw[←eE]at d4
 exact q lo' _ d4 (((s1.trans s2).moves.trans el).upd (yj ..))
theorem UE:dE lE lE (cT B7):=dS
theorem TU {aH au:Addr}(F:bZ K "has_room" "House.has_room" B7 f fd) (B:fc mg) (T:hn K mg au) (ku:pv K mg aH):a5 P w K mg base b1 1 f fd lE (Bu aH au):=by
 refine F.ok UE (fun vs H Q E h=>?_) (fun cg A outer s H vs Q E aI h=>?_)
 ·obtain⟨a,lo,pl,x,aA,m,rfl,_⟩:=h
  rfl
 obtain⟨a,lo,pl,x,aA,m,rfl,A,q⟩:=h
 obtain⟨dx,bU⟩:=A.bT
 obtain⟨dy,b5⟩:=A.co
 obtain⟨xs,aJ,aQ⟩:=A.aG
 refine⟨_,(aY (dc (pB Iv (c0 gN (c0 gN (eV hX rfl B.len PySem.boot_len (ak (e5 (e5 (ah 0) rfl) rfl) aK)) (e5 (ah 0) rfl)) (ah 1)) (e5 (ah 0) rfl) (cN _)))),?_⟩
 refine⟨_,rfl,a.h,au,dx,_,_,rfl,bU,T.cl,T.sr,t6 .., a.c,aH,dy,_,_,rfl,b5,ku.cl,ku.tl,xB _ _,lo,_,rfl,.inl (aV.of aJ),_,rfl,a.h,au,dx,_,_,rfl,bU,T.cl,T.uC,xJ .., _,_,rfl,rfl,_,rfl,_,_,rfl,rfl,_,rfl,a.h,au,dx,_,_,rfl,bU,T.cl,T.IA,Sb .., _,_,rfl,rfl,?_⟩
 have e:x.i1 m=decide (((xs.length:Nat):Int)+x.bound+m≤x.room):=by
  unfold aE.i1
  rw[aQ.1]
 rw[e]at q
 exact q
theorem UM:dE fU fU (cT Cb):=dS
theorem T2 {aH au bJ bB bM bI:Addr}(F:bZ K "ask_page" "House.ask_page" Cb f fd) (B:fc mg) (T:hn K mg au) (E:rC K mg bJ bB bM bI):a5 P w K mg base (c4 P w) 1 f fd fU (uv aH au bB):=by
 refine F.lC UM (fun vs H Q fZ h=>?_) (fun cg A outer s H vs Q fZ aI h=>?_)
 ·obtain⟨a,lo,pl,x,aA,p,rfl,_⟩:=h
  rfl
 obtain⟨a,lo,pl,x,aA,p,rfl,A,gO,q⟩:=h
 obtain⟨dx,bU⟩:=A.bT
 refine⟨_,(aY (cO (n8 (cU yu (ah 1) aX (cN _)) (cU Iw (ah 1) (eV hX rfl B.len PySem.boot_len (ak (e5 (ah 0) rfl) aK)) (cN _))) (aY (xE E.Yc E.hL excBase_ValueError rfl (xw (k_ 2000 bg (k_ 2000 (uz (ah 1)) x_))))) dK)),?_⟩
 refine⟨_,rfl,_,_,rfl,rfl,_,rfl,fE (fun b_=>?_) (fun b_=>?_)⟩
 ·have dz:p<0:=of_decide_eq_true b_
  refine eY ?_
  rw[if_pos (.inl dz)]at q
  exact⟨_,rfl,(le_of_ble_eq_true rfl),_,rfl,_,rfl,gO,_,rfl,(le_trans (se gO) (by decide)),fun _=>q⟩
 ·refine⟨_,rfl,_,rfl,a.h,au,dx,_,_,rfl,bU,T.cl,T.nh,n7 .., a.ao,_,rfl,.inl (aV.of A.hd),_,_,rfl,rfl,_,rfl,fE (fun e9=>?_) (fun e9=>?_)⟩
  ·have gg:((x.aO.map V.int).length:Int)≤p:=of_decide_eq_true e9
   rw[length_map]at gg
   rw[if_pos (.inr gg)]at q
   exact⟨_,rfl,(le_of_ble_eq_true rfl),_,rfl,_,rfl,gO,_,rfl,(le_trans (se gO) (by decide)),fun _=>q⟩
  ·have dz:¬p<0:=fun z=>b_ (decide_eq_true z)
   have gg:¬(x.aO.length:Int)≤p:=fun z=>e9 (decide_eq_true (by rw[length_map];exact z))
   rw[if_neg (fun z=>z.elim dz gg)]at q
   exact q
theorem UN:dE gD gD (cT Cd):=dS
theorem T4 {aH au bJ bB bM bI:Addr}(F:bZ K "ask_dealing" "House.ask_dealing" Cd f fd) (T:hn K mg au) (E:rC K mg bJ bB bM bI):a5 P w K mg base (c4 P w) 1 f fd gD (uw aH au bJ):=by
 refine F.lC UN (fun vs H Q fZ h=>?_) (fun cg A outer s H vs Q fZ aI h=>?_)
 ·obtain⟨a,lo,pl,x,aA,p,rfl,_⟩:=h
  rfl
 obtain⟨a,lo,pl,x,aA,d,rfl,A,gO,q⟩:=h
 obtain⟨dx,bU⟩:=A.bT
 have bp:=hp aI
 have Cf:(dk (eN pl) (Sum.inl d)).isSome=x.isOpen d:=A.c8.isOpen d
 refine⟨_,(aY (cO (ux (Gs bp (ah 1) (e5 (ah 0) rfl))) (aY (xE E.Yd E.fH excBase_ValueError rfl (xw (k_ 2000 bg (k_ 2000 (uz (ah 1)) (k_ 2000 bg x_)))))) dK)),?_⟩
 refine⟨_,rfl,_,rfl,a.h,au,dx,_,_,rfl,bU,T.cl,T.pG,qJ .., a.pu,_,rfl,fb.k (k:=Sum.inl d) A.aD,_,rfl,?_⟩
 rw[Cf]
 cases aF:x.isOpen d with
 | false =>
  rw[aF,if_pos rfl]at q
  refine eY ?_
  exact⟨_,rfl,(le_of_ble_eq_true rfl),_,rfl,_,rfl,gO,_,rfl,(le_trans (se gO) (by decide)),_,rfl,(le_of_ble_eq_true rfl),fun _=>q⟩
 | true =>
  rw[aF,if_neg (fun z=>nomatch z)]at q
  exact dQ q
theorem GN {x:aE}{aA:List (Key × V)}{p:Nat}(t:uP x aA):(∀v,dk aA (Sum.inl ((p:Nat):Int))=some v→∃d:Int,v=.int d∧0≤d∧d<x.begun∧(x.isOpen d=true→x.eK p=some d)∧(x.isOpen d=false→x.eK p=none))∧(dk aA (Sum.inl ((p:Nat):Int))=none→x.eK p=none):=by
 have key:∀d,x.eK p=some d→dk aA (Sum.inl ((p:Nat):Int))=some (.int d)∧x.isOpen d=true:=fun d e=>by
  unfold aE.eK at e
  cases q:x.bQ.find? (fun z=>z.2.any fun y=>y.1 == p) with
  | none=>rw[q]at e;cases e
  | some z =>
   rw[q]at e
   have dH:z.1=d:=Option.some.inj e
   have hz:=List.mem_of_find?_eq_some q
   have aD:=List.find?_some q
   obtain⟨y,cA,bN⟩:=any_eq_true.mp aD
   have aQ:=t.a z hz y cA
   rw[beq_iff_eq.mp bN,dH]at aQ
   exact⟨aQ,any_eq_true.mpr ⟨z,hz,by rw[dH];exact beq_self_eq_true d⟩⟩
 refine⟨fun v e=>?_,fun e=>?_⟩
 ·obtain⟨ht,d,aJ,aQ,b9,cC,ed⟩:=t.b _ v e
  have cL:ht=p:=by have:=Sum.inl.inj aJ;omega
  subst cL
  refine⟨d,aQ,b9,cC,fun aF=>?_,fun aF=>?_⟩
  ·obtain⟨z,hz,dT,y,cA,b0⟩:=ed aF
   cases q:x.eK ht with
   | none =>
    unfold aE.eK at q
    have nR:x.bQ.find? (fun z=>z.2.any fun y=>y.1 == ht)=none:=by
     cases w:x.bQ.find? (fun z=>z.2.any fun y=>y.1 == ht) with
     | none=>rfl
     | some u=>rw[w]at q;cases q
    have:=List.find?_eq_none.mp nR z hz
    exact absurd (any_eq_true.mpr ⟨y,cA,by rw[b0];exact beq_self_eq_true ht⟩) this
   | some d' =>
    obtain⟨k1,_⟩:=key d' q
    rw[e,aQ]at k1
    have:V.int d=V.int d':=Option.some.inj k1
    injection this with this
    rw[this]
  ·cases q:x.eK ht with
   | none=>rfl
   | some d' =>
    obtain⟨k1,k2⟩:=key d' q
    rw[e,aQ]at k1
    have:V.int d=V.int d':=Option.some.inj k1
    injection this with this
    rw[this,k2]at aF
    cases aF
 ·cases q:x.eK p with
  | none=>rfl
  | some d =>
   rw[(key d q).1]at e
   cases e
theorem qA {n:Nat}(h:n≤1000):(n:Int).natAbs.log2<1920:=by
 refine Gp ?_
 rw[Int.natAbs_natCast]
 exact lt_of_le_of_lt h (lt_of_lt_of_le (by decide:1000<2 ^ 10) (Nat.pow_le_pow_right (by decide) (by decide)))
theorem Jk:dE ["self","dealing","page","taker"] yN (cT Cc):=dS
theorem T3 {aH au bJ bB bM bI:Addr}(F:bZ K "ask_free" "House.ask_free" Cc f fd) (T:hn K mg au) (E:rC K mg bJ bB bM bI):a5 P w K mg base (c4 P w) 1 f fd yN (Bv aH au bM):=by
 refine F.lC Jk (fun vs H Q fZ h=>?_) (fun cg A outer s H vs Q fZ aI h=>?_)
 ·obtain⟨a,lo,pl,x,aA,d,p,rfl,_⟩:=h
  rfl
 obtain⟨a,lo,pl,x,aA,d,p,rfl,A,aa,aD,q⟩:=h
 obtain⟨dx,bU⟩:=A.bT
 have bp:=hp aI
 obtain⟨t1,ek⟩:=GN (p:=p) A.h7
 refine⟨_,(bl (cQ (i:=3) Jk.bk rfl (Or.inl rfl) (QY bp (e5 (ah 0) rfl) (ah 2) (ah 1) ⟨rfl,rfl,rfl,rfl⟩)) (aY (cO (qG (cU kD (ah 3) (ah 1) (cN _)) (ux (BY bp (ah 3) (e5 (ah 0) rfl)))) (aY (xE E.X_ E.ts excBase_ValueError rfl (xw (k_ 2000 bg (k_ 2000 (uz (ah 2)) (k_ 2000 bg (k_ 2000 (uz (ah 3)) x_))))))) dK))),?_⟩
 refine⟨_,rfl,a.h,au,dx,_,_,rfl,bU,T.cl,T.Bp,Gy .., a.bz,rfl,.inl ⟨_,.inl A.kt⟩,_,rfl,_,rfl,_,fb.k (k:=Sum.inl ((p:Nat):Int)) A.kt,?_⟩
 cases e:dk aA (Sum.inl ((p:Nat):Int)) with
 | none =>
  rw[ek e,if_pos (.inl rfl)]at q
  refine⟨_,rfl,_,rfl,rfl,_,rfl,mh rfl (dQ ?_)⟩
  exact q
 | some v =>
  obtain⟨d',rfl,h0,av,aC,cB⟩:=t1 v e
  refine⟨_,rfl,_,rfl,rfl,_,rfl,?_⟩
  by_cases eE:d'=d
  ·subst eE
   refine mh rfl (dQ ?_)
   cases aF:x.isOpen d' with
   | true=>rw[aC aF,if_pos (.inr rfl)]at q;exact q
   | false=>rw[cB aF,if_pos (.inl rfl)]at q;exact q
  ·refine od (fun z=>eE (by injection z)) ?_
   have Cf:(dk (eN pl) (Sum.inl d')).isSome=x.isOpen d':=A.c8.isOpen d'
   refine⟨_,rfl,_,rfl,a.h,au,dx,_,_,rfl,bU,T.cl,T.pG,qJ .., a.pu,_,rfl,fb.k (k:=Sum.inl d') A.aD,_,rfl,?_⟩
   rw[Cf]
   cases aF:x.isOpen d' with
   | false =>
    rw[cB aF,if_pos (.inl rfl)]at q
    exact dQ q
   | true =>
    rw[aC aF,if_neg (fun z=>z.elim (fun z=>nomatch z) fun z=>eE (Option.some.inj z))]at q
    refine eY ?_
    have cV:d'.natAbs.log2<1920:=by
     have aJ:d'=((d'.toNat:Nat):Int):=by omega
     rw[aJ]
     exact qA (by omega)
    exact⟨_,rfl,(le_of_ble_eq_true rfl),_,rfl,_,rfl,qA aD,_,rfl,(le_trans (se (qA aD)) (by decide)),_,rfl,(le_of_ble_eq_true rfl),_,rfl,_,rfl,cV,_,rfl,(le_trans (se cV) (by decide)),fun _=>q⟩
def jV (log:List dV) (j p:Nat):Prop:=∃d o n,log[j]?=some (.put d p o n)
def oj (aB ds:List Int) (log:List dV) (st:List Int) (k:Nat):Prop :=
 ∃d p o n,log[k]?=some (.put d p o n)∧(d∈st∨((∀j,k<j→¬jV log j p)∧aB[p]?≠ds[p]?))
def tf (aB ds:List Int) (log:List dV) (st:List Int) (k:Nat):Prop:=k≤log.length∧(∀j,j<k→¬oj aB ds log st j)∧(k<log.length→oj aB ds log st k)
theorem tf.uniq {aB ds:List Int}{log:List dV}{st:List Int}{k iE:Nat}(h:tf aB ds log st k) (h':tf aB ds log st iE):k=iE:=by
 obtain⟨a1,a2,ks⟩:=h
 obtain⟨en,fk,o6⟩:=h'
 rcases Nat.lt_trichotomy k iE with z | z | z
 ·exact absurd (ks (by omega)) (fk k z)
 ·exact z
 ·exact absurd (o6 (by omega)) (a2 iE z)
theorem H7 {log:List dV}{i p:Nat}{d:Int}(h:log[i]?=some (.fin d)):¬jV log i p:=fun ⟨_,_,_,e⟩=>by rw[h]at e;cases e
theorem HH {aB ds:List Int}{log:List dV}{st:List Int}{i:Nat}{d:Int}(h:log[i]?=some (.fin d)):¬oj aB ds log st i:=fun ⟨_,_,_,_,e,_⟩=>by rw[h]at e;cases e
theorem HC {log:List dV}{j p:Nat}(h:jV log j p):j<log.length:=by
 obtain⟨_,_,_,e⟩:=h
 exact (List.getElem?_eq_some_iff.mp e).1
def HZ:dg:=fun vs H Q _=>∃(p d l s:Addr) (aB ds st:List Int) (xs:List V) (log:List dV),vs=[.ref p,.ref d,.ref l,.ref s]∧H p=some (.lst (aB.map V.int))∧H d=some (.lst (ds.map V.int))∧H l=some (.lst xs)∧H s=some (.lst (st.map V.int)) ∧
 i4 H log xs∧(∀ln∈log,ln.ok aB.length)∧aB.length=ds.length∧log.length≤100000∧st.length≤1000∧∀(k:Nat) (af:aj),bY H af→tf aB ds log st k→Q (.int k) af
def LastOk (log:List dV) (kvs:List (Key × V)):Prop:=∀p k,jV log k p→∃j:Nat,dk kvs (Sum.inl (p:Int))=some (.int j)∧jV log j p∧∀hv,j<hv→¬jV log hv p
def H0:dg:=fun vs H Q _=>∃(l:Addr) (xs:List V) (log:List dV),vs=[.ref l]∧H l=some (.lst xs)∧i4 H log xs∧log.length≤100000∧∀(r:Addr) (kvs:List (Key × V)) (af:aj),bY H af→af r=some (.b2 kvs)→LastOk log kvs→Q (.ref r) af
theorem x8:dE ["log","places","place","line"] ["log"] (cT BF):=dS
def n9 (log:List dV) (i:Nat) (kvs:List (Key × V)):Prop:=∀p k,k<i→jV log k p→∃j:Nat,j<i∧dk kvs (Sum.inl (p:Int))=some (.int j)∧jV log j p∧∀hv,j<hv→hv<i→¬jV log hv p
theorem n9.fin {log:List dV}{i:Nat}{kvs:List (Key × V)}{d:Int}(h:n9 log i kvs) (e:log[i]?=some (.fin d)):n9 log (i+1) kvs:=fun p k a4 aD=>by
 have WY:k≠i:=fun z=>by subst z;exact H7 e aD
 obtain⟨j,av,aC,cB,dw⟩:=h p k (by omega) aD
 refine⟨j,by omega,aC,cB,fun hv a b=>?_⟩
 by_cases z:hv=i
 ·rw[z];exact H7 e
 ·exact dw hv a (by omega)
theorem n9.put {log:List dV}{i p:Nat}{kvs:List (Key × V)}{d o n:Int}(h:n9 log i kvs) (e:log[i]?=some (.put d p o n)):n9 log (i+1) (putK kvs (Sum.inl (p:Int)) (.int (i:Nat))):=fun ht k a4 aD=>by
 by_cases cL:ht=p
 ·subst cL
  refine⟨i,by omega,by rw[t8,if_pos rfl],⟨d,o,n,e⟩,fun hv a b=>by omega⟩
 ·have WY:k≠i:=fun z=>by
   subst z
   obtain⟨_,_,_,aQ⟩:=aD
   rw[e]at aQ
   cases aQ
   exact cL rfl
  obtain⟨j,av,aC,cB,dw⟩:=h ht k (by omega) aD
  have oW:¬((Sum.inl (ht:Int):Key)=Sum.inl (p:Int)):=fun z=>cL (by have:=Sum.inl.inj z;omega)
  refine⟨j,by omega,by rw[t8,if_neg oW];exact aC,cB,fun hv a b=>?_⟩
  by_cases z:hv=i
  ·rw[z]
   rintro⟨_,_,_,aQ⟩
   rw[e]at aQ
   cases aQ
   exact cL rfl
  ·exact dw hv a (by omega)
theorem n9.done {log:List dV}{kvs:List (Key × V)}(h:n9 log log.length kvs):LastOk log kvs:=fun p k aD=>by
 obtain⟨j,_,aC,cB,dw⟩:=h p k (HC aD) aD
 exact⟨j,aC,cB,fun hv a b=>dw hv a (HC b) b⟩
theorem RZ (F:bZ K "last_put_places" "last_put_places" BF f fd) (B:fc mg):a5 P w K mg base b1 1 f fd ["log"] H0:=by
 refine F.ok x8 (fun vs H Q E h=>?_) (fun cg A outer s H vs Q E aI h=>?_)
 ·obtain⟨l,xs,log,rfl,_⟩:=h
  rfl
 obtain⟨l,xs,log,rfl,aG,fK,oQ,q⟩:=h
 have bp:=hp aI
 have mY:=fK.1
 refine⟨_,(bl (cQ (i:=1) x8.bk rfl (Or.inl rfl) xH) (bl (kC PassesOwn.never rfl (HF rfl B.Nl (ak (ah 0) aK)) (ya rfl (pz (hY (i:=2) x8.bk rfl (Or.inl rfl)) (pz (hY (i:=3) x8.bk rfl (Or.inl rfl)) xW))) (aY (cO (cU d2 (bP cH (ah 3) aX (fun _ _=>rfl)) bg (cN _)) (aY (nd bp (ah 1) (bP cH (ah 3) aX (fun _ _=>rfl)) (ah 2) rfl)) dK))) (aY (dc (ah 1))))),?_⟩
 intro r pV
 refine⟨_,rfl,l,rfl,⟨xs,aV.of (b3 pV _ _ _ aG)⟩,G3 (K:=K) (a:=l) (xs:=xs) (fun i σ aq=>∃(b5 dr:Option V) (kvs:List (Key × V)),σ=[some (.ref l),some (.ref r),b5,dr]∧bY H aq∧aq r=some (.b2 kvs)∧kvs.length≤i∧n9 log i kvs)
  ⟨none,none,[],rfl,b3 pV _,aT,le_refl _,fun p k a4 _=>absurd a4 (not_lt_zero _)⟩ (fun i σ aq _ ⟨_,_,_,_,s2,_⟩=>aV.of (s2 _ _ aG)) ?_ ?_⟩
 ·rintro i x σ aq pr aW ⟨b5,dr,kvs,rfl,s2,er,X5,oZ⟩ zy
  have j2:i<xs.length:=(List.getElem?_eq_some_iff.mp aW).1
  obtain⟨ln,iy,j5⟩:=fK.get aW
  have s3:=s2.trans (b3 zy (.tup [.int (i:Nat),x]))
  have nx:=j5.mono s3.gC
  have DT:(upd aq pr (.tup [.int (i:Nat),x])) r=some (.b2 kvs):=by rw[ay (cG er zy)];exact er
  have Nk:(upd aq pr (.tup [.int (i:Nat),x])) pr=some (.tup [.int (i:Nat),x]):=aT
  generalize upd aq pr (.tup [.int (i:Nat),x])=a3 at s3 nx DT Nk ⊢
  refine⟨pr,_,rfl,aP.of Nk,rfl,_,_,rfl,_,_,rfl,rfl,?_⟩
  cases ln with
  | fin d =>
   obtain⟨c,rfl,ai⟩:=nx
   refine⟨_,rfl,c,_,_,_,rfl,rfl,aP.of ai,rfl,rfl,_,rfl,bH yt ?_⟩
   exact⟨_,_,kvs,rfl,s3,DT,by omega,oZ.fin iy⟩
  | put d p o n =>
   obtain⟨c,rfl,ai⟩:=nx
   refine⟨_,rfl,c,_,_,_,rfl,rfl,aP.of ai,rfl,rfl,_,rfl,ei rfl ?_⟩
   refine⟨_,rfl,_,rfl,_,rfl,c,_,_,_,rfl,rfl,aP.of ai,rfl,r,_,rfl,om.k (k:=Sum.inl (p:Int)) DT (jS (by omega)),?_⟩
   have:=pg kvs (Sum.inl (p:Int):Key) (V.int (i:Nat))
   exact⟨_,_,_,rfl,s3.iZ pV,aT,by omega,oZ.put iy⟩
 ·rintro σ aq ⟨b5,dr,kvs,rfl,s2,er,X5,oZ⟩
  rw[←mY]at oZ
  exact⟨_,rfl,q r kvs aq s2 er oZ.done⟩
theorem qL:dE ["pages","desk","log","dealings","unended","last_places","place","line","page","uncarried"] yM (cT BC):=dS
theorem R1 {g:Addr}{hy:FuncData}(F:bZ K "needed_from" "needed_from" BC f fd) (B:fc mg) (r9:a5 P w K mg base b1 1 g hy ["log"] H0) (r0:Binds K hy ["log"] []) (YB:keepIn K (.ref g)=true) (rO:mg "last_put_places"=some (.ref g)) :
  a5 P w K mg base b1 2 f fd yM HZ:=by
 refine F.ok qL (fun vs H Q E h=>?_) (fun cg A outer s H vs Q E aI h=>?_)
 ·obtain⟨p,d,l,s,aB,ds,st,xs,log,rfl,_⟩:=h
  rfl
 obtain⟨p,d,l,s0,aB,ds,st,xs,log,rfl,aD,hd,aG,aS,fK,bC,ZV,oQ,zs,q⟩:=h
 have mY:=fK.1
 have bp:=hp aI
 refine⟨_,(bl (cQ (i:=4) qL.bk rfl (Or.inl rfl) (hl (PW aI.hd) rfl B.Xo Um (ak (uf [] ["dealing"] (jU.plain (by decide +kernel) rfl rfl) rfl (pA (ah 3)) (fun C s1 H1 cj=>(fQ (ak (ah 0) (ak jj aK))))) aK))) (bl (cQ (i:=5) qL.bk rfl (Or.inl rfl) (dj r9 (b6 aI) rfl rO YB r0 .nil cW (ak (ah 2) aK))) (bl (kC PassesOwn.never rfl (HF rfl B.Nl (ak (ah 2) aK)) (ya rfl (pz (hY (i:=6) qL.bk rfl (Or.inl rfl)) (pz (hY (i:=7) qL.bk rfl (Or.inl rfl)) xW))) (aY (cO (cU d2 (bP cH (ah 7) aX (fun _ _=>rfl)) bg (cN _)) (bl (cQ (i:=8) qL.bk rfl (Or.inl rfl) (bP cH (ah 7) aX (fun _ _=>rfl))) (bl (cQ (i:=9) qL.bk rfl (Or.inl rfl) (uA (pB d2 (ew bp (ah 5) (ah 8) (fun _ _=>rfl)) (ah 6) (cN _)) (yc (pB kD (bP ee (ah 0) (ah 8) (fun _ _=>rfl)) (bP ee (ah 1) (ah 8) (fun _ _=>rfl)) (cN _))))) (aY (cO (n8 (ux (BY bp (bP cH (ah 7) aX (fun _ _=>rfl)) (ah 4))) (i0 (ah 9))) (aY (dc (ah 6))) dK)))) dK))) (aY (dc (eV hX rfl B.len PySem.boot_len (ak (ah 2) aK))))))),?_⟩
 refine⟨_,rfl,s0,rfl,⟨_,aV.of aS⟩,fun acc eg=>PS (K:=K) (w:=.b8 true) aS eg (by omega) (fun z a3 k a4=>⟨_,rfl,cX,a4⟩) fun ys H1 s1 JP sY=>?_⟩
 refine⟨acc,ys,st.map fun n=>((Sum.inl n:Key),V.b8 true),rfl,JP,fun j x aZ=>?_,by rw[length_map];exact sY.1,by rw[←sY.1];omega,fun u zv=>?_⟩
 ·obtain⟨z,av,aC⟩:=sY.get aZ
  exact⟨_,by rw[getElem?_map,av];rfl,aC⟩
 have rp:∀z:Int,(dk (putAll [] (st.map fun n=>((Sum.inl n:Key),V.b8 true))) (Sum.inl z:Key)).isSome=decide (z∈st):=fun z=>by
  rw[putAll_has,GJ]
  simp
 have s2:=s1.trans (b3 zv (.b2 (putAll [] (st.map fun n=>((Sum.inl n:Key),V.b8 true)))))
 have kX:(upd H1 u (.b2 (putAll [] (st.map fun n=>((Sum.inl n:Key),V.b8 true))))) u=some (.b2 (putAll [] (st.map fun n=>((Sum.inl n:Key),V.b8 true)))):=aT
 generalize (putAll [] (st.map fun n=>((Sum.inl n:Key),V.b8 true)))=us at rp s2 kX ⊢
 generalize upd H1 u (.b2 us)=aq at s2 kX ⊢
 clear s1 JP sY eg zv
 refine⟨_,rfl,l,xs,log,rfl,s2 _ _ aG,fK.mono fun a x h=>h.mono s2.gC,oQ,fun r kvs a3 s3 er T_=>?_⟩
 have hT:=s2.trans s3
 have Ni:=s3 _ _ kX
 refine⟨_,rfl,l,rfl,⟨xs,aV.of (hT _ _ aG)⟩,G3 (K:=K) (a:=l) (xs:=xs) (fun i σ c6=>∃kg gS kT iD:Option V,σ=[some (.ref p),some (.ref d),some (.ref l),some (.ref s0),some (.ref u),some (.ref r),kg,gS,kT,iD]∧bY a3 c6∧∀j,j<i→¬oj aB ds log st j)
  ⟨none,none,none,none,rfl,bY.refl _,fun j cK=>absurd cK (not_lt_zero _)⟩ (fun i σ c6 _ ⟨_,_,_,_,_,s4,_⟩=>aV.of (s4 _ _ (hT _ _ aG))) ?_ ?_⟩
 ·rintro i x σ c6 pr aW ⟨kg,gS,kT,iD,rfl,s4,aN⟩ zy
  have j2:i<xs.length:=(List.getElem?_eq_some_iff.mp aW).1
  obtain⟨ln,iy,j5⟩:=fK.get aW
  have a4:=bC ln (mem_of_getElem? iy)
  have s5:=s4.trans (b3 zy (.tup [.int (i:Nat),x]))
  have Nj:(upd c6 pr (.tup [.int (i:Nat),x])) pr=some (.tup [.int (i:Nat),x]):=aT
  generalize upd c6 pr (.tup [.int (i:Nat),x])=e_ at s5 Nj ⊢
  have r3:=hT.trans s5
  have nx:=j5.mono r3.gC
  have next:¬oj aB ds log st i→∀j,j<i+1→¬oj aB ds log st j:=fun h j cK=>by
   by_cases e:j=i
   ·rw[e];exact h
   ·exact aN j (by omega)
  refine⟨pr,_,rfl,aP.of Nj,rfl,_,_,rfl,_,_,rfl,rfl,?_⟩
  cases ln with
  | fin dd =>
   obtain⟨c,rfl,ai⟩:=nx
   refine⟨_,rfl,c,_,_,_,rfl,rfl,aP.of ai,rfl,rfl,_,rfl,bH yt ?_⟩
   exact⟨_,_,_,_,rfl,s5,next (HH iy)⟩
  | put dd pp z7 nn =>
   obtain⟨c,rfl,ai⟩:=nx
   have WI:pp<aB.length:=a4
   obtain⟨dT,a1,en⟩:=ji (ns:=aB) (k:=((pp:Nat):Int)) (by omega) (by omega)
   obtain⟨d6,a2,fk⟩:=ji (ns:=ds) (k:=((pp:Nat):Int)) (by omega) (by omega)
   rw[Int.toNat_natCast]at a1 a2
   obtain⟨j,oY,hM,OB⟩:=T_ pp i ⟨dd,z7,nn,iy⟩
   have u3:fb e_ r (.int (pp:Nat)) (some (.int (j:Nat))):=by
    have h0:=fb.k (k:=Sum.inl ((pp:Nat):Int)) (s5 _ _ er)
    rw[oY]at h0
    exact h0
   have HK:j=i↔∀hv,i<hv→¬jV log hv pp:=by
    constructor
    ·intro e;rw[←e];exact OB
    ·intro h
     rcases Nat.lt_trichotomy j i with z | z | z
     ·exact absurd ⟨dd,z7,nn,iy⟩ (OB i z)
     ·exact z
     ·exact absurd hM (h j z)
   refine⟨_,rfl,c,_,_,_,rfl,rfl,aP.of ai,rfl,rfl,_,rfl,ei rfl ?_⟩
   refine⟨_,rfl,c,_,_,_,rfl,rfl,aP.of ai,rfl,?_⟩
   have join:∀b:Bool,(b=true↔((∀hv,i<hv→¬jV log hv pp)∧aB[pp]?≠ds[pp]?)) →
     (b=true∨dd∈st↔oj aB ds log st i):=fun b aa=>by
    constructor
    ·rintro (z | z)
     ·exact⟨dd,pp,z7,nn,iy,.inr (aa.mp z)⟩
     ·exact⟨dd,pp,z7,nn,iy,.inl z⟩
    ·rintro⟨eF,cI,b5,c_,aQ,WN⟩
     rw[iy]at aQ
     cases aQ
     rcases WN with z | z
     ·exact .inr z
     ·exact .inl (aa.mpr z)
   have VS:aB[pp]?≠ds[pp]?↔dT≠d6:=by
    rw[a1,a2]
    exact⟨fun h e=>h (by rw[e]),fun h e=>h (Option.some.inj e)⟩
   refine⟨_,rfl,_,rfl,r,_,rfl,u3,_,rfl,rfl,_,rfl,?_⟩
   refine fE (fun b_=>?_) (fun b_=>?_)
   ·have Xl:j=i:=by
     have e:V.int (j:Nat)=V.int (i:Nat):=of_decide_eq_true b_
     injection e with e
     omega
    refine⟨_,rfl,_,rfl,p,_,_,_,rfl,rfl,aV.of (r3 _ _ aD),en,_,rfl,_,rfl,d,_,_,_,rfl,rfl,aV.of (r3 _ _ hd),fk,rfl,?_⟩
    have aa:=join (!decide (V.int dT=V.int d6)) (by
     rw[VS]
     constructor
     ·intro h
      refine⟨HK.mp Xl,fun e=>?_⟩
      rw[e]at h
      simp at h
     ·rintro⟨_,h⟩
      have:¬V.int dT=V.int d6:=fun e=>h (by injection e)
      simp[this])
    generalize (!decide (V.int dT=V.int d6))=b at aa ⊢
    refine⟨_,rfl,c,_,_,_,rfl,rfl,aP.of ai,rfl,_,rfl,u,_,rfl,fb.k (k:=Sum.inl dd) (s5 _ _ Ni),_,rfl,?_⟩
    rw[rp dd]
    refine fE (fun dz=>?_) (fun dz=>?_)
    ·refine eY ?_
     exact⟨_,rfl,q i e_ r3 ⟨by omega,aN,fun _=>aa.mp (.inr (of_decide_eq_true dz))⟩⟩
    ·have vj:¬dd∈st:=fun h=>dz (decide_eq_true h)
     refine⟨_,rfl,_,rfl,fE (fun e9=>?_) (fun e9=>?_)⟩
     ·exact⟨_,rfl,q i e_ r3 ⟨by omega,aN,fun _=>aa.mp (.inl e9)⟩⟩
     ·refine⟨_,_,_,_,rfl,s5,next fun h=>?_⟩
      rcases aa.mpr h with z | z
      ·exact e9 z
      ·exact vj z
   ·have VX:¬j=i:=fun e=>b_ (by rw[e];exact decide_eq_true rfl)
    have aa:=join false ⟨(fun z=>nomatch z),fun z=>absurd (HK.mpr z.1) VX⟩
    generalize false=b at aa ⊢
    refine⟨_,rfl,c,_,_,_,rfl,rfl,aP.of ai,rfl,_,rfl,u,_,rfl,fb.k (k:=Sum.inl dd) (s5 _ _ Ni),_,rfl,?_⟩
    rw[rp dd]
    refine fE (fun dz=>?_) (fun dz=>?_)
    ·refine eY ?_
     exact⟨_,rfl,q i e_ r3 ⟨by omega,aN,fun _=>aa.mp (.inr (of_decide_eq_true dz))⟩⟩
    ·have vj:¬dd∈st:=fun h=>dz (decide_eq_true h)
     refine⟨_,rfl,_,rfl,fE (fun e9=>?_) (fun e9=>?_)⟩
     ·exact⟨_,rfl,q i e_ r3 ⟨by omega,aN,fun _=>aa.mp (.inl e9)⟩⟩
     ·refine⟨_,_,_,_,rfl,s5,next fun h=>?_⟩
      rcases aa.mpr h with z | z
      ·exact e9 z
      ·exact vj z
 ·rintro σ c6 ⟨kg,gS,kT,iD,rfl,s4,aN⟩
  refine⟨_,rfl,l,xs,rfl,.inl (aV.of (s4 _ _ (hT _ _ aG))),?_⟩
  rw[←mY]at aN ⊢
  exact q log.length c6 (hT.trans s4) ⟨le_refl _,aN,fun h=>absurd h (lt_irrefl _)⟩
theorem xA {aB ds:List Int}{log:List dV}{st:List Int}{ln:dV}{k:Nat}:oj aB ds (ln::log) st (k+1)↔oj aB ds log st k:=by
 have pc:∀j p,jV (ln::log) (j+1) p↔jV log j p:=fun j p=>Iff.rfl
 constructor
 ·rintro⟨d,p,o,n,e,h⟩
  refine⟨d,p,o,n,e,h.imp id fun h=>⟨fun j cK=>?_,h.2⟩⟩
  exact fun z=>h.1 (j+1) (by omega) ((pc j p).mpr z)
 ·rintro⟨d,p,o,n,e,h⟩
  refine⟨d,p,o,n,e,h.imp id fun h=>⟨fun j cK=>?_,h.2⟩⟩
  cases j with
  | zero=>omega
  | succ j=>exact fun z=>h.1 j (by omega) ((pc j p).mp z)
theorem Bo (aB ds st:List Int) (op:Int→Bool) (aF:∀d,op d=true↔d∈st):∀log:List dV,tf aB ds log st (g_ aB ds op log)
 | []=>⟨le_refl _,fun j cK=>absurd cK (not_lt_zero _),fun h=>absurd h (lt_irrefl _)⟩
 | .fin d::r=>by
  obtain⟨av,aC,cB⟩:=Bo aB ds st op aF r
  refine⟨Nat.succ_le_succ av,fun j cK=>?_,fun h=>?_⟩
  ·cases j with
   | zero=>exact HH (d:=d) rfl
   | succ j=>exact fun z=>aC j (Nat.lt_of_succ_lt_succ cK) (xA.mp z)
  ·exact xA.mpr (cB (Nat.lt_of_succ_lt_succ h))
 | .put d p o n::r=>by
  have later:r.any (jR p)=false↔∀j,0<j→¬jV (.put d p o n::r) j p:=by
   constructor
   ·intro h j cK z
    cases j with
    | zero=>omega
    | succ j =>
     obtain⟨eF,b5,c_,e⟩:=z
     have dH:r[j]?=some (.put eF p b5 c_):=e
     have:r.any (jR p)=true:=any_eq_true.mpr ⟨_,mem_of_getElem? dH,decide_eq_true rfl⟩
     rw[h]at this
     cases this
   ·intro h
    cases q:r.any (jR p) with
    | false=>rfl
    | true =>
     obtain⟨ln,hm,aD⟩:=any_eq_true.mp q
     obtain⟨j,cK⟩:=List.mem_iff_getElem?.mp hm
     cases ln with
     | fin eF=>cases aD
     | put eF cI b5 c_ =>
      have e:cI=p:=of_decide_eq_true aD
      subst e
      exact absurd ⟨eF,b5,c_,cK⟩ (h (j+1) (Nat.succ_pos j))
  show tf aB ds _ st (if op d=true∨(r.any (jR p)=false∧aB[p]?≠ds[p]?) then 0 else g_ aB ds op r+1)
  by_cases c:op d=true∨(r.any (jR p)=false∧aB[p]?≠ds[p]?)
  ·rw[if_pos c]
   refine⟨zero_le _,fun j cK=>absurd cK (not_lt_zero _),fun _=>⟨d,p,o,n,rfl,c.imp (aF d).mp fun z=>⟨later.mp z.1,z.2⟩⟩⟩
  ·rw[if_neg c]
   obtain⟨av,aC,cB⟩:=Bo aB ds st op aF r
   refine⟨Nat.succ_le_succ av,fun j cK=>?_,fun h=>xA.mpr (cB (Nat.lt_of_succ_lt_succ h))⟩
   cases j with
   | zero =>
    rintro⟨eF,cI,b5,c_,e,h⟩
    cases e
    exact c (h.imp (aF d).mpr fun z=>⟨later.mpr z.1,z.2⟩)
   | succ j=>exact fun z=>aC j (Nat.lt_of_succ_lt_succ cK) (xA.mp z)
def uI (aH au:Addr):dg:=fun vs H Q _=>∃(a:dI) (lo:Addr) (pl:List (Int × Addr)) (x:aE) (aA:List (Key × V)),vs=[.ref a.h]∧ck aH au H a lo pl x aA∧x.fits 1∧pl.length≤1000 ∧
 ∀lo' af,ck aH au af a lo' pl x.f5 aA→dP a lo pl lo' pl H af→Q .cc af
def ud (aH au bB:Addr):dg:=fun vs H Q E=>∃(a:dI) (lo:Addr) (pl:List (Int × Addr)) (x:aE) (aA:List (Key × V)) (p:Int),vs=[.ref a.h,.int p]∧ck aH au H a lo pl x aA∧p.natAbs.log2<1920∧x.fits 1 ∧
 (if p<0∨(x.aO.length:Int)≤p then E (.ref bB) none H else ∀lo' af,ck aH au af a lo' pl (x.gB p.toNat) aA→dP a lo pl lo' pl H af→Q .cc af)
def A_ (aH au:Addr):dg:=fun vs H Q _=>∃(a:dI) (lo:Addr) (pl:List (Int × Addr)) (x:aE) (aA:List (Key × V)),vs=[.ref a.h]∧ck aH au H a lo pl x aA∧x.aO.length≤1000∧x.fits (x.aO.length+1)∧pl.length≤1000 ∧
 ∀lo' af,ck aH au af a lo' pl x.hC aA→dP a lo pl lo' pl H af→Q .cc af
def x7 (aH au bI:Addr):dg:=fun vs H Q E=>∃(a:dI) (lo:Addr) (pl:List (Int × Addr)) (x:aE) (aA:List (Key × V)) (m:Nat),vs=[.ref a.h,.int (m:Nat)]∧ck aH au H a lo pl x aA∧m≤10∧x.aO.length≤1000∧x.fits (x.aO.length+1)∧pl.length≤1000 ∧
 ∀lo' af,ck aH au af a lo' pl (x.full (m:Nat)).1 aA→dP a lo pl lo' pl H af→if (x.full (m:Nat)).2=true then E (.ref bI) none af else Q .cc af
theorem Il:dE ["self","many"] iv (cT Cu):=dS
theorem SX {aH au:Addr}{gf:Addr}{g5:FuncData}{je:Addr}{kr:FuncData}(F:bZ K "cut" "House.cut" Cu f fd) (B:fc mg) (T:hn K mg au) (ku:pv K mg aH) (jP:a5 P w K mg base b1 2 gf g5 i8 (sL aH au)) (jM:Binds K g5 i8 []) (jG:Meth K au "make_stroke" gf)
  (pa:a5 P w K mg base b1 2 je kr yM HZ) (o5:Binds K kr yM []) (EV:keepIn K (.ref je)=true) (mN:mg "needed_from"=some (.ref je)):a5 P w K mg base b1 3 f fd iv (uI aH au):=by
 refine F.ok Il (fun vs H Q E h=>?_) (fun cg A outer s H vs Q E aI h=>?_)
 ·obtain⟨a,lo,pl,x,aA,rfl,_⟩:=h
  rfl
 obtain⟨a,lo,pl,x,aA,rfl,A,hE,hc,q⟩:=h
 obtain⟨dx,bU⟩:=A.bT
 obtain⟨dy,b5⟩:=A.co
 obtain⟨xs,aJ,aQ⟩:=A.aG
 refine⟨_,(bl (cQ (i:=1) Il.bk rfl (Or.inl rfl) (dj pa (b6 aI) rfl mN EV o5 .nil cW (ak (e5 (e5 (ah 0) rfl) rfl) (ak (e5 (ah 0) rfl) (ak (e5 (e5 (ah 0) rfl) rfl) (ak (hl (AN aI.hd) rfl B.lst i3 (ak (e5 (ah 0) rfl) aK)) aK)))))) (aY (cO (cU yv (ah 1) aX (cN _)) (aY (dD (fB (ah 0) T.cl jG jP (b6 aI) jM .nil cW (ak (fQ (ak bg (ak (ah 1) aK))) aK)))) dK))),?_⟩
 refine⟨_,rfl,a.h,au,dx,_,_,rfl,bU,T.cl,T.sr,t6 .., a.c,aH,dy,_,_,rfl,b5,ku.cl,ku.z8,AJ _ _,_,rfl,a.h,au,dx,_,_,rfl,bU,T.cl,T.nh,n7 .., _,rfl,a.h,au,dx,_,_,rfl,bU,T.cl,T.sr,t6 .., a.c,aH,dy,_,_,rfl,b5,ku.cl,ku.tl,xB _ _,_,rfl,a.h,au,dx,_,_,rfl,bU,T.cl,T.pG,qJ .., a.pu,_,rfl,A.aD,fun l aG=>?_⟩
 have m3:(eN pl).map (fun z=>dZ z.1)=(pl.map (·.1)).map V.int:=Bm pl
 have s1:=b3 aG (.lst ((eN pl).map fun z=>dZ z.1))
 have hQ:(upd H l (.lst ((eN pl).map fun z=>dZ z.1))) l=some (.lst ((pl.map (·.1)).map V.int)):=by rw[aT,m3]
 generalize upd H l (.lst ((eN pl).map fun z=>dZ z.1))=H1 at s1 hQ ⊢
 have bO:=A.same s1
 have oA:∀d,x.isOpen d=true↔d∈pl.map (·.1):=fun d=>by
  rw[A.c8.gF]
  unfold aE.isOpen
  rw[any_eq_true,mem_map]
  constructor
  ·rintro⟨z,hz,e⟩;exact⟨z,hz,beq_iff_eq.mp e⟩
  ·rintro⟨z,hz,e⟩;exact⟨z,hz,by rw[e];exact beq_self_eq_true d⟩
 refine⟨a.ce,a.ao,lo,l,x.d7,x.aO,pl.map (·.1),xs,x.log,rfl,bO.ai,bO.hd,s1 _ _ aJ,hQ,aQ.mono fun b y h=>h.mono s1.gC,fun ln h=>by rw[A.c8.cd];exact hE.2.2 ln h,A.c8.cd,by have:=hE.2.1;omega,by rw[length_map];exact hc,fun k aq s2 a4=>?_⟩
 have Xk:k=g_ x.d7 x.aO x.isOpen x.log:=a4.uniq (Bo _ _ _ _ oA _)
 subst Xk
 have a_:=bO.same s2
 obtain⟨iz,gZ⟩:=a_.bT
 refine⟨_,rfl,_,_,rfl,rfl,_,rfl,fE (fun b_=>?_) (fun b_=>?_)⟩
 ·have dz:(0:Int)<((g_ x.d7 x.aO x.isOpen x.log:Nat):Int):=of_decide_eq_true b_
  refine⟨_,rfl,a.h,iz,_,rfl,gZ,(by kernel_rfl),_,rfl,cX,fun t bG=>?_⟩
  have s3:=b3 bG (.tup [.str "cut",.int ((g_ x.d7 x.aO x.isOpen x.log:Nat):Int)])
  refine⟨a,lo,pl,x,aA,_,.cut (g_ x.d7 x.aO x.isOpen x.log),rfl,a_.same s3,RQ aT,trivial,hE,fun lo' c6 d4 gG=>?_⟩
  have gJ:x.f5=x.da (.cut (g_ x.d7 x.aO x.isOpen x.log)):=by
   unfold aE.f5
   rw[if_pos (by omega)]
  rw[←gJ]at d4
  exact q lo' c6 d4 ((s1.trans (s2.trans s3)).moves.trans gG)
 ·have dz:¬(0:Int)<((g_ x.d7 x.aO x.isOpen x.log:Nat):Int):=fun z=>b_ (decide_eq_true z)
  have gJ:x.f5=x:=by
   unfold aE.f5
   rw[if_neg (by omega)]
  rw[gJ]at q
  exact q lo aq a_ (s1.trans s2).moves
theorem RM:dE fU fU (cT BL):=dS
theorem Rb {aH au bB:Addr}{gf:Addr}{g5:FuncData}{gu:Addr}{g6:FuncData}(F:bZ K "carry" "House.carry" BL f fd) (T:hn K mg au) (ku:pv K mg aH) (jP:a5 P w K mg base b1 2 gf g5 i8 (sL aH au)) (jM:Binds K g5 i8 []) (jG:Meth K au "make_stroke" gf)
  (jQ:a5 P w K mg base (c4 P w) 1 gu g6 fU (uv aH au bB)) (jN:Binds K g6 fU []) (hL:Meth K au "ask_page" gu):a5 P w K mg base (c4 P w) 3 f fd fU (ud aH au bB):=by
 refine F.lC RM (fun vs H Q E h=>?_) (fun cg A outer s H vs Q E aI h=>?_)
 ·obtain⟨a,lo,pl,x,aA,p,rfl,_⟩:=h
  rfl
 obtain⟨a,lo,pl,x,aA,p,rfl,A,gO,hE,q⟩:=h
 obtain⟨dx,bU⟩:=A.bT
 obtain⟨dy,b5⟩:=A.co
 refine⟨_,(bl (dD (fB (ah 0) T.cl hL jQ (b6 aI) jN .nil (ha fun _ _ z=>z) (ak (ah 1) aK))) (aY (cO (cU kD (bP ee (e5 (e5 (ah 0) rfl) rfl) (ah 1) (fun _ _=>rfl)) (bP ee (e5 (ah 0) rfl) (ah 1) (fun _ _=>rfl)) (cN _)) (aY (dD (fB (ah 0) T.cl jG jP (b6 aI) jM .nil cW (ak (fQ (ak bg (ak (ah 1) (ak (bP ee (e5 (ah 0) rfl) (ah 1) (fun _ _=>rfl)) aK)))) aK)))) dK))),?_⟩
 refine⟨_,rfl,a.h,dx,_,rfl,bU,(by kernel_rfl),_,rfl,a,lo,pl,x,aA,p,rfl,A,gO,?_⟩
 by_cases c:p<0∨(x.aO.length:Int)≤p
 ·rw[if_pos c]at q ⊢
  exact q
 rw[if_neg c]at q ⊢
 have aD:p.toNat<x.aO.length:=by omega
 have cL:p=((p.toNat:Nat):Int):=by omega
 obtain⟨dT,b0,fe⟩:=A.c8.atC aD
 obtain⟨d6,cM,eL⟩:=A.c8.p5 aD
 rw[←cL]at fe eL
 have iS:x.aO.getD p.toNat 0=d6:=by rw[getD_eq_getElem?_getD,cM];rfl
 refine⟨_,rfl,a.h,au,dx,_,_,rfl,bU,T.cl,T.sr,t6 .., a.c,aH,dy,_,_,rfl,b5,ku.cl,ku.z8,AJ _ _,_,rfl,a.ce,_,_,_,rfl,rfl,aV.of A.ai,fe,_,rfl,a.h,au,dx,_,_,rfl,bU,T.cl,T.nh,n7 .., _,rfl,a.ao,_,_,_,rfl,rfl,aV.of A.hd,eL,rfl,_,rfl,?_⟩
 by_cases e:dT=d6
 ·subst e
  refine mh rfl ?_
  have gJ:x.gB p.toNat=x:=by
   unfold aE.gB
   rw[if_pos (b0.trans cM.symm)]
  rw[gJ]at q
  exact q lo H A (dP.refl ..)
 ·refine od (fun z=>e (by injection z)) ?_
  refine⟨_,rfl,a.h,dx,_,rfl,bU,(by kernel_rfl),_,rfl,_,rfl,a.h,au,dx,_,_,rfl,bU,T.cl,T.nh,n7 .., _,rfl,a.ao,_,_,_,rfl,rfl,aV.of A.hd,eL,cX,fun t bG=>?_⟩
  have s1:=b3 bG (.tup [.str "page",.int p,.int d6])
  have bA:Rep (upd H t (.tup [.str "page",.int p,.int d6])) (dN.f6 p.toNat d6).D (.ref t):=QN (by rw[aT,←cL])
  refine⟨a,lo,pl,x,aA,_,.f6 p.toNat d6,rfl,A.same s1,bA,aD,hE,fun lo' aq a_ d_=>?_⟩
  have gJ:x.gB p.toNat=x.da (.f6 p.toNat d6):=by
   unfold aE.gB
   rw[if_neg (by rw[b0,cM];exact fun z=>e (Option.some.inj z)),iS]
  rw[←gJ]at a_
  exact q lo' aq a_ (s1.moves.trans d_)
theorem Jj:dE fU iv (cT BE):=dS
theorem TS {aH au bB:Addr}{hO:Addr}{iU:FuncData}{hN:Addr}{iT:FuncData}(F:bZ K "make_room" "House.make_room" BE f fd) (B:fc mg) (T:hn K mg au) (m9:a5 P w K mg base (c4 P w) 3 hO iU fU (ud aH au bB)) (m5:Binds K iU fU []) (mX:Meth K au "carry" hO)
  (l6:a5 P w K mg base b1 3 hN iT iv (uI aH au)) (l4:Binds K iT iv []) (lV:Meth K au "cut" hN):a5 P w K mg base b1 4 f fd iv (A_ aH au):=by
 refine F.ok Jj (fun vs H Q E h=>?_) (fun cg A outer s H vs Q E aI h=>?_)
 ·obtain⟨a,lo,pl,x,aA,rfl,_⟩:=h
  rfl
 obtain⟨a,lo,pl,x,aA,rfl,A,hd,hE,hc,q⟩:=h
 obtain⟨dx,bU⟩:=A.bT
 have ld:(x.aO.map V.int).length=x.aO.length:=length_map _
 refine⟨_,(bl (kC PassesOwn.never rfl (pn rfl B.kG (ak (eV hX rfl B.len PySem.boot_len (ak (e5 (ah 0) rfl) aK)) aK)) (hY (i:=1) Jj.bk rfl (Or.inl rfl)) (aY (dD (fB (ah 0) T.cl mX m9 (b6 aI) m5 .nil SN (ak (ah 1) aK))))) (aY (dD (so (ah 0) T.cl lV l6 (b6 aI) l4 .nil cW)))),?_⟩
 refine⟨_,rfl,a.h,au,dx,_,_,rfl,bU,T.cl,T.nh,n7 .., a.ao,_,rfl,.inl (aV.of A.hd),_,rfl,by omega,by omega,sk (fun i σ aq=>∃(lo1:Addr) (o:Option V),σ=[some (.ref a.h),o]∧ck aH au aq a lo1 pl (x.gY i) aA∧dP a lo pl lo1 pl H aq)
  ⟨lo,none,rfl,A,dP.refl ..⟩ ?_ ?_⟩
 ·rintro i σ aq aW ⟨lo1,o,rfl,a_,d_⟩
  have j2:i<x.aO.length:=by omega
  have e0:(0:Int)+(i:Int)=((i:Nat):Int):=by omega
  rw[e0]
  obtain⟨iz,gZ⟩:=a_.bT
  have Mt:(x.gY i).fits 1:=(hE.mono (by omega:i+1≤x.aO.length+1)).gY (by omega)
  have eE:(x.gY i).aO.length=x.aO.length:=by rw[tY]
  refine⟨_,rfl,a.h,iz,_,rfl,gZ,(by kernel_rfl),_,rfl,a,lo1,pl,x.gY i,aA,_,rfl,a_,qA (by omega),Mt,?_⟩
  rw[if_neg (by rw[eE];omega)]
  intro dm a3 cn el
  rw[Int.toNat_natCast,←qu]at cn
  exact⟨dm,_,rfl,cn,d_.trans el⟩
 ·rintro σ aq ⟨lo1,o,rfl,a_,d_⟩
  have wI:((x.aO.map V.int).length:Int).toNat=x.aO.length:=by omega
  have N5:ck aH au aq a lo1 pl (x.gY x.aO.length) aA:=by
   simpa[ld] using a_
  obtain⟨iz,gZ⟩:=N5.bT
  refine⟨_,rfl,a.h,iz,_,rfl,gZ,(by kernel_rfl),a,lo1,pl,x.gY x.aO.length,aA,rfl,N5,hE.gY (le_refl _),hc,fun dm a3 cn el=>?_⟩
  rw[←qx]at cn
  exact q dm a3 cn (d_.trans el)
theorem UL:dE lE lE (cT Ca):=dS
theorem TZ {aH au bJ bB bM bI:Addr}{tx:Addr}{wL:FuncData}{OE:Addr}{OL:FuncData}(F:bZ K "ask_room" "House.ask_room" Ca f fd) (T:hn K mg au) (E:rC K mg bJ bB bM bI) (w6:a5 P w K mg base b1 1 tx wL lE (Bu aH au)) (wV:Binds K wL lE []) (wi:Meth K au "has_room" tx)
  (GM:a5 P w K mg base b1 4 OE OL iv (A_ aH au)) (YU:Binds K OL iv []) (Yv:Meth K au "make_room" OE):a5 P w K mg base (c4 P w) 5 f fd lE (x7 aH au bI):=by
 refine F.lC UL (fun vs H Q fZ h=>?_) (fun cg A outer s H vs Q fZ aI h=>?_)
 ·obtain⟨a,lo,pl,x,aA,m,rfl,_⟩:=h
  rfl
 obtain⟨a,lo,pl,x,aA,m,rfl,A,hm,hd,hE,hc,q⟩:=h
 obtain⟨dx,bU⟩:=A.bT
 refine⟨_,(aY (cO (mb (i0 (fB (ah 0) T.cl wi w6 (b6 aI) wV .nil cW (ak (ah 1) aK)))) (bl (dD (so (ah 0) T.cl Yv GM (b6 aI) YU .nil cW)) (aY (cO (mb (i0 (fB (ah 0) T.cl wi w6 (b6 aI) wV .nil cW (ak (ah 1) aK)))) (aY (xE E.Yb E.lW excBase_ValueError rfl (xw (k_ 2000 bg (k_ 2000 (uz (ah 1)) (k_ 2000 bg x_)))))) dK))) dK)),?_⟩
 refine⟨_,rfl,a.h,dx,_,rfl,bU,(by kernel_rfl),_,rfl,a,lo,pl,x,aA,_,rfl,A,_,rfl,?_⟩
 cases aJ:x.i1 ((m:Nat):Int) with
 | true =>
  refine dQ ?_
  have nX:x.full ((m:Nat):Int)=(x,false):=by
   unfold aE.full
   rw[if_pos aJ]
  have aU:=q lo H (by rw[nX];exact A) (dP.refl ..)
  rw[nX,if_neg (fun z=>nomatch z)]at aU
  exact aU
 | false =>
  refine eY ?_
  refine⟨_,rfl,a.h,dx,_,rfl,bU,(by kernel_rfl),a,lo,pl,x,aA,rfl,A,hd,hE,hc,fun lo1 H1 bO fq=>?_⟩
  have nX:x.full ((m:Nat):Int)=(x.hC, !x.hC.i1 ((m:Nat):Int)):=by
   unfold aE.full
   rw[if_neg (by rw[aJ];exact fun z=>nomatch z)]
  have aU:=q lo1 H1 (by rw[nX];exact bO) fq
  rw[nX]at aU
  obtain⟨D4,kH⟩:=bO.bT
  refine⟨_,rfl,a.h,D4,_,rfl,kH,(by kernel_rfl),_,rfl,a,lo1,pl,_,aA,_,rfl,bO,_,rfl,?_⟩
  cases aQ:x.hC.i1 ((m:Nat):Int) with
  | true =>
   rw[aQ]at aU
   exact dQ aU
  | false =>
   rw[aQ]at aU
   refine eY ?_
   have cV:=qA (n:=m) (by omega)
   exact⟨_,rfl,(le_of_ble_eq_true rfl),_,rfl,_,rfl,cV,_,rfl,(le_trans (se cV) (by decide)),_,rfl,(le_of_ble_eq_true rfl),fun _=>aU⟩
theorem n1 {x:aE}{e:cZ}{w:Str}(h:x.refusal e=some w):x.bX e=(x,.word w):=by
 unfold aE.bX
 rw[h]
theorem l8 {x:aE}{e:cZ}(h:x.refusal e=none):x.bX e=x.i7 e:=by
 unfold aE.bX
 rw[h]
def jk (bJ bB bM bI:Addr) (l3:V) (Q:ct) (E:gh) (H:aj):dn→Prop
 | .num i=>Q (.int i) H
 | .word w=>if w="done" then Q l3 H else if w="no dealing" then E (.ref bJ) none H else if w="no page" then E (.ref bB) none H else if w="taken" then E (.ref bM) none H else E (.ref bI) none H
section
variable {bJ bB bM bI:Addr}{l3:V}{Q:ct}{E:gh}{H:aj}
theorem nc:jk bJ bB bM bI l3 Q E H (.word "done")↔Q l3 H:=by unfold jk;dsimp only;rw[if_pos rfl]
theorem qw:jk bJ bB bM bI l3 Q E H (.word "no dealing")↔E (.ref bJ) none H:=by unfold jk;dsimp only;rw[if_neg (by decide +kernel),if_pos rfl]
theorem l_:jk bJ bB bM bI l3 Q E H (.word "no page")↔E (.ref bB) none H:=by unfold jk;dsimp only;rw[if_neg (by decide +kernel),if_neg (by decide +kernel),if_pos rfl]
theorem xx:jk bJ bB bM bI l3 Q E H (.word "taken")↔E (.ref bM) none H:=by unfold jk;dsimp only;rw[if_neg (by decide +kernel),if_neg (by decide +kernel),if_neg (by decide +kernel),if_pos rfl]
theorem n3:jk bJ bB bM bI l3 Q E H (.word "no room")↔E (.ref bI) none H:=by unfold jk;dsimp only;rw[if_neg (by decide +kernel),if_neg (by decide +kernel),if_neg (by decide +kernel),if_neg (by decide +kernel)]
end
def After (aH au bJ bB bM bI:Addr) (l3:V) (a:dI) (lo:Addr) (pl:List (Int × Addr)) (x:aE) (aA:List (Key × V)) (H:aj) (Q:ct) (E:gh) (e:cZ):Prop :=
 ∀lo' c3 c7 af,ck aH au af a lo' c3 (x.bX e).1 c7→c7.length≤aA.length+1→dP a lo pl lo' c3 H af→jk bJ bB bM bI l3 Q E af (x.bX e).2
structure Ready (aH au:Addr) (H:aj) (a:dI) (lo:Addr) (pl:List (Int × Addr)) (x:aE) (aA:List (Key × V)) (n:Nat):Prop where
 rL:ck aH au H a lo pl x aA
 hy:x.good n
 dF:n≤110
 i_:aA.length≤100000
 wR:x.begun≤900
def cV (i:Int):Prop:=i.natAbs.log2<1920
def xR (aH au bJ bB bM bI:Addr):dg:=fun vs H Q E=>∃(a:dI) (lo:Addr) (pl:List (Int × Addr)) (x:aE) (aA:List (Key × V)) (n:Nat),vs=[.ref a.h]∧Ready aH au H a lo pl x aA n∧After aH au bJ bB bM bI .cc a lo pl x aA H Q E .begin
def yp (aH au bJ bB bM bI:Addr):dg:=fun vs H Q E=>∃(a:dI) (lo:Addr) (pl:List (Int × Addr)) (x:aE) (aA:List (Key × V)) (n:Nat) (d p k:Int),vs=[.ref a.h,.int d,.int p,.int k]∧Ready aH au H a lo pl x aA n∧cV d∧cV p∧After aH au bJ bB bM bI .cc a lo pl x aA H Q E (.put d p k)
def uH (aH au bJ bB bM bI:Addr):dg:=fun vs H Q E=>∃(a:dI) (lo:Addr) (pl:List (Int × Addr)) (x:aE) (aA:List (Key × V)) (n:Nat) (d:Int),vs=[.ref a.h,.int d]∧ck aH au H a lo pl x aA∧x.fits 1∧cV d∧(if x.isOpen d=false then E (.ref bJ) none H else ∀lo' af,ck aH au af a lo' (pl.filter fun z=>z.1 != d) (x.pI d) aA→dP a lo pl lo' (pl.filter fun z=>z.1 != d) H af→Q .cc af)
def x6 (aH au bJ bB bM bI:Addr):dg:=fun vs H Q E=>∃(a:dI) (lo:Addr) (pl:List (Int × Addr)) (x:aE) (aA:List (Key × V)) (n:Nat) (d:Int),vs=[.ref a.h,.int d]∧Ready aH au H a lo pl x aA n∧cV d∧After aH au bJ bB bM bI .cc a lo pl x aA H Q E (.drop d)
def uu (aH au bJ bB bM bI:Addr):dg:=fun vs H Q E=>∃(a:dI) (lo:Addr) (pl:List (Int × Addr)) (x:aE) (aA:List (Key × V)) (n:Nat) (p:Int),vs=[.ref a.h,.int p]∧Ready aH au H a lo pl x aA n∧cV p∧After aH au bJ bB bM bI .cc a lo pl x aA H Q E (.look p)
section
variable {aH au:Addr}{H:aj}{a:dI}{lo:Addr}{pl:List (Int × Addr)}{x:aE}{aA:List (Key × V)}{n:Nat}
theorem Ready.fits (R:Ready aH au H a lo pl x aA n) {k:Nat}(a4:k≤50000):x.fits k:=R.hy.fits (by have:=R.dF;omega) a4
theorem Ready.vd (R:Ready aH au H a lo pl x aA n):pl.length≤1000:=by
 have av:=R.rL.c8.q3
 have aC:=R.hy.pl
 have cB:=R.dF
 omega
theorem Ready.jK (R:Ready aH au H a lo pl x aA n):x.aO.length≤1000:=by
 have:=R.hy.eF
 omega
end
theorem Hz:dE gD iv (cT BQ):=dS
theorem Rf {aH au bJ bB bM bI:Addr}{kV:Addr}{m4:FuncData}(F:bZ K "begin" "House.begin" BQ f fd) (T:hn K mg au) (r8:a5 P w K mg base (c4 P w) 5 kV m4 lE (x7 aH au bI)) (rZ:Binds K m4 lE []) (lW:Meth K au "ask_room" kV):a5 P w K mg base (c4 P w) 6 f fd iv (xR aH au bJ bB bM bI):=by
 refine F.lC Hz (fun vs H Q fZ h=>?_) (fun cg A outer s H vs Q fZ aI h=>?_)
 ·obtain⟨a,lo,pl,x,aA,n,rfl,_⟩:=h
  rfl
 obtain⟨a,lo,pl,x,aA,n,rfl,R,q⟩:=h
 have A:=R.rL
 obtain⟨dx,bU⟩:=A.bT
 have bp:=hp aI
 refine⟨_,(bl (cQ (i:=1) Hz.bk rfl (Or.inl rfl) (e5 (ah 0) rfl)) (bl (xu (ah 0) aX BZ) (bl (dD (fB (ah 0) T.cl lW r8 (b6 aI) rZ .nil (ha fun _ _ z=>z) (ak aX aK))) (bl (nd bp (e5 (ah 0) rfl) (ah 1) (fC aK) rfl) (bl (xu (ah 0) aX BZ) (aY (dc (ah 1)))))))),?_⟩
 refine⟨_,rfl,a.h,au,dx,_,_,rfl,bU,T.cl,T.Bq,Gz .., ?_⟩
 refine⟨_,rfl,a.h,au,dx,_,_,rfl,bU,T.cl,T.Bq,Gz .., _,_,rfl,rfl,dx,_,bU,(by show 8<1000;decide),?_⟩
 rw[Pf]
 have bO:=A.began (dx:=dx) (b:=(x.begun:Int)+1) rfl
 have fq:dP a lo pl lo pl H (upd H a.h (.ins au dx (hf a.c a.ao a.st a.pu a.bz x.room ((x.begun:Int)+1) x.bound))):=(dP.refl ..).upd (pH ..)
 generalize upd H a.h (.ins au dx (hf a.c a.ao a.st a.pu a.bz x.room ((x.begun:Int)+1) x.bound))=H1 at bO fq ⊢
 obtain⟨D4,kH⟩:=bO.bT
 have hE:x.began.fits (x.began.aO.length+1):=R.fits (k:=x.aO.length+1) (by have:=R.jK;omega)
 refine⟨_,rfl,a.h,D4,_,rfl,kH,(by kernel_rfl),a,lo,pl,x.began,aA,1,rfl,bO,by decide,R.jK,hE,R.vd,fun dm aq a_ d_=>?_⟩
 have az:x.bX .begin=(if (x.began.full 1).2=true then ((x.began.full 1).1,dn.word "no room") else ((x.began.full 1).1.opened,.num x.begun)):=rfl
 by_cases mG:(x.began.full ((1:Nat):Int)).2=true
 ·rw[if_pos mG]
  have q6:(x.began.full 1).2=true:=mG
  rw[if_pos q6]at az
  have aU:=q dm pl aA aq (by rw[az];exact a_) (le_succ _) (fq.trans d_)
  rw[az]at aU
  exact n3.mp aU
 rw[if_neg mG]
 have q6:¬(x.began.full 1).2=true:=mG
 rw[if_neg q6]at az
 have zJ:(x.began.full ((1:Nat):Int)).1.begun=x.begun+1:=ph
 have tb:(x.began.full ((1:Nat):Int)).1.bQ=x.bQ:=pq
 refine⟨cX,fun nl aN=>?_⟩
 have s3:=b3 aN (.lst [])
 have cn:=a_.same s3
 obtain⟨lO,f7⟩:=cn.bT
 have oQ:=R.vd
 refine⟨_,rfl,a.h,au,lO,_,_,rfl,f7,T.cl,T.pG,qJ .., _,rfl,a.pu,_,rfl,om.k (k:=Sum.inl ((x.begun:Nat):Int)) cn.aD (jS (by unfold eN;rw[length_map];omega)),?_⟩
 have gp:(upd (upd aq nl (.lst [])) a.pu (.b2 (putK (eN pl) (Sum.inl ((x.begun:Nat):Int)) (.ref nl)))) a.h=(upd aq nl (.lst [])) a.h:=ay a_.aN.2.2.1.symm
 rw[f7]at gp
 refine⟨_,rfl,a.h,au,lO,_,_,rfl,gp,T.cl,T.uC,xJ .., _,_,rfl,rfl,lO,_,gp,(by show 8<1000;decide),_,rfl,?_⟩
 rw[AH]
 have oA:(x.began.full ((1:Nat):Int)).1.isOpen ((x.begun:Nat):Int)=false:=by
  unfold aE.isOpen
  rw[tb]
  cases e:x.bQ.any (fun z=>z.1 == ((x.begun:Nat):Int)) with
  | false=>rfl
  | true =>
   obtain⟨z,hz,he⟩:=any_eq_true.mp e
   have av:=(R.hy.fV z hz).2.1
   have aC:=beq_iff_eq.mp he
   omega
 have d4:=a_.opened (n:=nl) (dx:=lO) (d:=((x.begun:Nat):Int)) (b:=(x.began.full ((1:Nat):Int)).1.bound+1) aN oA rfl (by rw[zJ];omega) fun k e he z=>by
  obtain⟨p,d',aJ,aQ,b9,cC,ed⟩:=A.h7.b k _ he
  injection aQ with aQ
  omega
 have gG:dP a dm pl dm (pl++[(((x.begun:Nat):Int),nl)]) aq (upd (upd (upd aq nl (.lst [])) a.pu (.b2 (putK (eN pl) (Sum.inl ((x.begun:Nat):Int)) (.ref nl)))) a.h (.ins au lO (hf a.c a.ao a.st a.pu a.bz (x.began.full ((1:Nat):Int)).1.room (x.began.full ((1:Nat):Int)).1.begun ((x.began.full ((1:Nat):Int)).1.bound+1)))):=by
  refine dP.upd (dP.upd ⟨fun b o aa e=>s3 b o e,fun b aa=>?_⟩ (uF ..)) (pH ..)
  rcases mem_cons.mp aa with z | aa
  ·rw[z];exact .inl (sD ..)
  ·rcases mem_cons.mp aa with z | aa
   ·rw[z];exact .inl (uN ..)
   ·rcases mem_cons.mp aa with z | aa
    ·rw[z];exact .inl (uE ..)
    ·rcases n5.mp aa with z | z | z | z | z | ⟨z,hz,e⟩
     ·rw[z];exact .inl (pH ..)
     ·rw[z];exact .inl (yk ..)
     ·rw[z];exact .inl (yj ..)
     ·rw[z];exact .inl (uF ..)
     ·rw[z];exact .inl (yh ..)
     ·rcases mem_append.mp hz with y | y
      ·rw[←e];exact .inl (yi y ..)
      ·rw[mem_singleton.mp y]at e
       rw[←e];exact .inr aN
 have aU:=q dm _ aA _ (by rw[az];exact d4) (le_succ _) ((fq.trans d_).trans gG)
 rw[az]at aU
 exact aU
theorem Ss:dE fU fU (cT B6):=dS
theorem RY {aH au bJ bB bM bI:Addr}{gu:Addr}{g6:FuncData}(F:bZ K "look" "House.look" B6 f fd) (T:hn K mg au) (jQ:a5 P w K mg base (c4 P w) 1 gu g6 fU (uv aH au bB)) (jN:Binds K g6 fU []) (hL:Meth K au "ask_page" gu):a5 P w K mg base (c4 P w) 2 f fd fU (uu aH au bJ bB bM bI):=by
 refine F.lC Ss (fun vs H Q fZ h=>?_) (fun cg A outer s H vs Q fZ aI h=>?_)
 ·obtain⟨a,lo,pl,x,aA,n,p,rfl,_⟩:=h
  rfl
 obtain⟨a,lo,pl,x,aA,n,p,rfl,R,gO,q⟩:=h
 have A:=R.rL
 obtain⟨dx,bU⟩:=A.bT
 refine⟨_,(bl (dD (fB (ah 0) T.cl hL jQ (b6 aI) jN .nil (ha fun _ _ z=>z) (ak (ah 1) aK))) (aY (dc (bP ee (e5 (ah 0) rfl) (ah 1) (fun _ _=>rfl))))),?_⟩
 refine⟨_,rfl,a.h,dx,_,rfl,bU,(by kernel_rfl),_,rfl,a,lo,pl,x,aA,p,rfl,A,gO,?_⟩
 by_cases c:p<0∨(x.aO.length:Int)≤p
 ·rw[if_pos c]
  have az:x.bX (.look p)=(x,.word "no page"):=by
   exact n1 (if_pos c)
  have aU:=q lo pl aA H (by rw[az];exact A) (le_succ _) (dP.refl ..)
  rw[az]at aU
  exact l_.mp aU
 ·rw[if_neg c]
  have aD:p.toNat<x.aO.length:=by omega
  have cL:p=((p.toNat:Nat):Int):=by omega
  obtain⟨d6,cM,eL⟩:=A.c8.p5 aD
  rw[←cL]at eL
  have az:x.bX (.look p)=(x,.num (x.aO.getD p.toNat 0)):=by
   exact l8 (e:=.look p) (if_neg c)
  have iS:x.aO.getD p.toNat 0=d6:=by rw[getD_eq_getElem?_getD,cM];rfl
  have aU:=q lo pl aA H (by rw[az];exact A) (le_succ _) (dP.refl ..)
  rw[az,iS]at aU
  exact⟨_,rfl,a.h,au,dx,_,_,rfl,bU,T.cl,T.nh,n7 .., _,rfl,a.ao,_,_,_,rfl,rfl,aV.of A.hd,eL,aU⟩
theorem TF:dE gD gD (cT Ct):=dS
theorem SW {aH au bJ bB bM bI:Addr}{eB:Addr}{fx:FuncData}{gf:Addr}{g5:FuncData}(F:bZ K "end" "House.end" Ct f fd) (B:fc mg) (T:hn K mg au) (gy:a5 P w K mg base (c4 P w) 1 eB fx gD (uw aH au bJ)) (gx:Binds K fx gD []) (fH:Meth K au "ask_dealing" eB)
  (jP:a5 P w K mg base b1 2 gf g5 i8 (sL aH au)) (jM:Binds K g5 i8 []) (jG:Meth K au "make_stroke" gf):a5 P w K mg base (c4 P w) 3 f fd gD (uH aH au bJ bB bM bI):=by
 refine F.lC TF (fun vs H Q fZ h=>?_) (fun cg A outer s H vs Q fZ aI h=>?_)
 ·obtain⟨a,lo,pl,x,aA,n,d,rfl,_⟩:=h
  rfl
 obtain⟨a,lo,pl,x,aA,n,d,rfl,A,hE,gO,q⟩:=h
 obtain⟨dx,bU⟩:=A.bT
 refine⟨_,(bl (dD (fB (ah 0) T.cl fH gy (b6 aI) gx .nil (ha fun _ _ z=>z) (ak (ah 1) aK))) (bl (dD (fB (ah 0) T.cl jG jP (b6 aI) jM .nil cW (ak (fQ (ak bg (ak (fQ (ak bg (ak (ah 1) aK))) aK))) aK))) (aY (xu (ah 0) (c0 gN (eV hX rfl B.len PySem.boot_len (ak (GU (e5 (ah 0) rfl) (ah 1) ⟨rfl,rfl,rfl,rfl⟩) aK)) aX) S8)))),?_⟩
 refine⟨_,rfl,a.h,dx,_,rfl,bU,(by kernel_rfl),_,rfl,a,lo,pl,x,aA,d,rfl,A,gO,?_⟩
 cases aF:x.isOpen d with
 | false =>
  rw[aF,if_pos rfl]at q
  rw[if_pos rfl]
  exact q
 | true =>
  rw[aF,if_neg (fun z=>nomatch z)]at q
  rw[if_neg (fun z=>nomatch z)]
  refine⟨_,rfl,a.h,dx,_,rfl,bU,(by kernel_rfl),_,rfl,cX,fun t1 av=>⟨cX,fun ek aC=>?_⟩⟩
  have s1:=b3 av (.tup [.str "end",.int d])
  have s2:=b3 aC (.tup [.str "line",.ref t1])
  have a_:=A.same (s1.trans s2)
  have bA:Rep (upd (upd H t1 (.tup [.str "end",.int d])) ek (.tup [.str "line",.ref t1])) (dN.line (.fin d)).D (.ref ek) :=
   Rep.f3 aT (.cons .ofStr (.cons (Rep.f3 (s2 _ _ aT) (.cons .ofStr (.cons .ofInt .nil))) .nil))
  refine⟨a,lo,pl,x,aA,_,.line (.fin d),rfl,a_,bA,trivial,hE,fun ox a3 cn el=>?_⟩
  obtain⟨lO,dr⟩:=cn.bT
  have s8:(x.da (.line (.fin d))).isOpen d=true:=aF
  obtain⟨i,al,ys,hx,kj,qd,wz,OC⟩:=cn.c8.ug s8
  have hm:=mem_of_getElem? hx
  have rf:a3 al=some (.lst ys):=by rw[eW (cn.aN.2.2.2.2.2 _ hm) (cn.et.2.2.2.2.2 _ hm)]at qd;exact qd
  have ia:ys.length=((x.da (.line (.fin d))).ef d).length:=by rw[bE.length wz,length_map]
  have zu:dk (eN pl) (Sum.inl d)=some (.ref al):=by
   have:=pk (l:=pl) (by rw[cn.c8.gF];exact cn.c8.bR) hx
   rw[sq]
   rw[this]
   rfl
  have V7:al≠a.pu:=dv rf cn.aD (fun z=>nomatch z)
  have hu:(upd a3 a.pu (.b2 (lp (eN pl) (Sum.inl d)))) a.h=a3 a.h:=ay cn.aN.2.2.1.symm
  rw[dr]at hu
  refine⟨_,rfl,a.h,au,lO,_,_,rfl,dr,T.cl,T.uC,xJ .., _,rfl,a.h,au,lO,_,_,rfl,dr,T.cl,T.pG,qJ .., a.pu,rfl,.inl ⟨_,.inl cn.aD⟩,_,rfl,_,Sum.inl d,_,cn.aD,rfl,zu,al,ys,rfl,.inl (aV.of (by rw[ay V7];exact rf)),_,_,rfl,rfl,_,_,rfl,rfl,lO,_,hu,(by show 8<1000;decide),?_⟩
  rw[AH]
  have d4:=cn.ended (dx:=lO) (d:=d) (b:=(x.da (.line (.fin d))).bound - (((ys.length:Nat):Int)+1)) (by rw[QB cn.c8.bR s8,ia])
  refine q ox _ d4 (((s1.trans s2).moves.trans el).trans (dP.upd (dP.upd ⟨fun b o _ e=>e,fun b aa=>?_⟩ (uF ..)) (pH ..)))
  rcases mem_cons.mp aa with z | aa
  ·rw[z];exact .inl (sD ..)
  ·rcases mem_cons.mp aa with z | aa
   ·rw[z];exact .inl (uN ..)
   ·rcases mem_cons.mp aa with z | aa
    ·rw[z];exact .inl (uE ..)
    ·rcases n5.mp aa with z | z | z | z | z | ⟨z,hz,e⟩
     ·rw[z];exact .inl (pH ..)
     ·rw[z];exact .inl (yk ..)
     ·rw[z];exact .inl (yj ..)
     ·rw[z];exact .inl (uF ..)
     ·rw[z];exact .inl (yh ..)
     ·rw[←e];exact .inl (yi (mem_filter.mp hz).1 ..)
theorem TC:dE j1 j1 (cT Cs):=dS
theorem SS {aH au bJ bB bM bI:Addr}{eB:Addr}{fx:FuncData}{gu:Addr}{g6:FuncData}{tA:Addr}{wM:FuncData}{kV:Addr}{m4:FuncData}{wH:Addr}{wK:FuncData}(F:bZ K "put" "House.put" Cs f fd) (T:hn K mg au) (gy:a5 P w K mg base (c4 P w) 1 eB fx gD (uw aH au bJ)) (gx:Binds K fx gD []) (fH:Meth K au "ask_dealing" eB)
  (jQ:a5 P w K mg base (c4 P w) 1 gu g6 fU (uv aH au bB)) (jN:Binds K g6 fU []) (hL:Meth K au "ask_page" gu)
  (As:a5 P w K mg base (c4 P w) 1 tA wM yN (Bv aH au bM)) (Ak:Binds K wM yN []) (z_:Meth K au "ask_free" tA)
  (r8:a5 P w K mg base (c4 P w) 5 kV m4 lE (x7 aH au bI)) (rZ:Binds K m4 lE []) (lW:Meth K au "ask_room" kV)
  (w5:a5 P w K mg base b1 3 wH wK j1 (yE aH au)) (wU:Binds K wK j1 []) (wh:Meth K au "write_put" wH):a5 P w K mg base (c4 P w) 6 f fd j1 (yp aH au bJ bB bM bI):=by
 refine F.lC TC (fun vs H Q fZ h=>?_) (fun cg A outer s H vs Q fZ aI h=>?_)
 ·obtain⟨a,lo,pl,x,aA,n,d,p,k,rfl,_⟩:=h
  rfl
 obtain⟨a,lo,pl,x,aA,n,d,p,k,rfl,R,z5,sp,q⟩:=h
 have A:=R.rL
 obtain⟨dx,bU⟩:=A.bT
 have bp:=hp aI
 have er:x.refusal (.put d p k)=(if x.isOpen d=false then some ("no dealing":Str) else if p<0∨(x.aO.length:Int)≤p then some ("no page":Str) else if x.eK p.toNat=none∨x.eK p.toNat=some d then none else some ("taken":Str)):=rfl
 have iJ:∀w:Str,x.refusal (.put d p k)=some w→jk bJ bB bM bI .cc Q fZ H (.word w):=fun w h=>by
  have az:=n1 h
  have aU:=q lo pl aA H (by rw[az];exact A) (le_succ _) (dP.refl ..)
  rw[az]at aU
  exact aU
 refine⟨_,(bl (dD (fB (ah 0) T.cl fH gy (b6 aI) gx .nil (ha fun _ _ z=>z) (ak (ah 1) aK))) (bl (dD (fB (ah 0) T.cl hL jQ (b6 aI) jN .nil (ha fun _ _ z=>z) (ak (ah 2) aK))) (bl (dD (fB (ah 0) T.cl z_ As (b6 aI) Ak .nil (ha fun _ _ z=>z) (ak (ah 1) (ak (ah 2) aK)))) (bl (dD (fB (ah 0) T.cl lW r8 (b6 aI) rZ .nil (ha fun _ _ z=>z) (ak aX aK))) (bl (dD (i2 plainAttrs_list PySem.F.slot_list_append PySem.F.type_list_append iY (ew bp (e5 (ah 0) rfl) (ah 1) (fun _ _=>rfl)) (ak (fQ (ak (ah 2) (ak (bP ee (e5 (ah 0) rfl) (ah 2) (fun _ _=>rfl)) aK))) aK))) (bl (nd bp (e5 (ah 0) rfl) (ah 2) (ah 1) rfl) (bl (xu (ah 0) aX BZ) (aY (dD (fB (ah 0) T.cl wh w5 (b6 aI) wU .nil cW (ak (ah 1) (ak (ah 2) (ak (ah 3) aK))))))))))))),?_⟩
 refine⟨_,rfl,a.h,dx,_,rfl,bU,(by kernel_rfl),_,rfl,a,lo,pl,x,aA,d,rfl,A,z5,?_⟩
 cases aF:x.isOpen d with
 | false =>
  rw[if_pos rfl]
  rw[aF,if_pos rfl]at er
  exact qw.mp (iJ _ er)
 | true =>
 rw[if_neg (fun z=>nomatch z)]
 rw[aF,if_neg (fun z=>nomatch z)]at er
 refine⟨_,rfl,a.h,dx,_,rfl,bU,(by kernel_rfl),_,rfl,a,lo,pl,x,aA,p,rfl,A,sp,?_⟩
 by_cases c:p<0∨(x.aO.length:Int)≤p
 ·rw[if_pos c]
  rw[if_pos c]at er
  exact l_.mp (iJ _ er)
 rw[if_neg c]
 rw[if_neg c]at er
 obtain⟨bR,rfl⟩:∃bR:Nat,p=(bR:Int):=⟨p.toNat,by omega⟩
 rw[Int.toNat_natCast]at er
 have aD:bR<x.aO.length:=by omega
 refine⟨_,rfl,a.h,dx,_,rfl,bU,(by kernel_rfl),_,rfl,_,rfl,a,lo,pl,x,aA,d,bR,rfl,A,by have:=R.wR;omega,by have:=R.jK;omega,?_⟩
 by_cases e1:x.eK bR=none∨x.eK bR=some d
 case neg =>
  rw[if_neg e1]
  rw[if_neg e1]at er
  exact xx.mp (iJ _ er)
 rw[if_pos e1]
 rw[if_pos e1]at er
 have az:x.bX (.put d bR k)=(if (x.full 2).2=true then ((x.full 2).1,dn.word "no room") else (((x.full 2).1.eo d bR).putIn d bR k,.word "done")):=by
  rw[l8 er]
  show (if (x.full 2).2=true then ((x.full 2).1,dn.word "no room") else (((x.full 2).1.eo d (bR:Int).toNat).putIn d (bR:Int).toNat k,.word "done"))=_
  rw[Int.toNat_natCast]
 have hE:x.fits (x.aO.length+1):=R.fits (by have:=R.jK;omega)
 refine⟨_,rfl,a.h,dx,_,rfl,bU,(by kernel_rfl),a,lo,pl,x,aA,2,rfl,A,by decide,R.jK,hE,R.vd,fun dm aq a_ d_=>?_⟩
 by_cases mG:(x.full ((2:Nat):Int)).2=true
 ·rw[if_pos mG]
  have q6:(x.full 2).2=true:=mG
  rw[if_pos q6]at az
  have aU:=q dm pl aA aq (by rw[az];exact a_) (le_succ _) d_
  rw[az]at aU
  exact n3.mp aU
 rw[if_neg mG]
 have q6:¬(x.full 2).2=true:=mG
 rw[if_neg q6]at az
 have zJ:(x.full ((2:Nat):Int)).1.begun=x.begun:=ph
 have tb:(x.full ((2:Nat):Int)).1.bQ=x.bQ:=pq
 have vO:(x.full ((2:Nat):Int)).1.aO=x.aO:=qB
 have Ms:(x.full ((2:Nat):Int)).1.fits 1:=aE.fits.full (R.fits (by have:=R.jK;omega))
 have vP:x.bX (.put d bR k)=(((x.full ((2:Nat):Int)).1.eo d bR).putIn d bR k,.word "done"):=az
 generalize (x.full ((2:Nat):Int)).1=y at a_ vP zJ tb vO Ms
 have rk:y.isOpen d=true:=by unfold aE.isOpen;rw[tb];exact aF
 obtain⟨i,al,ys,hx,kj,qd,wz,OC⟩:=a_.c8.ug rk
 have hm:=mem_of_getElem? hx
 have rf:aq al=some (.lst ys):=by rw[eW (a_.aN.2.2.2.2.2 _ hm) (a_.et.2.2.2.2.2 _ hm)]at qd;exact qd
 have ia:ys.length=(y.ef d).length:=by rw[bE.length wz,length_map]
 have Dw:dk (eN pl) (Sum.inl d)=some (.ref al):=by
  have:=pk (l:=pl) (by rw[a_.c8.gF];exact a_.c8.bR) hx
  rw[sq]
  rw[this]
  rfl
 have nE:=R.hy.fV (d,x.ef d) (qz aF)
 have Xi:y.ef d=x.ef d:=by unfold aE.ef;rw[tb]
 obtain⟨iz,gZ⟩:=a_.bT
 have vB:bR<y.aO.length:=by rw[vO];exact aD
 obtain⟨z,dT,d6⟩:=a_.c8.p5 vB
 have iS:y.aO.getD bR 0=z:=by rw[getD_eq_getElem?_getD,dT];rfl
 have Mq:=R.dF
 have u3:fb aq a.pu (.int d) (some (.ref al)):=by
  have h0:=fb.k (k:=Sum.inl d) a_.aD
  rw[Dw]at h0
  exact h0
 refine⟨_,rfl,a.h,au,iz,_,_,rfl,gZ,T.cl,T.pG,qJ .., _,rfl,a.pu,_,rfl,u3,.inl ⟨rfl,_,aV.of rf⟩,_,rfl,_,rfl,a.h,au,iz,_,_,rfl,gZ,T.cl,T.nh,n7 .., _,rfl,a.ao,_,_,_,rfl,rfl,aV.of a_.hd,d6,cX,fun t bG=>?_⟩
 have s3:=b3 bG (.tup [.int ((bR:Nat):Int),.int z])
 have cn:=a_.same s3
 have zu:Rep (upd aq t (.tup [.int ((bR:Nat):Int),.int z])) (pairD (bR,y.aO.getD bR 0)) (.ref t):=by
  rw[iS]
  exact Rep.f3 aT (.cons .ofInt (.cons .ofInt .nil))
 have Ds:=s3 _ _ rf
 have f7:=s3 _ _ gZ
 have zp:=s3 _ _ a_.kt
 have el:dP a lo pl dm pl H (upd aq t (.tup [.int ((bR:Nat):Int),.int z])):=d_.trans s3.moves
 generalize upd aq t (.tup [.int ((bR:Nat):Int),.int z])=a3 at s3 cn zu Ds f7 zp el ⊢
 refine⟨al,ys,.ref t,rfl,rfl,Ds,jS (by have:=nE.2.2.1;rw[←Xi,←ia]at this;omega),?_⟩
 have V9:a.h≠al:=(cn.aN.2.2.2.2.2 _ hm).symm
 have V8:a.bz≠al:=cn.nA.2.2.2.2.2.2 _ hm
 have gp:(upd a3 al (.lst (ys++[.ref t]))) a.h=a3 a.h:=ay V9
 rw[f7]at gp
 have zo:(upd a3 al (.lst (ys++[.ref t]))) a.bz=a3 a.bz:=ay V8
 rw[zp]at zo
 have ZT:=R.i_
 refine⟨_,rfl,_,rfl,a.h,au,iz,_,_,rfl,gp,T.cl,T.Bp,Gy .., _,rfl,a.bz,_,rfl,om.k (k:=Sum.inl ((bR:Nat):Int)) zo (jS (by omega)),?_⟩
 have fT:(upd (upd a3 al (.lst (ys++[.ref t]))) a.bz (.b2 (putK aA (Sum.inl ((bR:Nat):Int)) (.int d)))) a.h=(upd a3 al (.lst (ys++[.ref t]))) a.h:=ay cn.nA.1.symm
 rw[gp]at fT
 refine⟨_,rfl,a.h,au,iz,_,_,rfl,fT,T.cl,T.uC,xJ .., _,_,rfl,rfl,iz,_,fT,(by show 8<1000;decide),?_⟩
 rw[AH]
 have ll:∀z∈y.bQ,(∃w∈z.2,w.1=bR)→z.1=d:=fun z hz ⟨w,hw,Wu⟩=>by
  have aZ:=a_.h7.a z hz w hw
  rw[Wu]at aZ
  obtain⟨d',aJ,_,_,cC,_⟩:=(GN (p:=bR) a_.h7).1 _ aZ
  injection aJ with aJ
  have WM:y.isOpen d'=true:=any_eq_true.mpr ⟨z,hz,by rw[aJ];exact beq_self_eq_true d'⟩
  have hA:=cC WM
  have Xh:x.eK bR=some d':=by unfold aE.eK at hA ⊢;rw[tb]at hA;exact hA
  rw[Xh]at e1
  rcases e1 with w | w
  ·cases w
  ·rw[aJ];exact Option.some.inj w
 have gM:=cn.eo (dx:=iz) (p:=bR) (b:=y.bound+1) hx Ds zu (PX cn.c8.bR rk).symm nE.1 (by rw[zJ];exact nE.2.1) ll
 have h_:dP a lo pl dm pl H (upd (upd (upd a3 al (.lst (ys++[.ref t]))) a.bz (.b2 (putK aA (Sum.inl ((bR:Nat):Int)) (.int d)))) a.h (.ins au iz (hf a.c a.ao a.st a.pu a.bz y.room y.begun (y.bound+1)))) :=
  ((el.upd (yi hm ..)).upd (uE ..)).upd (pH ..)
 generalize upd (upd (upd a3 al (.lst (ys++[.ref t]))) a.bz (.b2 (putK aA (Sum.inl ((bR:Nat):Int)) (.int d)))) a.h (.ins au iz (hf a.c a.ao a.st a.pu a.bz y.room y.begun (y.bound+1)))=e_ at gM h_ ⊢
 obtain⟨Xm,hi⟩:=gM.bT
 refine⟨_,rfl,a.h,Xm,_,rfl,hi,(by kernel_rfl),_,rfl,_,rfl,_,rfl,a,dm,pl,y.eo d bR,_,d,bR,k,rfl,gM,vB,Ms,fun zm iW tU tu=>?_⟩
 have aU:=q zm pl _ iW (by rw[vP];exact tU) (pg ..) (h_.trans tu)
 rw[vP]at aU
 exact nc.mp aU
theorem Bw:dE ["self","dealing","page","old"] gD (cT B9):=dS
theorem R2 {aH au bJ bB bM bI:Addr}{eB:Addr}{fx:FuncData}{wH:Addr}{wK:FuncData}{je:Addr}{kr:FuncData}(F:bZ K "drop" "House.drop" B9 f fd) (B:fc mg) (Vb:mg "reversed"=none) (T:hn K mg au) (gy:a5 P w K mg base (c4 P w) 1 eB fx gD (uw aH au bJ)) (gx:Binds K fx gD []) (fH:Meth K au "ask_dealing" eB)
  (w5:a5 P w K mg base b1 3 wH wK j1 (yE aH au)) (wU:Binds K wK j1 []) (wh:Meth K au "write_put" wH)
  (pa:a5 P w K mg base (c4 P w) 3 je kr gD (uH aH au bJ bB bM bI)) (o5:Binds K kr gD []) (mN:Meth K au "end" je):a5 P w K mg base (c4 P w) 4 f fd gD (x6 aH au bJ bB bM bI):=by
 refine F.lC Bw (fun vs H Q fZ h=>?_) (fun cg A outer s H vs Q fZ aI h=>?_)
 ·obtain⟨a,lo,pl,x,aA,n,d,rfl,_⟩:=h
  rfl
 obtain⟨a,lo,pl,x,aA,n,d,rfl,R,z5,q⟩:=h
 have A:=R.rL
 obtain⟨dx,bU⟩:=A.bT
 have bp:=hp aI
 have er:x.refusal (.drop d)=(if x.isOpen d=false then some ("no dealing":Str) else none):=rfl
 refine⟨_,(bl (dD (fB (ah 0) T.cl fH gy (b6 aI) gx .nil (ha fun _ _ z=>z) (ak (ah 1) aK))) (bl (kC PassesOwn.leaving rfl (SH rfl Vb (ew bp (e5 (ah 0) rfl) (ah 1) (fun _ _=>rfl))) (ya rfl (pz (hY (i:=2) Bw.bk rfl (Or.inl rfl)) (pz (hY (i:=3) Bw.bk rfl (Or.inl rfl)) xW))) (aY (dD (fB (ah 0) T.cl wh w5 (b6 aI) wU .nil cW (ak (ah 1) (ak (ah 2) (ak (ah 3) aK))))))) (aY (dD (fB (ah 0) T.cl mN pa (b6 aI) o5 .nil (ha fun _ _ z=>z) (ak (ah 1) aK)))))),?_⟩
 refine⟨_,rfl,a.h,dx,_,rfl,bU,(by kernel_rfl),_,rfl,a,lo,pl,x,aA,d,rfl,A,z5,?_⟩
 cases aF:x.isOpen d with
 | false =>
  rw[if_pos rfl]
  rw[aF,if_pos rfl]at er
  have az:=n1 er
  have aU:=q lo pl aA H (by rw[az];exact A) (le_succ _) (dP.refl ..)
  rw[az]at aU
  exact qw.mp aU
 | true =>
 rw[if_neg (fun z=>nomatch z)]
 rw[aF,if_neg (fun z=>nomatch z)]at er
 have az:=l8 er
 obtain⟨i,al,ys,hx,kj,qd,wz,OC⟩:=A.c8.ug aF
 have hm:=mem_of_getElem? hx
 have rf:H al=some (.lst ys):=by rw[eW (A.aN.2.2.2.2.2 _ hm) (A.et.2.2.2.2.2 _ hm)]at qd;exact qd
 have ia:ys.length=(x.ef d).length:=by rw[bE.length wz,length_map]
 have Dw:dk (eN pl) (Sum.inl d)=some (.ref al):=by
  have:=pk (l:=pl) (by rw[A.c8.gF];exact A.c8.bR) hx
  rw[sq]
  rw[this]
  rfl
 have nE:=R.hy.fV (d,x.ef d) (qz aF)
 have Mq:=R.dF
 have lpo:(x.ef d).length≤110:=le_trans nE.2.2.1 Mq
 have listAt:∀{aq:aj} {dm:Addr} {y:aE},ck aH au aq a dm pl y aA→y.bQ=x.bQ→∃us,aq al=some (.lst us)∧bE aq ((x.ef d).map pairD) us:=fun {aq dm y} a_ cL=>by
  obtain⟨w,us,fe,eL,iB,rH,_⟩:=a_.c8.at_ hx
  rw[cL,kj]at fe
  cases fe
  rw[eW (a_.aN.2.2.2.2.2 _ hm) (a_.et.2.2.2.2.2 _ hm)]at iB
  exact⟨us,iB,bE.keep a_.Ce _ _ (eH iH _) rH⟩
 have u3:fb H a.pu (.int d) (some (.ref al)):=by
  have h0:=fb.k (k:=Sum.inl d) A.aD
  rw[Dw]at h0
  exact h0
 refine⟨_,rfl,a.h,au,dx,_,_,rfl,bU,T.cl,T.pG,qJ .., _,rfl,a.pu,_,rfl,u3,al,ys,rfl,aV.of rf,Rv (K:=K) (a:=al) (N:=ys.length) (fun i σ aq=>∃(lo1:Addr) (b5 dr:Option V),σ=[some (.ref a.h),some (.int d),b5,dr]∧ck aH au aq a lo1 pl (x.gm d ((x.ef d).reverse.take i)) aA∧dP a lo pl lo1 pl H aq)
  ⟨lo,none,none,rfl,A,dP.refl ..⟩ (fun i σ aq _ ⟨lo1,_,_,_,a_,_⟩=>?_) ?_ ?_⟩
 ·obtain⟨us,g4,gb⟩:=listAt a_ sd
  exact⟨us,by rw[bE.length gb,length_map,ia],aV.of g4⟩
 ·rintro i v σ aq aW vu ⟨lo1,b5,dr,rfl,a_,d_⟩
  obtain⟨us,g4,gb⟩:=listAt a_ sd
  obtain⟨z,hz,wc⟩:=sm gb (vu us (aV.of g4))
  obtain⟨c,b0,cM,rfl,ai,bx,b7⟩:=gk wc
  cases bx.int_inv
  cases b7.int_inv
  have Wq:=mem_of_getElem? hz
  have Wo:z.1<(x.gm d ((x.ef d).reverse.take i)).aO.length:=by rw[tZ];exact nE.2.2.2 z Wq
  have W4:(x.gm d ((x.ef d).reverse.take i)).fits 1:=aE.fits.gm (R.fits (by rw[length_take,length_reverse];omega)) fun w hw=>nE.2.2.2 w (mem_reverse.mp (List.mem_of_mem_take hw))
  refine⟨c,_,rfl,aP.of ai,rfl,_,_,rfl,_,_,rfl,rfl,?_⟩
  obtain⟨iz,gZ⟩:=a_.bT
  refine⟨_,rfl,a.h,iz,_,rfl,gZ,(by kernel_rfl),_,rfl,_,rfl,_,rfl,a,lo1,pl,_,aA,d,z.1,z.2,rfl,a_,Wo,W4,fun ox a3 cn el=>?_⟩
  have hA:(x.ef d).reverse.take (i+1)=(x.ef d).reverse.take i++[z]:=by
   rw[take_add_one,getElem?_reverse (by omega),←ia,hz]
   rfl
  refine⟨ox,_,_,rfl,?_,d_.trans el⟩
  rw[hA,FZ]
  exact cn
 ·rintro σ aq ⟨lo1,b5,dr,rfl,a_,d_⟩
  rw[ia,←length_reverse,take_length]at a_
  have kX:x.gm d (x.ef d).reverse=x.hD d:=k9.symm
  rw[kX]at a_
  obtain⟨iz,gZ⟩:=a_.bT
  have rk:(x.hD d).isOpen d=true:=by
   unfold aE.isOpen
   rw[k9,sd]
   exact aF
  have mG:(x.hD d).fits 1:=by
   rw[k9]
   exact aE.fits.gm (R.fits (by rw[length_reverse];omega)) fun w hw=>nE.2.2.2 w (mem_reverse.mp hw)
  refine⟨_,rfl,a.h,iz,_,rfl,gZ,(by kernel_rfl),_,rfl,a,lo1,pl,x.hD d,aA,n,d,rfl,a_,mG,z5,?_⟩
  rw[rk,if_neg (fun z=>nomatch z)]
  intro ox a3 cn el
  have aU:=q ox _ aA a3 (by rw[az];exact cn) (le_succ _) (d_.trans el)
  rw[az]at aU
  exact nc.mp aU
def xQ (aH au:Addr):dg:=fun vs H Q _=>∃(h dx cu:Addr) (aB:List Int) (room:Int),vs=[.ref h,.ref cu,.int room]∧H h=some (.ins au dx [])∧H cu=some (.lst (aB.map V.int)) ∧
 ∀(a:dI) (lo:Addr) (af:aj),a.h=h→ck aH au af a lo [] (ea aB room) []→(∀b,b∈a.dJ lo []→b=h∨H b=none)→(∀b o,H b=some o→b≠h→af b=some o)→Q .cc af
def lA:cZ→Prop
 | .put d p _=>cV d∧cV p
 | .fin d=>cV d
 | .drop d=>cV d
 | .look p=>cV p
 | .carry p=>cV p
 | _=>True
def qC (aH au bJ bB bM bI:Addr):dg:=fun vs H Q E=>∃(a:dI) (lo:Addr) (pl:List (Int × Addr)) (x:aE) (aA:List (Key × V)) (n:Nat) (v:V) (e:cZ),vs=[.ref a.h,v]∧Ready aH au H a lo pl x aA n∧Rep H e.D v∧lA e∧After aH au bJ bB bM bI (.str "done") a lo pl x aA H Q E e
def AY (aH au:Addr):dg:=fun vs H Q _=>∃(a:dI) (lo:Addr) (pl:List (Int × Addr)) (x:aE) (aA:List (Key × V)) (n:Nat) (v:V) (e:cZ),vs=[.ref a.h,v]∧Ready aH au H a lo pl x aA n∧Rep H e.D v∧lA e ∧
 ∀lo' c3 c7 af,ck aH au af a lo' c3 (x.bX e).1 c7→c7.length≤aA.length+1→dP a lo pl lo' c3 H af→Q (x.bX e).2.v af
def Gn:dg:=fun vs H Q _=>∃(cu dl:Addr) (aB:List Int) (room:Int) (us:List V) (aM:List cZ),vs=[.ref cu,.int room,.ref dl]∧H cu=some (.lst (aB.map V.int))∧1≤aB.length∧aB.length≤100∧H dl=some (.lst us)∧bE H (aM.map cZ.D) us∧aM.length≤110∧(∀e∈aM,lA e) ∧
 ∀(r:Addr) (af:aj),bY H af→af r=some (.lst (((ea aB room).says aM).map dn.v))→Q (.ref r) af
theorem Sd (c ao st pu bz:Addr) (room:Int):dM "bound" (.int 0) (dM "takers" (.ref bz) (dM "puts" (.ref pu) (dM "begins" (.int 0) (dM "strokes" (.ref st) (dM "room" (.int room) (dM "desk" (.ref ao) (dM "cellar" (.ref c) [])))))))=hf c ao st pu bz room 0 0:=by kernel_rfl
theorem UG:dE q2 q2 (cT BH):=dS
theorem Q6 {aH au qf:Addr}{qi:FuncData}(F:bZ K "__init__" "House.__init__" BH f fd) (B:fc mg) (T:hn K mg au) (ku:pv K mg aH) (Y_:r6 K aH qf) (qo:a5 P w K mg base b1 1 qf qi uU (Bb aH)) (tG:Binds K qi uU []) :
  a5 P w K mg base b1 3 f fd q2 (xQ aH au):=by
 refine F.ok UG (fun vs H Q E h=>?_) (fun cg A outer s H vs Q E aI h=>?_)
 ·obtain⟨h,dx,cu,aB,room,rfl,_⟩:=h
  rfl
 obtain⟨h,dx,cu,aB,room,rfl,du,aD,q⟩:=h
 refine⟨_,(bl (mc (ah 0) (xX Y_ qo aI rfl ku.vn tG .nil cW (ak (ah 1) (ak (fC aK) aK))) rfl) (bl (mc (ah 0) (hl n0 rfl B.lst i3 (ak (ah 1) aK)) rfl) (bl (mc (ah 0) (ah 2) rfl) (bl (mc (ah 0) (fC aK) rfl) (bl (mc (ah 0) aX rfl) (bl (mc (ah 0) xH rfl) (bl (mc (ah 0) xH rfl) (aY (mc (ah 0) aX rfl))))))))),?_⟩
 refine⟨_,rfl,cX,fun hQ W8=>?_⟩
 intro c Fb gc VZ ZD
 have s1:=b3 W8 (.lst [])
 have s2:bY (upd H hQ (.lst [])) (upd (upd (upd H hQ (.lst [])) Fb (.own c)) c (.ins aH Fb [])):=fun b o e=>by
  rw[ay (cG e gc),ay (cG e VZ)]
  exact e
 refine⟨c,Fb,cu,hQ,aB.map V.int,[],rfl,aT,s2 _ _ (s1 _ _ aD),s2 _ _ aT,fun ce lo aq V2 De w_ bK=>⟨rfl,?_⟩⟩
 have fY:bY H aq:=fun b o e=>bK b o (s2 b o (s1 b o e)) (cG (s1 b o e) gc)
 have wQ:H c=none:=s1.free gc
 have D6:H ce=none:=(s1.trans s2).free V2
 have Dq:H lo=none:=(s1.trans s2).free De
 obtain⟨⟨dy,b5⟩,aJ,aQ,Dh⟩:=w_
 have jy:c≠h:=fun z=>by rw[z,du]at wQ;cases wQ
 have CQ:ce≠h:=fun z=>by rw[z,du]at D6;cases D6
 have CI:lo≠h:=fun z=>by rw[z,du]at Dq;cases Dq
 refine⟨_,rfl,h,au,dx,[],rfl,fY _ _ du,T.cl,T.sr,(by show 0<1000;decide),?_⟩
 have lz:∀b o,H b=some o→b≠h→(upd aq h (.ins au dx (dM "cellar" (.ref c) []))) b=some o:=fun b o e n=>by rw[ay n];exact fY b o e
 have p1:∀b,(upd aq h (.ins au dx (dM "cellar" (.ref c) []))) b=none→H b=none∧b≠h:=fun b e=>by
  have n:b≠h:=fun z=>by rw[z,aT]at e;cases e
  rw[ay n]at e
  exact⟨fY.free e,n⟩
 have cB:(upd aq h (.ins au dx (dM "cellar" (.ref c) []))) h=some (.ins au dx (dM "cellar" (.ref c) [])):=aT
 have KW:(upd aq h (.ins au dx (dM "cellar" (.ref c) []))) c=some (.ins aH dy (kF ce lo)):=by rw[ay jy];exact b5
 have rv:(upd aq h (.ins au dx (dM "cellar" (.ref c) []))) ce=some (.lst (aB.map V.int)):=by rw[ay CQ];exact aJ
 have ru:(upd aq h (.ins au dx (dM "cellar" (.ref c) []))) lo=some (.lst []):=by rw[ay CI];exact aQ
 generalize upd aq h (.ins au dx (dM "cellar" (.ref c) []))=a3 at lz p1 cB KW rv ru ⊢
 have WJ:cu≠h:=dv aD du (fun z=>nomatch z)
 refine⟨_,rfl,cu,_,rfl,.inl (aV.of (lz _ _ aD WJ)),fun ao rq=>?_⟩
 obtain⟨Xn,CB⟩:=p1 ao rq
 have CC:∀b o,a3 b=some o→b≠ao:=fun b o e=>cG e rq
 refine⟨_,rfl,h,au,dx,_,rfl,(by rw[ay CB.symm];exact cB),T.cl,T.nh,(le_of_ble_eq_true (by kernel_rfl)),?_⟩
 have vm:∀b o,a3 b=some o→b≠h→(upd (upd a3 ao (.lst (aB.map V.int))) h (.ins au dx (dM "desk" (.ref ao) (dM "cellar" (.ref c) [])))) b=some o:=fun b o e n=>by rw[ay n,ay (CC b o e)];exact e
 have zG:∀b,(upd (upd a3 ao (.lst (aB.map V.int))) h (.ins au dx (dM "desk" (.ref ao) (dM "cellar" (.ref c) [])))) b=none→a3 b=none∧b≠h:=fun b e=>by
  have n:b≠h:=fun z=>by rw[z,aT]at e;cases e
  rw[ay n]at e
  have c_:b≠ao:=fun z=>by rw[z,aT]at e;cases e
  rw[ay c_]at e
  exact⟨e,n⟩
 have dw:(upd (upd a3 ao (.lst (aB.map V.int))) h (.ins au dx (dM "desk" (.ref ao) (dM "cellar" (.ref c) [])))) h=some (.ins au dx (dM "desk" (.ref ao) (dM "cellar" (.ref c) []))):=aT
 have nG:(upd (upd a3 ao (.lst (aB.map V.int))) h (.ins au dx (dM "desk" (.ref ao) (dM "cellar" (.ref c) [])))) ao=some (.lst (aB.map V.int)):=by rw[ay CB,aT]
 have vg:=vm _ _ KW jy
 have nI:=vm _ _ rv CQ
 have nH:=vm _ _ ru CI
 have dF:ce≠ao:=CC _ _ rv
 have fj:lo≠ao:=CC _ _ ru
 have KL:∀b o,H b=some o→b≠h→_:=fun b o e n=>vm b o (lz b o e n) n
 generalize upd (upd a3 ao (.lst (aB.map V.int))) h (.ins au dx (dM "desk" (.ref ao) (dM "cellar" (.ref c) [])))=c6 at vm zG dw nG vg nI nH KL ⊢
 refine⟨_,rfl,_,rfl,h,au,dx,_,rfl,dw,T.cl,T.IA,(le_of_ble_eq_true (by kernel_rfl)),?_⟩
 refine⟨cX,fun st hb=>?_⟩
 have qY:st≠h:=fun z=>by rw[z,aT]at hb;cases hb
 rw[ay qY]at hb
 obtain⟨UA,_⟩:=zG st hb
 have VI:=(p1 st UA).1
 refine⟨_,rfl,h,au,dx,_,rfl,(by rw[ay qY.symm];exact aT),T.cl,T.GX,(le_of_ble_eq_true (by kernel_rfl)),?_⟩
 refine⟨_,rfl,h,au,dx,_,rfl,aT,T.cl,T.Bq,(le_of_ble_eq_true (by kernel_rfl)),?_⟩
 intro pu jw
 have qZ:pu≠h:=fun z=>by rw[z,aT]at jw;cases jw
 rw[ay qZ,ay qZ]at jw
 have Jw:pu≠st:=fun z=>by rw[z,aT]at jw;cases jw
 rw[ay Jw,ay qZ]at jw
 have VR:=(p1 pu (zG pu jw).1).1
 refine⟨_,rfl,h,au,dx,_,rfl,(by rw[ay qZ.symm];exact aT),T.cl,T.pG,(le_of_ble_eq_true (by kernel_rfl)),?_⟩
 intro bz i9
 have qW:bz≠h:=fun z=>by rw[z,aT]at i9;cases i9
 rw[ay qW]at i9
 have Cz:bz≠pu:=fun z=>by rw[z,aT]at i9;cases i9
 rw[ay Cz,ay qW,ay qW]at i9
 have Jv:bz≠st:=fun z=>by rw[z,aT]at i9;cases i9
 rw[ay Jv,ay qW]at i9
 have VE:=(p1 bz (zG bz i9).1).1
 refine⟨_,rfl,h,au,dx,_,rfl,(by rw[ay qW.symm];exact aT),T.cl,T.Bp,(le_of_ble_eq_true (by kernel_rfl)),?_⟩
 refine⟨_,rfl,h,au,dx,_,rfl,aT,T.cl,T.uC,(le_of_ble_eq_true (by kernel_rfl)),?_⟩
 rw[Sd]
 have fin:∀b o,c6 b=some o→b≠h→b≠st→b≠pu→b≠bz→∀bU b5 dr hu hi kg gS kT iD:eU,(upd (upd (upd (upd (upd (upd (upd (upd (upd c6 h bU) st b5) h dr) h hu) pu hi) h kg) bz gS) h kT) h iD) b=some o:=fun b o e k1 k2 k3 nU bU b5 dr hu hi kg gS kT iD=>by
  rw[ay k1,ay k1,ay nU,ay k1,ay k3,ay k1,ay k1,ay k2,ay k1]
  exact e
 have nn:∀b o,c6 b=some o→b≠st∧b≠pu∧b≠bz:=fun b o e=>⟨cG e hb,cG e jw,cG e i9⟩
 refine q ⟨h,c,ce,ao,pu,st,bz⟩ lo _ rfl (ck.init (dx:=dx) (dy:=dy) aT ?_ ?_ ?_ ?_ ?_ ?_ ?_ dF ?_ ?_ Dh.symm fj ?_ Cz jy) ?_ ?_
 ·exact fin _ _ vg jy (nn _ _ vg).1 (nn _ _ vg).2.1 (nn _ _ vg).2.2 _ _ _ _ _ _ _ _ _
 ·exact fin _ _ nI CQ (nn _ _ nI).1 (nn _ _ nI).2.1 (nn _ _ nI).2.2 _ _ _ _ _ _ _ _ _
 ·exact fin _ _ nH CI (nn _ _ nH).1 (nn _ _ nH).2.1 (nn _ _ nH).2.2 _ _ _ _ _ _ _ _ _
 ·exact fin _ _ nG CB (nn _ _ nG).1 (nn _ _ nG).2.1 (nn _ _ nG).2.2 _ _ _ _ _ _ _ _ _
 ·rw[ay qY,ay qY,ay Jv.symm,ay qY,ay Jw.symm,ay qY,ay qY,aT]
 ·rw[ay qZ,ay qZ,ay Cz.symm,ay qZ,aT]
 ·rw[ay qW,ay qW,aT]
 ·exact (nn _ _ nI).1
 ·exact (nn _ _ nG).1
 ·exact (nn _ _ nH).1
 ·intro b aa
  have zF:b∈[lo,c,bz,h,ce,ao,pu,st]:=aa
  simp only[mem_cons,not_mem_nil,or_false]at zF
  rcases zF with z | z | z | z | z | z | z | z
  ·rw[z];exact .inr Dq
  ·rw[z];exact .inr wQ
  ·rw[z];exact .inr VE
  ·rw[z];exact .inl rfl
  ·rw[z];exact .inr D6
  ·rw[z];exact .inr Xn
  ·rw[z];exact .inr VR
  ·rw[z];exact .inr VI
 ·intro b o e n
  have cC:=KL b o e n
  exact fin b o cC n (nn _ _ cC).1 (nn _ _ cC).2.1 (nn _ _ cC).2.2 _ _ _ _ _ _ _ _ _
theorem GS (x:aE) (d p k:Int):∃w,(x.bX (.put d p k)).2=.word w:=by
 rcases tV x (.put d p k) with ⟨i,h⟩ | h | h | h | h | h
 ·exfalso
  unfold aE.bX at h
  cases e:x.refusal (.put d p k) with
  | some w=>rw[e]at h;cases h
  | none =>
   rw[e]at h
   have h':(if (x.full 2).2=true then ((x.full 2).1,dn.word "no room") else ((((x.full 2).1.eo d p.toNat).putIn d p.toNat k),.word "done")).2=.num i:=h
   split at h' <;> cases h'
 all_goals exact⟨_,h⟩
theorem GC (x:aE) (d:Int):∃w,(x.bX (.drop d)).2=.word w:=by
 unfold aE.bX
 cases x.refusal (.drop d) with
 | some w=>exact⟨w,rfl⟩
 | none=>exact⟨_,rfl⟩
theorem UI:dE mB mB (cT Bk):=dS
theorem TX {aH au bJ bB bM bI:Addr}{o2:Addr}{qj:FuncData}{qe:Addr}{dL:FuncData}{gu:Addr}{g6:FuncData}{je:Addr}{kr:FuncData}{eB:Addr}{fx:FuncData}{hO:Addr}{iU:FuncData}{hN:Addr}{iT:FuncData}(F:bZ K "do_deed" "do_deed" Bk f fd) (T:hn K mg au) (tQ:a5 P w K mg base (c4 P w) 6 o2 qj iv (xR aH au bJ bB bM bI)) (tH:Binds K qj iv []) (nS:Meth K au "begin" o2)
  (r9:a5 P w K mg base (c4 P w) 2 qe dL fU (uu aH au bJ bB bM bI)) (r0:Binds K dL fU []) (rO:Meth K au "look" qe)
  (jQ:a5 P w K mg base (c4 P w) 6 gu g6 j1 (yp aH au bJ bB bM bI)) (jN:Binds K g6 j1 []) (hL:Meth K au "put" gu)
  (pa:a5 P w K mg base (c4 P w) 3 je kr gD (uH aH au bJ bB bM bI)) (o5:Binds K kr gD []) (mN:Meth K au "end" je)
  (gy:a5 P w K mg base (c4 P w) 4 eB fx gD (x6 aH au bJ bB bM bI)) (gx:Binds K fx gD []) (fH:Meth K au "drop" eB)
  (m9:a5 P w K mg base (c4 P w) 3 hO iU fU (ud aH au bB)) (m5:Binds K iU fU []) (mX:Meth K au "carry" hO)
  (l6:a5 P w K mg base b1 3 hN iT iv (uI aH au)) (l4:Binds K iT iv []) (lV:Meth K au "cut" hN):a5 P w K mg base (c4 P w) 7 f fd mB (qC aH au bJ bB bM bI):=by
 refine F.lC UI (fun vs H Q fZ h=>?_) (fun cg A outer s H vs Q fZ aI h=>?_)
 ·obtain⟨a,lo,pl,x,aA,n,v,e,rfl,_⟩:=h
  rfl
 obtain⟨a,lo,pl,x,aA,n,v,e,rfl,R,bD,aS,q⟩:=h
 have A:=R.rL
 obtain⟨dx,bU⟩:=A.bT
 refine⟨_,(bl (cO (cU d2 (bP cH (ah 1) aX (fun _ _=>rfl)) bg (cN _)) (aY (dc (so (ah 0) T.cl nS tQ (b6 aI) tH .nil (ha fun _ _ z=>z)))) dK) (bl (cO (cU d2 (bP cH (ah 1) aX (fun _ _=>rfl)) bg (cN _)) (aY (dc (fB (ah 0) T.cl rO r9 (b6 aI) r0 .nil (ha fun _ _ z=>z) (ak (bP cH (ah 1) aX (fun _ _=>rfl)) aK)))) dK) (bl (cO (cU d2 (bP cH (ah 1) aX (fun _ _=>rfl)) bg (cN _)) (aY (dD (fB (ah 0) T.cl hL jQ (b6 aI) jN .nil (ha fun _ _ z=>z) (ak (bP cH (ah 1) aX (fun _ _=>rfl)) (ak (bP cH (ah 1) aX (fun _ _=>rfl)) (ak (bP cH (ah 1) aX (fun _ _=>rfl)) aK)))))) (aY (cO (cU d2 (bP cH (ah 1) aX (fun _ _=>rfl)) bg (cN _)) (aY (dD (fB (ah 0) T.cl mN pa (b6 aI) o5 .nil (ha fun _ _ z=>z) (ak (bP cH (ah 1) aX (fun _ _=>rfl)) aK)))) (aY (cO (cU d2 (bP cH (ah 1) aX (fun _ _=>rfl)) bg (cN _)) (aY (dD (fB (ah 0) T.cl fH gy (b6 aI) gx .nil (ha fun _ _ z=>z) (ak (bP cH (ah 1) aX (fun _ _=>rfl)) aK)))) (aY (cO (cU d2 (bP cH (ah 1) aX (fun _ _=>rfl)) bg (cN _)) (aY (dD (fB (ah 0) T.cl mX m9 (b6 aI) m5 .nil (ha fun _ _ z=>z) (ak (bP cH (ah 1) aX (fun _ _=>rfl)) aK)))) (aY (cO (cU d2 (bP cH (ah 1) aX (fun _ _=>rfl)) bg (cN _)) (aY (dD (so (ah 0) T.cl lV l6 (b6 aI) l4 .nil cW))) dK))))))))) (aY (dc bg))))),?_⟩
 cases e with
 | begin =>
  obtain⟨c,b0,rfl,ai,bx⟩:=px bD
  cases bx.str_inv
  refine⟨_,rfl,c,_,_,_,rfl,rfl,aP.of ai,rfl,rfl,_,rfl,ei rfl ?_⟩
  refine⟨_,rfl,a.h,dx,_,rfl,bU,(by kernel_rfl),a,lo,pl,x,aA,n,rfl,R,fun lo' c3 c7 af d9 l m=>?_⟩
  have h:=q lo' c3 c7 af d9 l m
  have az:(x.bX .begin).2=if (x.began.full 1).2=true then dn.word "no room" else .num x.begun:=by
   show (if (x.began.full 1).2=true then ((x.began.full 1).1,dn.word "no room") else ((x.began.full 1).1.opened,.num x.begun)).2=_
   split <;> rfl
  rw[az]at h ⊢
  split at h
  ·rename_i z
   rw[if_pos z]
   exact n3.mpr (n3.mp h)
  ·rename_i z
   rw[if_neg z]
   exact h
 | look p =>
  obtain⟨c,b0,cM,rfl,ai,bx,b7⟩:=gk bD
  cases bx.str_inv
  cases b7.int_inv
  refine⟨_,rfl,c,_,_,_,rfl,rfl,aP.of ai,rfl,rfl,_,rfl,bH (by decide +kernel) ?_⟩
  refine⟨_,rfl,c,_,_,_,rfl,rfl,aP.of ai,rfl,rfl,_,rfl,ei rfl ?_⟩
  refine⟨_,rfl,a.h,dx,_,rfl,bU,(by kernel_rfl),_,rfl,c,_,_,_,rfl,rfl,aP.of ai,rfl,a,lo,pl,x,aA,n,p,rfl,R,aS,fun lo' c3 c7 af d9 l m=>?_⟩
  have h:=q lo' c3 c7 af d9 l m
  by_cases jL:p<0∨(x.aO.length:Int)≤p
  ·have az:=n1 (e:=.look p) (w:="no page") (if_pos jL)
   rw[az]at h ⊢
   exact l_.mpr (l_.mp h)
  ·have az:=l8 (x:=x) (e:=.look p) (if_neg jL)
   rw[az]at h ⊢
   exact h
 | put d p k =>
  obtain⟨c,b0,cM,g0,kN,rfl,ai,bx,b7,kR,mU⟩:=xD bD
  cases bx.str_inv
  cases b7.int_inv
  cases kR.int_inv
  cases mU.int_inv
  refine⟨_,rfl,c,_,_,_,rfl,rfl,aP.of ai,rfl,rfl,_,rfl,bH (by decide +kernel) ?_⟩
  refine⟨_,rfl,c,_,_,_,rfl,rfl,aP.of ai,rfl,rfl,_,rfl,bH (by decide +kernel) ?_⟩
  refine⟨_,rfl,c,_,_,_,rfl,rfl,aP.of ai,rfl,rfl,_,rfl,ei rfl ?_⟩
  refine⟨_,rfl,a.h,dx,_,rfl,bU,(by kernel_rfl),_,rfl,c,_,_,_,rfl,rfl,aP.of ai,rfl,_,rfl,c,_,_,_,rfl,rfl,aP.of ai,rfl,_,rfl,c,_,_,_,rfl,rfl,aP.of ai,rfl,a,lo,pl,x,aA,n,d,p,k,rfl,R,aS.1,aS.2,fun lo' c3 c7 af d9 l m=>?_⟩
  have h:=q lo' c3 c7 af d9 l m
  obtain⟨w,hw⟩:=GS x d p k
  rw[hw]at h ⊢
  exact h
 | fin d =>
  obtain⟨c,b0,cM,rfl,ai,bx,b7⟩:=gk bD
  cases bx.str_inv
  cases b7.int_inv
  refine⟨_,rfl,c,_,_,_,rfl,rfl,aP.of ai,rfl,rfl,_,rfl,bH (by decide +kernel) ?_⟩
  refine⟨_,rfl,c,_,_,_,rfl,rfl,aP.of ai,rfl,rfl,_,rfl,bH (by decide +kernel) ?_⟩
  refine⟨_,rfl,c,_,_,_,rfl,rfl,aP.of ai,rfl,rfl,_,rfl,bH (by decide +kernel) ?_⟩
  refine⟨_,rfl,c,_,_,_,rfl,rfl,aP.of ai,rfl,rfl,_,rfl,ei rfl ?_⟩
  refine⟨_,rfl,a.h,dx,_,rfl,bU,(by kernel_rfl),_,rfl,c,_,_,_,rfl,rfl,aP.of ai,rfl,a,lo,pl,x,aA,n,d,rfl,A,R.fits (by decide),aS,?_⟩
  have er:x.refusal (.fin d)=(if x.isOpen d=false then some ("no dealing":Str) else none):=rfl
  cases aF:x.isOpen d with
  | false =>
   rw[if_pos rfl]
   rw[aF,if_pos rfl]at er
   have az:=n1 er
   have h:=q lo pl aA H (by rw[az];exact A) (le_succ _) (dP.refl ..)
   rw[az]at h
   exact qw.mp h
  | true =>
   rw[if_neg (fun z=>nomatch z)]
   rw[aF,if_neg (fun z=>nomatch z)]at er
   have az:=l8 er
   intro lo' af d9 m
   have h:=q lo' _ aA af (by rw[az];exact d9) (le_succ _) m
   rw[az]at h
   exact nc.mp h
 | drop d =>
  obtain⟨c,b0,cM,rfl,ai,bx,b7⟩:=gk bD
  cases bx.str_inv
  cases b7.int_inv
  refine⟨_,rfl,c,_,_,_,rfl,rfl,aP.of ai,rfl,rfl,_,rfl,bH (by decide +kernel) ?_⟩
  refine⟨_,rfl,c,_,_,_,rfl,rfl,aP.of ai,rfl,rfl,_,rfl,bH (by decide +kernel) ?_⟩
  refine⟨_,rfl,c,_,_,_,rfl,rfl,aP.of ai,rfl,rfl,_,rfl,bH (by decide +kernel) ?_⟩
  refine⟨_,rfl,c,_,_,_,rfl,rfl,aP.of ai,rfl,rfl,_,rfl,bH (by decide +kernel) ?_⟩
  refine⟨_,rfl,c,_,_,_,rfl,rfl,aP.of ai,rfl,rfl,_,rfl,ei rfl ?_⟩
  refine⟨_,rfl,a.h,dx,_,rfl,bU,(by kernel_rfl),_,rfl,c,_,_,_,rfl,rfl,aP.of ai,rfl,a,lo,pl,x,aA,n,d,rfl,R,aS,fun lo' c3 c7 af d9 l m=>?_⟩
  have h:=q lo' c3 c7 af d9 l m
  obtain⟨w,hw⟩:=GC x d
  rw[hw]at h ⊢
  exact h
 | carry p =>
  obtain⟨c,b0,cM,rfl,ai,bx,b7⟩:=gk bD
  cases bx.str_inv
  cases b7.int_inv
  refine⟨_,rfl,c,_,_,_,rfl,rfl,aP.of ai,rfl,rfl,_,rfl,bH (by decide +kernel) ?_⟩
  refine⟨_,rfl,c,_,_,_,rfl,rfl,aP.of ai,rfl,rfl,_,rfl,bH (by decide +kernel) ?_⟩
  refine⟨_,rfl,c,_,_,_,rfl,rfl,aP.of ai,rfl,rfl,_,rfl,bH (by decide +kernel) ?_⟩
  refine⟨_,rfl,c,_,_,_,rfl,rfl,aP.of ai,rfl,rfl,_,rfl,bH (by decide +kernel) ?_⟩
  refine⟨_,rfl,c,_,_,_,rfl,rfl,aP.of ai,rfl,rfl,_,rfl,bH (by decide +kernel) ?_⟩
  refine⟨_,rfl,c,_,_,_,rfl,rfl,aP.of ai,rfl,rfl,_,rfl,ei rfl ?_⟩
  refine⟨_,rfl,a.h,dx,_,rfl,bU,(by kernel_rfl),_,rfl,c,_,_,_,rfl,rfl,aP.of ai,rfl,a,lo,pl,x,aA,p,rfl,A,aS,R.fits (by decide),?_⟩
  by_cases jL:p<0∨(x.aO.length:Int)≤p
  ·rw[if_pos jL]
   have az:=n1 (x:=x) (e:=.carry p) (w:="no page") (if_pos jL)
   have h:=q lo pl aA H (by rw[az];exact A) (le_succ _) (dP.refl ..)
   rw[az]at h
   exact l_.mp h
  ·rw[if_neg jL]
   have az:=l8 (x:=x) (e:=.carry p) (if_neg jL)
   intro lo' af d9 m
   have h:=q lo' pl aA af (by rw[az];exact d9) (le_succ _) m
   rw[az]at h
   exact nc.mp h
 | cut =>
  obtain⟨c,b0,rfl,ai,bx⟩:=px bD
  cases bx.str_inv
  refine⟨_,rfl,c,_,_,_,rfl,rfl,aP.of ai,rfl,rfl,_,rfl,bH (by decide +kernel) ?_⟩
  refine⟨_,rfl,c,_,_,_,rfl,rfl,aP.of ai,rfl,rfl,_,rfl,bH (by decide +kernel) ?_⟩
  refine⟨_,rfl,c,_,_,_,rfl,rfl,aP.of ai,rfl,rfl,_,rfl,bH (by decide +kernel) ?_⟩
  refine⟨_,rfl,c,_,_,_,rfl,rfl,aP.of ai,rfl,rfl,_,rfl,bH (by decide +kernel) ?_⟩
  refine⟨_,rfl,c,_,_,_,rfl,rfl,aP.of ai,rfl,rfl,_,rfl,bH (by decide +kernel) ?_⟩
  refine⟨_,rfl,c,_,_,_,rfl,rfl,aP.of ai,rfl,rfl,_,rfl,bH (by decide +kernel) ?_⟩
  refine⟨_,rfl,c,_,_,_,rfl,rfl,aP.of ai,rfl,rfl,_,rfl,ei rfl ?_⟩
  refine⟨_,rfl,a.h,dx,_,rfl,bU,(by kernel_rfl),a,lo,pl,x,aA,rfl,A,R.fits (by decide),R.vd,fun lo' af d9 m=>?_⟩
  have az:=l8 (x:=x) (e:=.cut) rfl
  have h:=q lo' pl aA af (by rw[az];exact d9) (le_succ _) m
  rw[az]at h
  exact nc.mp h
structure q8 (K:PySem.W.Frag) (mg:Str→Option Value) (bJ bB bM bI:Addr):Prop extends rC K mg bJ bB bM bI where
 mt:∀p∈[bJ,bB,bM,bI],∀q∈[bJ,bB,bM,bI],exmOne K (.ref p) (.ref q)=some (p == q)
 bk:[bJ,bB,bM,bI].Nodup
theorem Qs {K:PySem.W.Frag}{mg:Str→Option Value}{bJ bB bM bI:Addr}(X:q8 K mg bJ bB bM bI):∀p∈([(bJ,"no dealing"),(bB,"no page"),(bM,"taken"),(bI,"no room")]:List (Addr × Str)),∀q∈([(bJ,"no dealing"),(bB,"no page"),(bM,"taken"),(bI,"no room")]:List (Addr × Str)),exmOne K (.ref p.1) (.ref q.1)=some (p.1 == q.1):=fun p aD q bN=>by
 refine X.mt p.1 ?_ q.1 ?_
 ·have:=List.mem_map_of_mem (f:=(·.1)) aD
  exact this
 ·have:=List.mem_map_of_mem (f:=(·.1)) bN
  exact this
theorem Rw {K:PySem.W.Frag}{mg:Str→Option Value}{bJ bB bM bI:Addr}(X:q8 K mg bJ bB bM bI) {Q:ct}:∀(c:Value) (H:aj),((c=.ref bJ∧Q (.str "no dealing") H)∨(c=.ref bB∧Q (.str "no page") H)∨(c=.ref bM∧Q (.str "taken") H)∨(c=.ref bI∧Q (.str "no room") H)) →
  ∃C r,c=.ref C∧([(bJ,"no dealing"),(bB,"no page"),(bM,"taken"),(bI,"no room")]:List (Addr × Str)).lookup C=some r∧Q (.str r) H:=fun c H h=>by
 have bk:=X.bk
 simp only[nodup_cons,mem_cons,not_mem_nil,or_false,not_or,not_false_eq_true,nodup_nil,and_true]at bk
 obtain⟨⟨a1,a2,ks⟩,⟨en,fk⟩,b_⟩:=bk
 have gw:∀{x y:Addr},¬x=y→(y == x)=false:=fun h=>by simpa using fun z=>h z.symm
 rcases h with ⟨rfl,h⟩ | ⟨rfl,h⟩ | ⟨rfl,h⟩ | ⟨rfl,h⟩
 ·exact⟨bJ,_,rfl,by rw[lookup_cons,beq_self_eq_true],h⟩
 ·exact⟨bB,_,rfl,by rw[lookup_cons,gw a1,lookup_cons,beq_self_eq_true],h⟩
 ·exact⟨bM,_,rfl,by rw[lookup_cons,gw a2,lookup_cons,gw en,lookup_cons,beq_self_eq_true],h⟩
 ·exact⟨bI,_,rfl,by rw[lookup_cons,gw ks,lookup_cons,gw fk,lookup_cons,gw b_,lookup_cons,beq_self_eq_true],h⟩
theorem Sv:dE mB mB (cT xT):=dS
theorem Qa {aH au bJ bB bM bI:Addr}{eB:Addr}{fx:FuncData}(F:bZ K "answer" "answer" xT f fd) (X:q8 K mg bJ bB bM bI) (gy:a5 P w K mg base (c4 P w) 7 eB fx mB (qC aH au bJ bB bM bI)) (gx:Binds K fx mB []) (jd:keepIn K (.ref eB)=true) (fH:mg "do_deed"=some (.ref eB)):a5 P w K mg base b1 8 f fd mB (AY aH au):=by
 refine F.ok Sv (fun vs H Q E h=>?_) (fun cg A outer s H vs Q E aI h=>?_)
 ·obtain⟨a,lo,pl,x,aA,n,v,e,rfl,_⟩:=h
  rfl
 obtain⟨a,lo,pl,x,aA,n,v,e,rfl,R,bD,aS,q⟩:=h
 refine⟨_,(aY (SG (Q:=Q) (cs:=[(bJ,"no dealing"),(bB,"no page"),(bM,"taken"),(bI,"no room")]) (e0:=(fm b1 P w K mg base mB "answer" (cT xT) f cg A outer s H E).env) (outer:=outer) rfl rfl rfl (.cons X.fH rfl (by decide) (.cons X.hL rfl (by decide) (.cons X.ts rfl (by decide) (.cons X.lW rfl (by decide) .nil)))) (Qs X)
   (fun pp=>aY (dc (dj gy (b6 aI) rfl fH jd gx .nil (TP (E:=fun c _ H=>(c=.ref bJ∧Q (.str "no dealing") H)∨(c=.ref bB∧Q (.str "no page") H)∨(c=.ref bM∧Q (.str "taken") H)∨(c=.ref bI∧Q (.str "no room") H)) rfl rfl rfl (Rw X)) (ak (ah 0) (ak (ah 1) aK))))))),?_⟩
 refine⟨fun v H h=>h,?_⟩
 refine⟨_,rfl,_,rfl,a,lo,pl,x,aA,n,v,e,rfl,R,bD,aS,fun lo' c3 c7 af d9 l m=>?_⟩
 have h:=q lo' c3 c7 af d9 l m
 rcases tV x e with ⟨i,hw⟩ | hw | hw | hw | hw | hw
 ·rw[hw]at h ⊢;exact h
 ·rw[hw]at h ⊢;exact nc.mpr h
 ·rw[hw]at h ⊢;exact qw.mpr (.inl ⟨rfl,h⟩)
 ·rw[hw]at h ⊢;exact l_.mpr (.inr (.inl ⟨rfl,h⟩))
 ·rw[hw]at h ⊢;exact xx.mpr (.inr (.inr (.inl ⟨rfl,h⟩)))
 ·rw[hw]at h ⊢;exact n3.mpr (.inr (.inr (.inr ⟨rfl,h⟩)))
def Hq:dg:=fun vs H Q _=>∃(cl:Addr) (cs:List Int) (c:Int),vs=[.ref cl,.int c]∧H cl=some (.lst (cs.map V.int))∧cs.length≤63∧1≤c∧c≤40 ∧
 ∀(r:Addr) (us:List V) (aM:List cZ) (af:aj),bY H af→af r=some (.lst us)→bE af (aM.map cZ.D) us→aM.length≤63→(∀e∈aM,lA e)→Q (.ref r) af
def bd (i:Int):Prop := -(10000000000000000000000000000000000000000:Int)≤i∧i≤10000000000000000000000000000000000000000
theorem bd.cV {i:Int}(h:bd i):cV i:=by
 obtain⟨av,aC⟩:=h
 refine Gp (lt_of_le_of_lt (m:=10 ^ 40) (by have e:(10:Nat) ^ 40=10000000000000000000000000000000000000000:=(by decide);rw[e];omega) ?_)
 exact lt_of_lt_of_le (by decide:10 ^ 40<2 ^ 200) (Nat.pow_le_pow_right (by decide) (by decide))
theorem Nu:(10:Int) ^ (30:Int).toNat=1000000000000000000000000000000:=by decide +kernel
def uJ:List Str:=["begin","put","end","drop","look","carry","cut"]
def yx:List Str:=["begin","put","put","put","end","put","carry","put","drop","look","put","cut","end","put","begin","carry"]
theorem GI:∀w∈yx,w∈uJ:=by decide +kernel
def su (s:Stmt):List Stmt:=match s with
 | .For _ _ b _ _=>b
 | _=>[]
structure gz (dO H:aj) (cR cD cP bW:Addr) (us:List V) (aM:List cZ) (os vs:List Int) (b:Int) (k:Nat):Prop where
 cV:bY dO H
 hw:H cR=some (.lst (yx.map V.str))
 bf:H cD=some (.lst us)
 iQ:bE H (aM.map cZ.D) us
 ki:aM.length=k
 oS:∀e∈aM,lA e
 aF:H cP=some (.lst (os.map V.int))
 lo:os.length≤k
 rJ:∀o∈os,bd o
 bA:H bW=some (.lst (vs.map V.int))
 lv:vs.length≤k
 mR:∀o∈vs,bd o
 jf:0≤b
 en:b≤k
 fO:dO cD=none
 hP:dO cP=none
 fv:dO bW=none
 dF:cR≠cD
 c_:cR≠cP
 eb:cR≠bW
 eS:cD≠cP
 fj:cD≠bW
 fi:cP≠bW
section
variable {dO H af:aj}{cR cD cP bW:Addr}{us:List V}{aM:List cZ}{os vs:List Int}{b:Int}{k:Nat}
theorem gz.same (D:gz dO H cR cD cP bW us aM os vs b k) (s:bY H af):gz dO af cR cD cP bW us aM os vs b k :=
 ⟨D.cV.trans s,s _ _ D.hw,s _ _ D.bf,bE.mono s _ _ D.iQ,D.ki,D.oS,s _ _ D.aF,D.lo,D.rJ,s _ _ D.bA,D.lv,D.mR,D.jf,D.en,D.fO,D.hP,D.fv,D.dF,D.c_,D.eb,D.eS,D.fj,D.fi⟩
theorem gz.ask (D:gz dO H cR cD cP bW us aM os vs b k) {e:cZ}{v:V}(bA:Rep H e.D v) (aS:lA e):gz dO (upd H cD (.lst (us++[v]))) cR cD cP bW (us++[v]) (aM++[e]) os vs b (k+1):=by
 have kt:eX H (upd H cD (.lst (us++[v]))):=fun c ys q=>by
  rw[ay (dv q D.bf (fun z=>nomatch z))]
  exact q
 have cz:=D.lo
 have cY:=D.lv
 have nT:=D.en
 refine⟨D.cV.iZ D.fO,by rw[ay D.dF];exact D.hw,aT,?_,by rw[length_append,D.ki];rfl,fun dH he=>?_,by rw[ay D.eS.symm];exact D.aF,by omega,D.rJ,by rw[ay D.fj.symm];exact D.bA,by omega,D.mR,D.jf,by omega,D.fO,D.hP,D.fv,D.dF,D.c_,D.eb,D.eS,D.fj,D.fi⟩
 ·rw[map_append]
  exact (bE.keep kt _ _ (eH cZ.fR _) D.iQ).append (.cons (Rep.keep kt _ _ (cZ.fR _) bA) .nil)
 ·rcases mem_append.mp he with z | z
  ·exact D.oS dH z
  ·rw[mem_singleton.mp z];exact aS
theorem gz.UB (D:gz dO H cR cD cP bW us aM os vs b k) {os':List Int}(aG:os'.length≤k) (aS:∀o∈os',bd o):gz dO (upd H cP (.lst (os'.map V.int))) cR cD cP bW us aM os' vs b k:=by
 have kt:eX H (upd H cP (.lst (os'.map V.int))):=fun c ys q=>by
  rw[ay (dv q D.aF (fun z=>nomatch z))]
  exact q
 exact⟨D.cV.iZ D.hP,by rw[ay D.c_];exact D.hw,by rw[ay D.eS];exact D.bf,bE.keep kt _ _ (eH cZ.fR _) D.iQ,D.ki,D.oS,aT,aG,aS,by rw[ay D.fi.symm];exact D.bA,D.lv,D.mR,D.jf,D.en,D.fO,D.hP,D.fv,D.dF,D.c_,D.eb,D.eS,D.fj,D.fi⟩
theorem gz.Jg (D:gz dO H cR cD cP bW us aM os vs b k) {vs':List Int}(aG:vs'.length≤k) (aS:∀o∈vs',bd o):gz dO (upd H bW (.lst (vs'.map V.int))) cR cD cP bW us aM os vs' b k:=by
 have kt:eX H (upd H bW (.lst (vs'.map V.int))):=fun c ys q=>by
  rw[ay (dv q D.bA (fun z=>nomatch z))]
  exact q
 exact⟨D.cV.iZ D.fv,by rw[ay D.eb];exact D.hw,by rw[ay D.fj];exact D.bf,bE.keep kt _ _ (eH cZ.fR _) D.iQ,D.ki,D.oS,by rw[ay D.fi];exact D.aF,D.lo,D.rJ,aT,aG,aS,D.jf,D.en,D.fO,D.hP,D.fv,D.dF,D.c_,D.eb,D.eS,D.fj,D.fi⟩
theorem gz.U3 (D:gz dO H cR cD cP bW us aM os vs b k) {n:Addr}{os':List Int}(aN:H n=none) (aG:os'.length≤k) (aS:∀o∈os',bd o):gz dO (upd H n (.lst (os'.map V.int))) cR cD n bW us aM os' vs b k:=by
 have s:=b3 aN (.lst (os'.map V.int))
 have nw:cR≠n:=cG D.hw aN
 have na:cD≠n:=cG D.bf aN
 have wg:bW≠n:=cG D.bA aN
 exact⟨D.cV.trans s,s _ _ D.hw,s _ _ D.bf,bE.mono s _ _ D.iQ,D.ki,D.oS,aT,aG,aS,s _ _ D.bA,D.lv,D.mR,D.jf,D.en,D.fO,D.cV.free aN,D.fv,D.dF,nw,D.eb,na,D.fj,wg.symm⟩
theorem gz.begun (D:gz dO H cR cD cP bW us aM os vs b (k+1)) (h:b+1≤((k+1:Nat):Int)):gz dO H cR cD cP bW us aM os vs (b+1) (k+1) :=
 ⟨D.cV,D.hw,D.bf,D.iQ,D.ki,D.oS,D.aF,D.lo,D.rJ,D.bA,D.lv,D.mR,by have:=D.jf;omega,h,D.fO,D.hP,D.fv,D.dF,D.c_,D.eb,D.eS,D.fj,D.fi⟩
end
def sa (dO:aj) (cl:Addr) (c:Int) (cR cD bW:Addr) (k:Nat) (σ:St) (H:aj):Prop :=
 ∃(cP:Addr) (us:List V) (aM:List cZ) (os vs:List Int) (b:Int) (gS kT iD jt kH gZ f7 gp fT:Option V),σ=[some (.ref cl),some (.int c),some (.ref cR),some (.ref cD),some (.ref cP),some (.ref bW),some (.int b),gS,kT,iD,jt,kH,gZ,f7,gp,fT]∧gz dO H cR cD cP bW us aM os vs b k
def H_ (s:Stmt):List Stmt:=match s with
 | .If _ b _ _=>b
 | _=>[]
def B0 (s:Stmt):List Stmt:=match s with
 | .If _ _ b _=>b
 | _=>[]
theorem gX:dE q1 yL (cT jh):=dS
theorem Q8 {eB:Addr}{fx:FuncData}(F:bZ K "_law_deeds" "_law_deeds" jh f fd) (B:fc mg) (gy:a5 P w K mg base b1 1 eB fx uZ H3) (gx:Binds K fx uZ []) (jd:keepIn K (.ref eB)=true) (fH:mg "_law_draw"=some (.ref eB)) :
  a5 P w K mg base b1 2 f fd yL Hq:=by
 refine F.ok gX (fun vs H Q E h=>?_) (fun cg A outer s H vs Q E aI h=>?_)
 ·obtain⟨cl,cs,c,rfl,_⟩:=h
  rfl
 obtain⟨cl,cs,c,rfl,DJ,aaO,b_,dz,q⟩:=h
 have bp:=hp aI
 obtain⟨Zo,Vc,Jo⟩:∃t,f9 (fm b1 P w K mg base q1 "_law_deeds" (cT jh) f cg A outer s H E).lD ((H_ ((B0 ((su ((h1 jh).getD 6 (.Pass ⟨0,0,0,0⟩))).getD 10 (.Pass ⟨0,0,0,0⟩))).getD 0 (.Pass ⟨0,0,0,0⟩))).drop 2) t∧∀(D:Ends) (cR cD cP bW:Addr) (us:List V) (aM:List cZ) (os vs:List Int) (b:Int) (k:Nat) (gS iD jt f7:Option V) (r c1 p d m:Int) (H1:aj),
   gz H H1 cR cD cP bW us aM os vs b k→k<63→bd p→bd d→(∀bq af,sa H cl c cR cD bW (k+1) bq af→D.c9 bq af)→t D [some (.ref cl),some (.int c),some (.ref cR),some (.ref cD),some (.ref cP),some (.ref bW),some (.int b),gS,some (.int r),iD,jt,some (.int c1),some (.int p),f7,some (.int d),some (.int m)] H1:=by
  refine⟨_,(bl (cQ (i:=15) gX.bk rfl (Or.inl rfl) (bP ee (fC (ak (ah 15) (ak (ah 15) (ak (ah 11) (ak (c0 qM aX (ah 11)) aK))))) (dj gy (b6 aI) rfl fH jd gx .nil cW (ak (ah 8) (ak aX (ak aX aK)))) (fun _ _=>rfl))) (aY (dD (i2 plainAttrs_list PySem.F.slot_list_append PySem.F.type_list_append iY (ah 3) (ak (fQ (ak bg (ak (ah 14) (ak (ah 12) (ak (ah 15) aK))))) aK))))),?_⟩
  intro D cR cD cP bW us aM os vs b k gS iD jt f7 r c1 p d m H1 dA a4 nZ mL eZ
  have zl:us.length=aM.length:=by rw[bE.length dA.iQ,length_map]
  have ki:=dA.ki
  refine⟨_,rfl,_,rfl,_,rfl,_,rfl,_,_,rfl,rfl,cX,fun t bG=>?_⟩
  refine⟨_,rfl,_,_,_,rfl,by decide,by decide,fun z nN X7=>?_⟩
  obtain⟨y,b0,cM⟩:=ji (ns:=[m,m,c1,0 - c1]) (k:=z) nN X7
  have s1:=b3 bG (.lst [.int m,.int m,.int c1,.int (0 - c1)])
  have gj:=dA.same s1
  refine⟨t,_,_,_,rfl,rfl,aV.of aT,cM,?_⟩
  refine⟨_,rfl,.inl ⟨rfl,_,aV.of gj.bf⟩,_,rfl,_,rfl,_,rfl,cX,fun ek rg=>?_⟩
  have hB:=gj.same (b3 rg (.tup [.str "put",.int d,.int p,.int y]))
  refine⟨cD,us,.ref ek,rfl,rfl,hB.bf,n6 (by omega),eZ _ _ ?_⟩
  exact⟨cP,_,_,_,_,b,_,_,_,_,_,_,_,_,_,rfl,hB.ask (e:=.put d p y) (v:=.ref ek) (Rep.f3 aT (.cons .ofStr (.cons .ofInt (.cons .ofInt (.cons .ofInt .nil))))) ⟨mL.cV,nZ.cV⟩⟩
 obtain⟨Zn,Ud,yr⟩:∃t,f9 (fm b1 P w K mg base q1 "_law_deeds" (cT jh) f cg A outer s H E).lD ((H_ ((B0 ((B0 ((su ((h1 jh).getD 6 (.Pass ⟨0,0,0,0⟩))).getD 10 (.Pass ⟨0,0,0,0⟩))).getD 0 (.Pass ⟨0,0,0,0⟩))).getD 0 (.Pass ⟨0,0,0,0⟩))).drop 2) t∧∀(D:Ends) (cR cD cP bW:Addr) (us:List V) (aM:List cZ) (os vs:List Int) (b:Int) (k:Nat) (gS kT iD jt kH gZ f7 fT:Option V) (d:Int) (H1:aj),
   gz H H1 cR cD cP bW us aM os vs b k→k<100→(∀bq af,sa H cl c cR cD bW k bq af→D.c9 bq af)→t D [some (.ref cl),some (.int c),some (.ref cR),some (.ref cD),some (.ref cP),some (.ref bW),some (.int b),gS,kT,iD,jt,kH,gZ,f7,some (.int d),fT] H1:=by
  refine⟨_,(aY (QX (i:=4) [14] ["_law_one","_law_dealing"] gX.bk rfl rfl (jU.one (fv:="_law_dealing") (j:=14) rfl (by decide +kernel) (by decide +kernel) rfl (by decide +kernel) rfl rfl (by decide +kernel) rfl rfl rfl) rfl (pA (ah 4)) (fun C s1 H1 cj=>(cU kD (ah 0) (ah 1) (cN _))) (fun C s1 H1 cj=>(ah 0)))),?_⟩
  intro D cR cD cP bW us aM os vs b k gS kT iD jt kH gZ f7 fT d H1 dA a4 eZ
  have lo:=dA.lo
  refine⟨_,rfl,cP,rfl,⟨_,aV.of dA.aF⟩,fun n aN=>PV (K:=K) (fun z => !decide (V.int z=V.int d)) dA.aF aN (by omega) (fun z a3 oX ro=>⟨_,rfl,_,rfl,rfl,_,rfl,ro⟩) (fun z a3 oX ro=>⟨_,rfl,ro⟩) ?_⟩
  refine eZ _ _ ⟨n,_,_,_,_,b,_,_,_,_,_,_,_,_,_,rfl,dA.U3 aN (le_trans (length_filter_le ..) lo) fun o aF=>dA.rJ o (mem_filter.mp aF).1⟩
 obtain⟨Zz,Xg,C8⟩:∃t,f9 (fm b1 P w K mg base q1 "_law_deeds" (cT jh) f cg A outer s H E).lD ((su ((h1 jh).getD 6 (.Pass ⟨0,0,0,0⟩))).drop 10) t∧∀(D:Ends) (cR cD cP bW:Addr) (us:List V) (aM:List cZ) (os vs:List Int) (b:Int) (k:Nat) (gS jt f7 fT:Option V) (r:Int) (ww:Str) (c1 p d:Int) (H1:aj),
   gz H H1 cR cD cP bW us aM os vs b k→k<63→ww∈uJ→bd p→bd d→(∀bq af,sa H cl c cR cD bW (k+1) bq af→D.c9 bq af)→t D [some (.ref cl),some (.int c),some (.ref cR),some (.ref cD),some (.ref cP),some (.ref bW),some (.int b),gS,some (.int r),some (.str ww),jt,some (.int c1),some (.int p),f7,some (.int d),fT] H1:=by
  refine⟨_,(aY (cO (cU d2 (ah 9) bg (cN _)) (bl (dD (i2 plainAttrs_list PySem.F.slot_list_append PySem.F.type_list_append iY (ah 3) (ak (fQ (ak bg aK)) aK))) (bl (dD (i2 plainAttrs_list PySem.F.slot_list_append PySem.F.type_list_append iY (ah 4) (ak (ah 6) aK))) (aY (cQ (i:=6) gX.bk rfl (Or.inl rfl) (c0 gN (ah 6) aX))))) (aY (cO (cU d2 (ah 9) bg (cN _)) (bl (cQ (i:=15) gX.bk rfl (Or.inl rfl) (c0 qM (dj gy (b6 aI) rfl fH jd gx .nil cW (ak (ah 8) (ak aX (ak aX aK)))) aX)) (bl (cQ (i:=15) gX.bk rfl (Or.inl rfl) (bP ee (fC (ak (ah 15) (ak aX aK))) (hl ps rfl B.int oh (ak (pB yv (ah 15) aX (cN _)) aK)) (fun _ _=>rfl))) Vc)) (aY (cO (n8 (cU d2 (ah 9) bg (cN _)) (cU d2 (ah 9) bg (cN _))) (bl (dD (i2 plainAttrs_list PySem.F.slot_list_append PySem.F.type_list_append iY (ah 3) (ak (fQ (ak (ah 9) (ak (ah 14) aK))) aK))) (bl (cO (cU xy (ah 14) (ah 4) (by with_unfolding_all rfl)) (aY (dD (i2 plainAttrs_list PySem.F.slot_list_append PySem.F.type_list_append iY (ah 5) (ak (ah 14) aK)))) dK) Ud)) (aY (cO (cU d2 (ah 9) bg (cN _)) (aY (dD (i2 plainAttrs_list PySem.F.slot_list_append PySem.F.type_list_append iY (ah 3) (ak (fQ (ak bg aK)) aK)))) (aY (dD (i2 plainAttrs_list PySem.F.slot_list_append PySem.F.type_list_append iY (ah 3) (ak (fQ (ak (ah 9) (ak (ah 12) aK))) aK)))))))))))),?_⟩
  intro D cR cD cP bW us aM os vs b k gS jt f7 fT r ww c1 p d H1 dA a4 hw nZ mL eZ
  have zl:us.length=aM.length:=by rw[bE.length dA.iQ,length_map]
  have ki:=dA.ki
  have lo:=dA.lo
  have lv:=dA.lv
  have de:us.length<sizeLine:=n6 (by omega)
  have over:∀(D:Ends) (ww:Str) (e:cZ) (t:Addr),H1 t=none→Rep (upd H1 t (.tup [.str ww,.int d])) e.D (.ref t)→lA e→(∀bq af,sa H cl c cR cD bW (k+1) bq af→D.c9 bq af) →
    gz H (upd (upd H1 t (.tup [.str ww,.int d])) cD (.lst (us++[.ref t]))) cR cD cP bW (us++[.ref t]) (aM++[e]) os vs b (k+1):=fun D ww e t bG bA aS _=>(dA.same (b3 bG _)).ask bA aS
  simp only[uJ,mem_cons,not_mem_nil,or_false]at hw
  rcases hw with rfl | rfl | rfl | rfl | rfl | rfl | rfl
  ·
   refine⟨_,rfl,rfl,_,rfl,ei rfl ?_⟩
   refine⟨_,rfl,.inl ⟨rfl,_,aV.of dA.bf⟩,cX,fun t bG=>?_⟩
   have gj:=dA.same (b3 bG (.tup [.str "begin"]))
   refine⟨cD,us,.ref t,rfl,rfl,gj.bf,de,?_⟩
   have hB:=gj.ask (e:=.begin) (v:=.ref t) (Rep.f3 aT (.cons .ofStr .nil)) trivial
   have l7:=hB.UB (os':=os++[b]) (by rw[length_append,length_singleton];omega) (fun o aF=>by
    rcases mem_append.mp aF with z | z
    ·exact dA.rJ o z
    ·rw[mem_singleton.mp z]
     have:=dA.jf
     have:=dA.en
     exact⟨by omega,by omega⟩)
   refine⟨_,rfl,.inl ⟨rfl,_,aV.of hB.aF⟩,_,rfl,cP,_,.int b,rfl,rfl,hB.aF,n6 (by rw[length_map];omega),?_⟩
   have iF:os.map V.int++[.int b]=(os++[b]).map V.int:=by rw[map_append];rfl
   rw[iF]
   refine⟨_,rfl,_,_,rfl,rfl,eZ _ _ ?_⟩
   exact⟨cP,_,_,_,_,b+1,_,_,_,_,_,_,_,_,_,rfl,l7.begun (by have:=dA.en;omega)⟩
  ·
   refine⟨_,rfl,rfl,_,rfl,bH (by decide +kernel) ?_⟩
   refine⟨_,rfl,rfl,_,rfl,ei rfl ?_⟩
   refine⟨_,rfl,_,_,_,rfl,by decide,by decide,fun dT _ _=>⟨_,_,rfl,rfl,?_⟩⟩
   refine⟨_,rfl,cX,fun t1 ri=>?_⟩
   have gj:=dA.same (b3 ri (.lst [.int (dT - 20),.int 1000000000000]))
   refine⟨_,rfl,_,_,rfl,rfl,.inr ⟨_,rfl,HW aT ?_ ?_ _⟩⟩
   ·exact Jo D cR cD cP bW us aM os vs b k _ _ _ _ r c1 p d _ _ gj a4 nZ mL eZ
   ·exact Jo D cR cD cP bW us aM os vs b k _ _ _ _ r c1 p d _ _ gj a4 nZ mL eZ
  ·
   refine⟨_,rfl,rfl,_,rfl,bH (by decide +kernel) ?_⟩
   refine⟨_,rfl,rfl,_,rfl,bH (by decide +kernel) ?_⟩
   refine⟨_,rfl,rfl,_,rfl,ei rfl (eY ?_)⟩
   refine⟨_,rfl,.inl ⟨rfl,_,aV.of dA.bf⟩,_,rfl,_,rfl,cX,fun t bG=>?_⟩
   have hB:=over D "end" (.fin d) t bG (Rep.f3 aT (.cons .ofStr (.cons .ofInt .nil))) mL.cV eZ
   refine⟨cD,us,.ref t,rfl,rfl,(dA.same (b3 bG _)).bf,de,?_⟩
   refine⟨_,rfl,_,rfl,cP,_,rfl,.inl (aV.of hB.aF),rfl,GB os,_,rfl,fE (fun _=>?_) (fun _=>?_)⟩
   ·refine⟨_,rfl,.inl ⟨rfl,_,aV.of hB.bA⟩,_,rfl,bW,_,.int d,rfl,rfl,hB.bA,n6 (by rw[length_map];omega),?_⟩
    have iF:vs.map V.int++[.int d]=(vs++[d]).map V.int:=by rw[map_append];rfl
    rw[iF]
    have l7:=hB.Jg (vs':=vs++[d]) (by rw[length_append,length_singleton];omega) (fun o aF=>by
     rcases mem_append.mp aF with z | z
     ·exact dA.mR o z
     ·rw[mem_singleton.mp z];exact mL)
    exact yr D cR cD cP bW _ _ _ _ b (k+1) _ _ _ _ _ _ _ _ d _ l7 (by omega) eZ
   ·exact yr D cR cD cP bW _ _ _ _ b (k+1) _ _ _ _ _ _ _ _ d _ hB (by omega) eZ
  ·
   refine⟨_,rfl,rfl,_,rfl,bH (by decide +kernel) ?_⟩
   refine⟨_,rfl,rfl,_,rfl,bH (by decide +kernel) ?_⟩
   refine⟨_,rfl,rfl,_,rfl,bH (by decide +kernel) ?_⟩
   refine⟨_,rfl,rfl,_,rfl,ei rfl ?_⟩
   refine⟨_,rfl,.inl ⟨rfl,_,aV.of dA.bf⟩,_,rfl,_,rfl,cX,fun t bG=>?_⟩
   have hB:=over D "drop" (.drop d) t bG (Rep.f3 aT (.cons .ofStr (.cons .ofInt .nil))) mL.cV eZ
   refine⟨cD,us,.ref t,rfl,rfl,(dA.same (b3 bG _)).bf,de,?_⟩
   refine⟨_,rfl,_,rfl,cP,_,rfl,.inl (aV.of hB.aF),rfl,GB os,_,rfl,fE (fun _=>?_) (fun _=>?_)⟩
   ·refine⟨_,rfl,.inl ⟨rfl,_,aV.of hB.bA⟩,_,rfl,bW,_,.int d,rfl,rfl,hB.bA,n6 (by rw[length_map];omega),?_⟩
    have iF:vs.map V.int++[.int d]=(vs++[d]).map V.int:=by rw[map_append];rfl
    rw[iF]
    have l7:=hB.Jg (vs':=vs++[d]) (by rw[length_append,length_singleton];omega) (fun o aF=>by
     rcases mem_append.mp aF with z | z
     ·exact dA.mR o z
     ·rw[mem_singleton.mp z];exact mL)
    exact yr D cR cD cP bW _ _ _ _ b (k+1) _ _ _ _ _ _ _ _ d _ l7 (by omega) eZ
   ·exact yr D cR cD cP bW _ _ _ _ b (k+1) _ _ _ _ _ _ _ _ d _ hB (by omega) eZ
  ·
   refine⟨_,rfl,rfl,_,rfl,bH (by decide +kernel) ?_⟩
   refine⟨_,rfl,rfl,_,rfl,bH (by decide +kernel) ?_⟩
   refine⟨_,rfl,rfl,_,rfl,bH (by decide +kernel) ?_⟩
   refine⟨_,rfl,rfl,_,rfl,bH (by decide +kernel) ?_⟩
   refine⟨_,rfl,rfl,_,rfl,bH (by decide +kernel) ?_⟩
   refine⟨_,rfl,.inl ⟨rfl,_,aV.of dA.bf⟩,_,rfl,_,rfl,cX,fun t bG=>?_⟩
   have gj:=dA.same (b3 bG (.tup [.str "look",.int p]))
   refine⟨cD,us,.ref t,rfl,rfl,gj.bf,de,eZ _ _ ?_⟩
   exact⟨cP,_,_,_,_,b,_,_,_,_,_,_,_,_,_,rfl,gj.ask (e:=.look p) (v:=.ref t) (Rep.f3 aT (.cons .ofStr (.cons .ofInt .nil))) nZ.cV⟩
  ·
   refine⟨_,rfl,rfl,_,rfl,bH (by decide +kernel) ?_⟩
   refine⟨_,rfl,rfl,_,rfl,bH (by decide +kernel) ?_⟩
   refine⟨_,rfl,rfl,_,rfl,bH (by decide +kernel) ?_⟩
   refine⟨_,rfl,rfl,_,rfl,bH (by decide +kernel) ?_⟩
   refine⟨_,rfl,rfl,_,rfl,bH (by decide +kernel) ?_⟩
   refine⟨_,rfl,.inl ⟨rfl,_,aV.of dA.bf⟩,_,rfl,_,rfl,cX,fun t bG=>?_⟩
   have gj:=dA.same (b3 bG (.tup [.str "carry",.int p]))
   refine⟨cD,us,.ref t,rfl,rfl,gj.bf,de,eZ _ _ ?_⟩
   exact⟨cP,_,_,_,_,b,_,_,_,_,_,_,_,_,_,rfl,gj.ask (e:=.carry p) (v:=.ref t) (Rep.f3 aT (.cons .ofStr (.cons .ofInt .nil))) nZ.cV⟩
  ·
   refine⟨_,rfl,rfl,_,rfl,bH (by decide +kernel) ?_⟩
   refine⟨_,rfl,rfl,_,rfl,bH (by decide +kernel) ?_⟩
   refine⟨_,rfl,rfl,_,rfl,bH (by decide +kernel) ?_⟩
   refine⟨_,rfl,rfl,_,rfl,bH (by decide +kernel) ?_⟩
   refine⟨_,rfl,rfl,_,rfl,ei rfl ?_⟩
   refine⟨_,rfl,.inl ⟨rfl,_,aV.of dA.bf⟩,cX,fun t bG=>?_⟩
   have gj:=dA.same (b3 bG (.tup [.str "cut"]))
   refine⟨cD,us,.ref t,rfl,rfl,gj.bf,de,eZ _ _ ?_⟩
   exact⟨cP,_,_,_,_,b,_,_,_,_,_,_,_,_,_,rfl,gj.ask (e:=.cut) (v:=.ref t) (Rep.f3 aT (.cons .ofStr .nil)) trivial⟩
 obtain⟨Od,E0,mV⟩:∃t,f9 (fm b1 P w K mg base q1 "_law_deeds" (cT jh) f cg A outer s H E).lD ((su ((h1 jh).getD 6 (.Pass ⟨0,0,0,0⟩))).drop 7) t∧∀(D:Ends) (cR cD cP bW:Addr) (us:List V) (aM:List cZ) (os vs:List Int) (b:Int) (k:Nat) (gS f7 gp fT:Option V) (r:Int) (ww:Str) (e7 c1 p:Int) (H1:aj),
   gz H H1 cR cD cP bW us aM os vs b k→k<63→ww∈uJ→bd p→0≤c1→c1<1000000000000000000000000000000→(∀bq af,sa H cl c cR cD bW (k+1) bq af→D.c9 bq af)→t D [some (.ref cl),some (.int c),some (.ref cR),some (.ref cD),some (.ref cP),some (.ref bW),some (.int b),gS,some (.int r),some (.str ww),some (.int e7),some (.int c1),some (.int p),f7,gp,fT] H1:=by
  refine⟨_,(bl (cQ (i:=13) gX.bk rfl (Or.inl rfl) (c0 yf (fC (ak (ah 6) (ak (sF sy aX) (ak (c0 gN (c0 gN (ah 6) aX) (ah 11)) (ak (c0 qM (sF sy aX) (ah 11)) aK))))) (ah 5))) (bl (cQ (i:=14) gX.bk rfl (Or.inr rfl) (bP ee (ah 13) (dj gy (b6 aI) rfl fH jd gx .nil cW (ak (ah 8) (ak aX (ak (eV hX rfl B.len PySem.boot_len (ak (ah 13) aK)) aK)))) (fun _ _=>rfl))) (bl (cO (qG (cU (GV (Nat.lt_of_succ_lt bp)) (ah 4) (fC aK) (cN _)) (cU kD (c0 ih (ah 10) aX) aX (cN _))) (aY (cQ (i:=14) gX.bk rfl (Or.inr rfl) (bP ee (ah 4) (dj gy (b6 aI) rfl fH jd gx .nil cW (ak (ah 8) (ak aX (ak (eV hX rfl B.len PySem.boot_len (ak (ah 4) aK)) aK)))) (fun _ _=>rfl)))) dK) Xg))),?_⟩
  intro D cR cD cP bW us aM os vs b k gS f7 gp fT r ww e7 c1 p H1 dA a4 hw nZ f0 f1 eZ
  have lo:=dA.lo
  have lv:=dA.lv
  have Z0:=dA.jf
  have DM:=dA.en
  refine⟨_,rfl,_,rfl,_,rfl,_,_,rfl,rfl,_,rfl,_,_,rfl,rfl,_,rfl,_,rfl,_,_,rfl,rfl,cX,fun t bG=>?_⟩
  have s1:=b3 bG (.lst [.int b,.int (-1),.int (b+1+c1),.int (-2 - c1)])
  have gj:=dA.same s1
  refine⟨_,rfl,t,bW,_,_,rfl,rfl,aT,gj.bA,le_of_lt (n6 (by rw[length_map];show 4+vs.length≤2000;omega)),fun u zv=>?_⟩
  have hQ:[V.int b,.int (-1),.int (b+1+c1),.int (-2 - c1)]++vs.map V.int=(b :: -1::(b+1+c1)::(-2 - c1)::vs).map V.int:=rfl
  rw[hQ]
  have s2:=b3 zv (.lst ((b :: -1::(b+1+c1)::(-2 - c1)::vs).map V.int))
  have hB:=gj.same s2
  have kX:(upd (upd H1 t (.lst [.int b,.int (-1),.int (b+1+c1),.int (-2 - c1)])) u (.lst ((b :: -1::(b+1+c1)::(-2 - c1)::vs).map V.int))) u=some (.lst ((b :: -1::(b+1+c1)::(-2 - c1)::vs).map V.int)):=aT
  generalize upd (upd H1 t (.lst [.int b,.int (-1),.int (b+1+c1),.int (-2 - c1)])) u (.lst ((b :: -1::(b+1+c1)::(-2 - c1)::vs).map V.int))=aq at hB kX ⊢
  have sP:∀o∈(b :: -1::(b+1+c1)::(-2 - c1)::vs),bd o:=fun o aF=>by
   simp only[mem_cons]at aF
   rcases aF with z | z | z | z | z
   ·rw[z];exact⟨by omega,by omega⟩
   ·rw[z];exact⟨by omega,by omega⟩
   ·rw[z];exact⟨by omega,by omega⟩
   ·rw[z];exact⟨by omega,by omega⟩
   ·exact dA.mR o z
  have WC:0<(b :: -1::(b+1+c1)::(-2 - c1)::vs).length:=Nat.succ_pos _
  generalize (b :: -1::(b+1+c1)::(-2 - c1)::vs)=ss at kX sP WC ⊢
  refine⟨_,rfl,_,rfl,_,rfl,u,_,rfl,.inl (aV.of kX),_,_,_,rfl,by decide,?_,fun z nN dT=>?_⟩
  ·rw[length_map];omega
  obtain⟨dd,b0,cM⟩:=ji (ns:=ss) (k:=z) nN (by rw[length_map]at dT;exact dT)
  have mL:bd dd:=sP dd (mem_of_getElem? b0)
  refine⟨u,_,_,_,rfl,rfl,aV.of kX,cM,?_⟩
  refine⟨_,rfl,cX,fun e he=>?_⟩
  have l7:=hB.same (b3 he (.lst []))
  refine⟨cP,e,_,rfl,rfl,l7.aF,aT,_,rfl,fE (fun ce=>?_) (fun ce=>?_)⟩
  ·refine⟨_,rfl,_,_,rfl,rfl,(by decide:(0:Int)<11),rfl,_,rfl,fE (fun _=>?_) (fun _=>?_)⟩
   ·refine⟨_,rfl,_,rfl,_,rfl,cP,_,rfl,.inl (aV.of l7.aF),_,_,_,rfl,by decide,?_,fun z nN dT=>?_⟩
    ·rw[length_map]
     cases os with
     | nil=>cases ce
     | cons o r=>rw[length_cons];omega
    obtain⟨eF,fe,eL⟩:=ji (ns:=os) (k:=z) nN (by rw[length_map]at dT;exact dT)
    refine⟨cP,_,_,_,rfl,rfl,aV.of l7.aF,eL,?_⟩
    exact C8 D cR cD cP bW us aM os vs b k _ _ _ _ r ww c1 p eF _ l7 a4 hw nZ (dA.rJ eF (mem_of_getElem? fe)) eZ
   ·exact C8 D cR cD cP bW us aM os vs b k _ _ _ _ r ww c1 p dd _ l7 a4 hw nZ mL eZ
  ·refine dQ ?_
   exact C8 D cR cD cP bW us aM os vs b k _ _ _ _ r ww c1 p dd _ l7 a4 hw nZ mL eZ
 obtain⟨t3,cB,fp⟩:∃t,f9 (fm b1 P w K mg base q1 "_law_deeds" (cT jh) f cg A outer s H E).lD ((su ((h1 jh).getD 6 (.Pass ⟨0,0,0,0⟩))).drop 3) t∧∀(D:Ends) (cR cD cP bW:Addr) (us:List V) (aM:List cZ) (os vs:List Int) (b:Int) (k:Nat) (jt kH gZ f7 gp fT:Option V) (r:Int) (ww:Str) (H1:aj),
   gz H H1 cR cD cP bW us aM os vs b k→k<cs.length→ww∈uJ→(∀bq af,sa H cl c cR cD bW (k+1) bq af→D.c9 bq af)→t D [some (.ref cl),some (.int c),some (.ref cR),some (.ref cD),some (.ref cP),some (.ref bW),some (.int b),some (.int ((k:Nat):Int)),some (.int r),some (.str ww),jt,kH,gZ,f7,gp,fT] H1:=by
  refine⟨_,(bl (cQ (i:=10) gX.bk rfl (Or.inl rfl) (dj gy (b6 aI) rfl fH jd gx .nil cW (ak (ah 8) (ak aX (ak aX aK))))) (bl (cQ (i:=11) gX.bk rfl (Or.inl rfl) (c0 ih (bP ee (ah 0) (ah 7) (fun _ _=>rfl)) (c0 yd aX aX))) (bl (cQ (i:=12) gX.bk rfl (Or.inl rfl) (dj gy (b6 aI) rfl fH jd gx .nil cW (ak (ah 8) (ak aX (ak (ah 1) aK))))) (bl (cO (cU d2 (c0 ih (ah 10) aX) aX (cN _)) (aY (cQ (i:=12) gX.bk rfl (Or.inl rfl) (bP ee (fC (ak (sF sy aX) (ak (ah 1) (ak (c0 qM (sF sy aX) (ah 11)) (ak (c0 gN (ah 1) (ah 11)) aK))))) (c0 uh (ah 10) aX) (fun _ _=>rfl)))) dK) E0)))),?_⟩
  intro D cR cD cP bW us aM os vs b k jt kH gZ f7 gp fT r ww H1 dA a4 hw eZ
  obtain⟨z,YY,Aj⟩:=ji (ns:=cs) (k:=((k:Nat):Int)) (by omega) (by omega)
  have yZ:=dA.cV _ _ DJ
  refine⟨_,rfl,_,_,_,rfl,by decide,by decide,fun e7 o0 bU=>?_⟩
  refine⟨_,rfl,_,rfl,cl,_,_,_,rfl,rfl,aV.of yZ,Aj,_,_,rfl,rfl,⟨by decide,by decide,by decide⟩,_,_,rfl,rfl,(show (0:Int)<10 ^ (30:Int).toNat by decide),?_⟩
  have f0:0≤z % (10:Int) ^ (30:Int).toNat:=Int.emod_nonneg _ (by rw[Nu];decide)
  have f1:z % (10:Int) ^ (30:Int).toNat<1000000000000000000000000000000:=by
   have:=Int.emod_lt_of_pos z (show (0:Int)<10 ^ (30:Int).toNat by decide)
   rw[Nu]at this ⊢
   exact this
  dsimp only
  generalize z % (10:Int) ^ (30:Int).toNat=c1 at f0 f1 ⊢
  refine⟨_,rfl,_,rfl,_,_,_,rfl,by decide,by omega,fun cu rN cp=>?_⟩
  refine⟨_,rfl,_,_,rfl,rfl,(by decide:(0:Int)<11),rfl,_,rfl,fE (fun _=>?_) (fun _=>?_)⟩
  ·refine⟨_,rfl,_,rfl,_,rfl,_,rfl,_,_,rfl,rfl,_,rfl,_,rfl,_,_,rfl,rfl,cX,fun t bG=>?_⟩
   have gj:=dA.same (b3 bG (.lst [.int (-1),.int c,.int (-1 - c1),.int (c+c1)]))
   refine⟨_,rfl,_,_,rfl,rfl,⟨by decide,by decide⟩,?_⟩
   obtain⟨y,b0,cM⟩:=ji (ns:=[-1,c, -1 - c1,c+c1]) (k:=e7 / 11) (by omega) (by show _<(4:Int);omega)
   refine⟨t,_,_,_,rfl,rfl,aV.of aT,cM,?_⟩
   refine mV D cR cD cP bW us aM os vs b k _ _ _ _ r ww e7 c1 y _ gj (by omega) hw ?_ f0 f1 eZ
   have N9:=mem_of_getElem? b0
   simp only[mem_cons,not_mem_nil,or_false]at N9
   rcases N9 with z | z | z | z
   all_goals (rw[z];exact⟨by omega,by omega⟩)
  ·exact mV D cR cD cP bW us aM os vs b k _ _ _ _ r ww e7 c1 cu _ dA (by omega) hw ⟨by omega,by omega⟩ f0 f1 eZ
 obtain⟨ek,aC,aU⟩:∃t,f9 (fm b1 P w K mg base q1 "_law_deeds" (cT jh) f cg A outer s H E).lD ((h1 jh).drop 2) t∧∀(cR:Addr) (H1:aj),bY H H1→H1 cR=some (.lst (yx.map V.str)) →
   t { c9:=fun _ aq=>Q .cc aq,j9:=Q } [some (.ref cl),some (.int c),some (.ref cR),none,none,none,none,none,none,none,none,none,none,none,none,none] H1:=by
  refine⟨_,(bl (cQ (i:=3) gX.bk rfl (Or.inl rfl) (fC aK)) (bl (cQ (i:=4) gX.bk rfl (Or.inl rfl) (fC aK)) (bl (cQ (i:=5) gX.bk rfl (Or.inl rfl) (fC aK)) (bl (cQ (i:=6) gX.bk rfl (Or.inl rfl) aX) (bl (kC PassesOwn.never rfl (pn rfl B.kG (ak (eV hX rfl B.len PySem.boot_len (ak (ah 0) aK)) aK)) (hY (i:=7) gX.bk rfl (Or.inl rfl)) (bl (cQ (i:=8) gX.bk rfl (Or.inl rfl) (c0 gN (bP ee (ah 0) (ah 7) (fun _ _=>rfl)) (c0 ye aX (ah 7)))) (bl (cQ (i:=9) gX.bk rfl (Or.inl rfl) (bP ee (ah 2) (c0 ih (c0 gN (bP ee (ah 0) (ah 7) (fun _ _=>rfl)) (c0 ye aX (ah 7))) aX) (fun _ _=>rfl))) (bl (cO (qG (cU (QZ (Nat.lt_of_succ_lt bp)) (ah 4) (fC aK) (cN _)) (cU yu (c0 ih (ah 7) aX) aX (cN _))) (aY (cQ (i:=9) gX.bk rfl (Or.inl rfl) bg)) dK) cB)))) (aY (dc (ah 3)))))))),?_⟩
  intro cR H1 s1 ko
  refine⟨cX,fun cD DN=>?_⟩
  have s2:=b3 DN (.lst [])
  have na:cR≠cD:=cG ko DN
  have az:(upd H1 cD (.lst [])) cD=some (.lst []):=aT
  generalize upd H1 cD (.lst [])=aq at s2 az ⊢
  refine⟨cX,fun cP zz=>?_⟩
  have s3:=b3 zz (.lst [])
  have no:cR≠cP:=cG (s2 _ _ ko) zz
  have V6:cD≠cP:=cG az zz
  have iF:(upd aq cP (.lst [])) cP=some (.lst []):=aT
  generalize upd aq cP (.lst [])=a3 at s3 iF ⊢
  refine⟨cX,fun bW vC=>?_⟩
  have s4:=b3 vC (.lst [])
  have wg:cR≠bW:=cG (s3 _ _ (s2 _ _ ko)) vC
  have V5:cD≠bW:=cG (s3 _ _ az) vC
  have VW:cP≠bW:=cG iF vC
  have ev:(upd a3 bW (.lst [])) bW=some (.lst []):=aT
  generalize upd a3 bW (.lst [])=c6 at s4 ev ⊢
  have o8:=s1.trans (s2.trans (s3.trans s4))
  have Fy:gz H c6 cR cD cP bW [] [] [] [] 0 0:=⟨o8,(s2.trans (s3.trans s4)) _ _ ko,(s3.trans s4) _ _ az,.nil,rfl,(fun e he=>by cases he),s4 _ _ iF,le_refl _,(fun o aF=>by cases aF),ev,le_refl _,(fun o aF=>by cases aF),Int.le_refl _,Int.le_refl _,s1.free DN,(s1.trans s2).free zz,(s1.trans (s2.trans s3)).free vC,na,no,wg,V6,V5,VW⟩
  have lcs:(cs.map V.int).length=cs.length:=length_map _
  refine⟨_,rfl,cl,_,rfl,.inl (aV.of (o8 _ _ DJ)),_,rfl,by omega,by omega,sk (sa H cl c cR cD bW) ⟨cP,[],[],[],[],0,none,none,none,none,none,none,none,none,none,rfl,Fy⟩ ?_ ?_⟩
  ·rintro i σ e_ aW ⟨vf,us,aM,os,vs,b,gS,kT,iD,jt,kH,gZ,f7,gp,fT,rfl,dA⟩
   have j2:i<cs.length:=by omega
   have e0:(0:Int)+(i:Int)=((i:Nat):Int):=by omega
   rw[e0]
   obtain⟨z,YY,Aj⟩:=ji (ns:=cs) (k:=((i:Nat):Int)) (by omega) (by omega)
   have yZ:=dA.cV _ _ DJ
   refine⟨_,rfl,_,rfl,cl,_,_,_,rfl,rfl,aV.of yZ,Aj,_,rfl,_,_,rfl,rfl,.inl ⟨by decide,by decide⟩,_,_,rfl,rfl,?_⟩
   refine⟨_,rfl,_,rfl,_,rfl,cl,_,_,_,rfl,rfl,aV.of yZ,Aj,_,rfl,_,_,rfl,rfl,.inl ⟨by decide,by decide⟩,_,_,rfl,rfl,_,_,rfl,rfl,(by decide:(0:Int)<16),?_⟩
   obtain⟨v,v1,v2⟩:=B3 (xs:=yx.map V.str) (k:=(z+5 * ((i:Nat):Int)) % 16) (by omega) (by show _<(16:Int);omega)
   obtain⟨ww,Mj,rfl⟩:=mem_map.mp (mem_of_getElem? v2)
   refine⟨cR,_,_,_,rfl,rfl,aV.of dA.hw,v1,?_⟩
   refine⟨_,rfl,cX,fun e he=>?_⟩
   have gj:=dA.same (b3 he (.lst []))
   refine⟨vf,e,_,rfl,rfl,gj.aF,aT,_,rfl,fE (fun _=>?_) (fun _=>?_)⟩
   ·refine⟨_,rfl,_,_,rfl,rfl,(by decide:(0:Int)<4),_,_,rfl,rfl,_,rfl,fE (fun _=>?_) (fun _=>?_)⟩
    ·exact fp _ cR cD vf bW us aM os vs b i _ _ _ _ _ _ _ "begin" _ gj j2 (by decide +kernel) fun bq af h=>h
    ·exact fp _ cR cD vf bW us aM os vs b i _ _ _ _ _ _ _ ww _ gj j2 (GI ww Mj) fun bq af h=>h
   ·refine dQ ?_
    exact fp _ cR cD vf bW us aM os vs b i _ _ _ _ _ _ _ ww _ gj j2 (GI ww Mj) fun bq af h=>h
  ·rintro σ e_ ⟨vf,us,aM,os,vs,b,gS,kT,iD,jt,kH,gZ,f7,gp,fT,rfl,dA⟩
   exact⟨_,rfl,q cD us aM e_ dA.cV dA.bf dA.iQ (by rw[dA.ki];omega) dA.oS⟩
 refine⟨_,bl (cQ (i:=2) gX.bk rfl (Or.inl rfl) (fC (ak bg (ak bg (ak bg (ak bg (ak bg (ak bg (ak bg (ak bg aK)))))))))) (bl (cQ (i:=2) gX.bk rfl (Or.inl rfl) (c0 yf (ah 2) (fC (ak bg (ak bg (ak bg (ak bg (ak bg (ak bg (ak bg (ak bg aK))))))))))) aC),?_⟩
 refine⟨cX,fun fe Wx=>⟨_,rfl,cX,fun eL s6=>?_⟩⟩
 have s1:=b3 Wx (.lst ([V.str "begin",V.str "put",V.str "put",V.str "put",V.str "end",V.str "put",V.str "carry",V.str "put"]))
 have s2:=b3 s6 (.lst ([V.str "drop",V.str "look",V.str "put",V.str "cut",V.str "end",V.str "put",V.str "begin",V.str "carry"]))
 exact⟨fe,eL,_,_,rfl,rfl,s2 _ _ aT,aT,le_of_ble_eq_true rfl,fun cR Wv=>aU cR _ (s1.trans (s2.trans (b3 Wv _))) aT⟩
theorem _root_.L2.ck.some {aH au:Addr}{H:aj}{a:dI}{lo:Addr}{pl:List (Int × Addr)}{x:aE}{aA:List (Key × V)}(A:ck aH au H a lo pl x aA) {b:Addr}(aa:b∈a.dJ lo pl):H b≠none:=by
 obtain⟨dx,bU⟩:=A.bT
 obtain⟨dy,b5⟩:=A.co
 obtain⟨xs,aJ,_⟩:=A.aG
 intro aN
 rcases mem_cons.mp aa with z | aa
 ·rw[z,aJ]at aN;cases aN
 ·rcases mem_cons.mp aa with z | aa
  ·rw[z,b5]at aN;cases aN
  ·rcases mem_cons.mp aa with z | aa
   ·rw[z,A.kt]at aN;cases aN
   ·have dF:b≠a.h:=fun z=>by rw[z,bU]at aN;cases aN
    have c_:b≠a.c:=fun z=>by rw[z,b5]at aN;cases aN
    exact A.c8.there (by rw[eW dF c_];exact aN) aa
theorem AV:∀(l:List cZ) (x:aE),(x.run l).begun≤x.begun+l.length
 | [],_=>le_refl _
 | e::r,x=>by
  have av:=AV r (x.bX e).1
  have aC:=FI x e
  show ((x.bX e).1.run r).begun≤x.begun+(r.length+1)
  omega
theorem H5:dE ["pages","room","deeds","house"] yK (cT A1):=dS
theorem PG {aH au qf:Addr}{qi:FuncData}{rV:Addr}{wO:FuncData}(F:bZ K "answers" "answers" A1 f fd) (T:hn K mg au) (Ar:r6 K au qf) (qo:a5 P w K mg base b1 3 qf qi q2 (xQ aH au)) (tG:Binds K qi q2 [])
  (Au:a5 P w K mg base b1 8 rV wO mB (AY aH au)) (Al:Binds K wO mB []) (Ae:keepIn K (.ref rV)=true) (d3:mg "answer"=some (.ref rV)):a5 P w K mg base b1 9 f fd yK Gn:=by
 refine F.ok H5 (fun vs H Q E h=>?_) (fun cg A outer s H vs Q E aI h=>?_)
 ·obtain⟨cu,dl,aB,room,us,aM,rfl,_⟩:=h
  rfl
 obtain⟨cu,dl,aB,room,us,aM,rfl,aD,dT,d6,j3,KR,Zu,gO,q⟩:=h
 have zl:us.length=aM.length:=by rw[bE.length KR,length_map]
 refine⟨_,(bl (cQ (i:=3) H5.bk rfl (Or.inr rfl) (xX Ar qo (b6 aI) rfl T.vn tG .nil cW (ak (ah 0) (ak (ah 1) aK)))) (aY (dc (uf [3] ["deed","house"] (jU.one (fv:="house") (j:=3) rfl (by decide +kernel) (by decide +kernel) rfl (by decide +kernel) rfl rfl (by decide +kernel) rfl rfl rfl) rfl (pA (ah 2)) (fun C s1 H1 cj=>(dj Au (b6 aI) rfl d3 Ae Al .nil cW (ak (ah 1) (ak (ah 0) aK)))))))),?_⟩
 refine⟨_,rfl,_,rfl,?_⟩
 intro h dx gT rb ze
 have kY:bY H (upd (upd H dx (.own h)) h (.ins au dx [])):=fun b o e=>by
  rw[ay (cG e gT),ay (cG e rb)]
  exact e
 refine⟨h,dx,cu,aB,room,rfl,aT,kY _ _ aD,fun a lo H1 bf bO nv bK=>⟨rfl,?_⟩⟩
 subst bf
 have r4:bY H H1:=fun b o e=>bK b o (kY b o e) (cG e gT)
 have Vn:∀b,b∈a.dJ lo []→H b=none:=fun b aa=>by
  rcases nv b aa with z | z
  ·rw[z];exact gT
  ·exact kY.free z
 refine⟨_,rfl,dl,rfl,⟨us,aV.of (r4 _ _ j3)⟩,fun acc eg=>G7 (K:=K) (xs:=us) (fun i ys aq=>∃lo pl aA,ck aH au aq a lo pl ((ea aB room).run (aM.take i)) aA∧aA.length≤i∧bY H aq∧(∀b,b∈a.dJ lo pl→H b=none∧b≠acc)∧aq acc=some (.lst ys)∧ys=((ea aB room).says (aM.take i)).map dn.v∧i≤aM.length)
  (by omega) ?_ ?_ ?_ ?_⟩
 ·have s2:=b3 eg (.lst [])
  exact⟨lo,[],[],bO.same s2,le_refl _,r4.trans s2,fun b aa=>⟨Vn b aa,fun z=>bO.some aa (by rw[z];exact eg)⟩,aT,rfl,zero_le _⟩
 ·rintro i ys aq ⟨dm,ra,sS,a_,ek,fY,pZ,aQ,fu,aW⟩
  refine⟨fY _ _ j3,?_⟩
  rw[fu,length_map,xe,length_take]
  omega
 ·rintro i v ys aq k aW bA ⟨dm,ra,sS,a_,ek,fY,pZ,aQ,fu,_⟩ a4
  obtain⟨e,he,re⟩:=sm KR bA
  have W7:=mem_of_getElem? he
  have bG:aM.take (i+1)=aM.take i++[e]:=by rw[take_add_one,he];rfl
  have lt:(aM.take i).length=i:=by rw[length_take];omega
  have hy:=(A5 (room:=room) dT d6).run (aM.take i) (by omega)
  rw[lt,zero_add]at hy
  have wR:((ea aB room).run (aM.take i)).begun≤900:=by
   have av:=AV (aM.take i) (ea aB room)
   have aC:(ea aB room).begun=0:=rfl
   omega
  refine⟨_,rfl,_,rfl,a,dm,ra,_,sS,i,v,e,rfl,⟨a_,hy,by omega,by omega,wR⟩,Rep.mono fY _ _ re,gO e W7,fun ox C_ C1 a3 cn nT el=>?_⟩
  have U4:acc∉a.dJ dm ra:=fun z=>(pZ acc z).2 rfl
  have b9:=el.dh acc _ U4 aQ
  have hT:bY H a3:=fun b o e=>el.dh b o (fun z=>by rw[(pZ b z).1]at e;cases e) (fY b o e)
  have MA:∀b,b∈a.dJ ox C_→H b=none∧b≠acc:=fun b aa=>by
   rcases el.new b aa with z | z
   ·exact pZ b z
   ·exact⟨fY.free z,fun y=>by rw[y,aQ]at z;cases z⟩
  have Vv:H acc=none:=r4.free eg
  have VY:acc∉a.dJ ox C_:=fun z=>(MA acc z).2 rfl
  refine a4 _ a3 b9 ⟨ox,C_,C1,?_,by omega,hT.iZ Vv,MA,aT,?_,by omega⟩
  ·rw[bG,A2]
   exact cn.sl VY b9
  ·rw[bG,AP,map_append,fu]
   rfl
 ·rintro ys aq ⟨dm,ra,sS,a_,ek,fY,pZ,aQ,fu,_⟩
  rw[zl,take_length]at fu
  refine q acc aq fY ?_
  rw[aQ,fu]
theorem HG {bJ bB bM bI:Addr}{l3 Ny:V}{Q kv:ct}{E:gh}{H:aj}{w:Str}(h:jk bJ bB bM bI l3 Q E H (.word w)) (f:w="done"→kv Ny H):jk bJ bB bM bI Ny kv E H (.word w):=by
 by_cases e:w="done"
 ·subst e
  exact nc.mpr (f rfl)
 ·unfold jk at h ⊢
  dsimp only at h ⊢
  rw[if_neg e]at h ⊢
  exact h
def told (a:dn):D:=match a with
 | .num i=>.int i
 | .word w=>if w="done" then .str w else .tup [.str "refused",.str w]
theorem QE {w:Str}(h:¬w="done"):told (.word w)=.tup [.str "refused",.str w]:=if_neg h
def AX (aH au:Addr):dg:=fun vs H Q _=>∃(a:dI) (lo:Addr) (pl:List (Int × Addr)) (x:aE) (aA:List (Key × V)) (n:Nat) (v:V) (e:cZ),vs=[.ref a.h,v]∧Ready aH au H a lo pl x aA n∧Rep H e.D v∧lA e ∧
 ∀lo' c3 c7 u af,ck aH au af a lo' c3 (x.bX e).1 c7→c7.length≤aA.length+1→dP a lo pl lo' c3 H af→Rep af (told (x.bX e).2) u→Q u af
def sE (a:dn):D:=match a with
 | .num i=>.int i
 | .word w=>if w="done" then .str w else .str "refused"
def Bc (aH au:Addr):dg:=fun vs H Q _=>∃(a:dI) (lo:Addr) (pl:List (Int × Addr)) (x:aE) (aA:List (Key × V)) (n:Nat) (v:V) (e:cZ),vs=[.ref a.h,v]∧Ready aH au H a lo pl x aA n∧Rep H e.D v∧lA e ∧
 ∀lo' c3 c7 u af,ck aH au af a lo' c3 (x.bX e).1 c7→c7.length≤aA.length+1→dP a lo pl lo' c3 H af→Rep af (sE (x.bX e).2) u→Q u af
def Ht:dg:=fun vs H Q _=>∃a:dn,vs=[a.v]∧(∀w,a=.word w→w="done"∨w="no dealing"∨w="no page"∨w="taken"∨w="no room")∧∀u af,bY H af→Rep af (told a) u→Q u af
theorem Se {bJ bB bM bI:Addr}(bk:[bJ,bB,bM,bI].Nodup):(bB == bJ)=false∧(bM == bJ)=false∧(bM == bB)=false∧(bI == bJ)=false∧(bI == bB)=false∧(bI == bM)=false:=by
 simp only[nodup_cons,mem_cons,not_mem_nil,or_false,not_or,not_false_eq_true,nodup_nil,and_true]at bk
 obtain⟨⟨a1,a2,ks⟩,⟨en,fk⟩,b_⟩:=bk
 have gw:∀{x y:Addr},¬x=y→(y == x)=false:=fun h=>by simpa using fun z=>h z.symm
 exact⟨gw a1,gw a2,gw en,gw ks,gw fk,gw b_⟩
def Cw (Q:ct) (w:Str) (H:aj):Prop:=∀t,H t=none→Q (.ref t) (upd H t (.tup [.str "refused",.str w]))
def four (bJ bB bM bI:Addr) (R:Str→aj→Prop) (C:Addr) (H:aj):Prop:=(C=bJ∧R "no dealing" H)∨(C=bB∧R "no page" H)∨(C=bM∧R "taken" H)∨(C=bI∧R "no room" H)
theorem xM {bJ bB bM bI:Addr}{R:Str→aj→Prop}{C:Addr}{H:aj}(h:four bJ bB bM bI R C H):C∈[bJ,bB,bM,bI]:=by
 rcases h with ⟨e,_⟩ | ⟨e,_⟩ | ⟨e,_⟩ | ⟨e,_⟩ <;> simp[e]
structure CX (K:PySem.W.Frag) (mg:Str→Option Value) (bJ bB bM bI Ay:Addr):Prop where
 nS:mg "HouseError"=some (.ref Ay)
 ex:∀p∈[bJ,bB,bM,bI],exmOne K (.ref p) (.ref Ay)=some true
 Ad:∀p∈[bJ,bB,bM,bI],∀q∈[bJ,bB,bM,bI],kitOne K (.ref p) (.ref q)=some (p == q)
 cy:∀p∈[bJ,bB,bM,bI],kitOne K (.ref p) (.type "ValueError")=some true
 v5:∀p∈[bJ,bB,bM,bI],nL K p
def anyR (Q:ct) (H:aj):Prop:=∀t,H t=none→Q (.str "refused") (upd H t (.lst [.str "other",.str "refused"]))
theorem Xq:bootBuiltins "ValueError"=some (.type "ValueError"):=by decide +kernel
theorem SR {bJ bB bM bI C:Addr}(bk:[bJ,bB,bM,bI].Nodup) (h:C∈[bJ,bB,bM,bI]):(((if C == bJ then (1:Int) else 0)+if C == bB then 1 else 0)+if C == bI then 1 else 0)+(if C == bM then 1 else 0)=1:=by
 simp only[nodup_cons,mem_cons,not_mem_nil,or_false,not_or,not_false_eq_true,nodup_nil,and_true]at bk h
 obtain⟨⟨a1,a2,ks⟩,⟨en,fk⟩,b_⟩:=bk
 have gw:∀{x y:Addr},¬x=y→(x == y)=false∧(y == x)=false:=fun h=>⟨by simpa using h,by simpa using fun z=>h z.symm⟩
 have t:∀x:Addr,(x == x)=true:=fun x=>beq_self_eq_true x
 rcases h with rfl | rfl | rfl | rfl
 ·rw[t,(gw a1).1,(gw a2).1,(gw ks).1];rfl
 ·rw[t,(gw a1).2,(gw en).1,(gw fk).1];rfl
 ·rw[t,(gw a2).2,(gw en).2,(gw b_).1];rfl
 ·rw[t,(gw ks).2,(gw fk).2,(gw b_).2];rfl
theorem sA:dE Jz j0 (cT uK):=dS
theorem R4 {aH au bJ bB bM bI:Addr}{o2:Addr}{qj:FuncData}{qe:Addr}{dL:FuncData}{gu:Addr}{g6:FuncData}{je:Addr}{kr:FuncData}{eB:Addr}{fx:FuncData}{hO:Addr}{iU:FuncData}{hN:Addr}{iT:FuncData}(F:bZ K "_law_done" "_law_done" uK f fd) (B:fc mg) (T:hn K mg au) (tQ:a5 P w K mg base (c4 P w) 6 o2 qj iv (xR aH au bJ bB bM bI)) (tH:Binds K qj iv []) (nS:Meth K au "begin" o2)
  (r9:a5 P w K mg base (c4 P w) 2 qe dL fU (uu aH au bJ bB bM bI)) (r0:Binds K dL fU []) (rO:Meth K au "look" qe)
  (jQ:a5 P w K mg base (c4 P w) 6 gu g6 j1 (yp aH au bJ bB bM bI)) (jN:Binds K g6 j1 []) (hL:Meth K au "put" gu)
  (pa:a5 P w K mg base (c4 P w) 3 je kr gD (uH aH au bJ bB bM bI)) (o5:Binds K kr gD []) (mN:Meth K au "end" je)
  (gy:a5 P w K mg base (c4 P w) 4 eB fx gD (x6 aH au bJ bB bM bI)) (gx:Binds K fx gD []) (fH:Meth K au "drop" eB)
  (m9:a5 P w K mg base (c4 P w) 3 hO iU fU (ud aH au bB)) (m5:Binds K iU fU []) (mX:Meth K au "carry" hO)
  (l6:a5 P w K mg base b1 3 hN iT iv (uI aH au)) (l4:Binds K iT iv []) (lV:Meth K au "cut" hN):a5 P w K mg base (c4 P w) 7 f fd j0 (qC aH au bJ bB bM bI):=by
 refine F.lC sA (fun vs H Q fZ h=>?_) (fun cg Zh outer s H vs Q fZ aI h=>?_)
 ·obtain⟨a,lo,pl,x,aA,n,v,e,rfl,_⟩:=h
  rfl
 obtain⟨a,lo,pl,x,aA,n,v,e,rfl,R,bD,aS,q⟩:=h
 have A:=R.rL
 obtain⟨dx,bU⟩:=A.bT
 obtain⟨Yj,rS,Yq⟩:∃t,f9 (fm (c4 P w) P w K mg base Jz "_law_done" (cT uK) f cg Zh outer s H fZ) ((h1 uK).drop 3) t∧∀(o0 bU:Option V) (H1:aj),(∀t,H1 t=none→Q (.str "done") (upd H1 t (.lst [.str "more",.str "done"])))→t { c9:=fun _ aq=>Q .cc aq,j9:=Q } [o0,bU,some .cc] H1:=by
  refine⟨_,(aY (dc (bP ee (fC (ak bg (ak bg aK))) (hl ps rfl B.int oh (ak (pB SQ (ah 2) SK (cN _)) aK)) (fun _ _=>rfl)))),?_⟩
  intro o0 bU H1 bN
  exact⟨cX,fun t bG=>⟨_,rfl,rfl,.inr ⟨_,rfl,t,_,_,_,rfl,rfl,aV.of aT,rfl,bN t bG⟩⟩⟩
 have fin:∀(o0 bU:Option V) (lo':Addr) (c3:List (Int × Addr)) (c7:List (Key × V)) (af:aj),ck aH au af a lo' c3 (x.bX e).1 c7→c7.length≤aA.length+1→dP a lo pl lo' c3 H af→(x.bX e).2=.word "done"→Yj { c9:=fun _ aq=>Q .cc aq,j9:=Q } [o0,bU,some .cc] af:=fun o0 bU lo' c3 c7 af d9 l m az=>Yq o0 bU af fun t bG=>by
  have s:=b3 bG (.lst [.str "more",.str "done"])
  have h:=q lo' c3 c7 _ (d9.same s) l (m.trans (bY.moves s))
  rw[az]at h
  exact nc.mp h
 refine⟨_,(bl (cO (cU d2 (bP cH (ah 1) aX (fun _ _=>rfl)) bg (cN _)) (aY (dc (so (ah 0) T.cl nS tQ (b6 aI) tH .nil (ha fun _ _ z=>z)))) dK) (bl (cO (cU d2 (bP cH (ah 1) aX (fun _ _=>rfl)) bg (cN _)) (aY (dc (fB (ah 0) T.cl rO r9 (b6 aI) r0 .nil (ha fun _ _ z=>z) (ak (bP cH (ah 1) aX (fun _ _=>rfl)) aK)))) dK) (bl (cO (cU d2 (bP cH (ah 1) aX (fun _ _=>rfl)) bg (cN _)) (aY (cQ (i:=2) sA.bk rfl (Or.inl rfl) (fB (ah 0) T.cl hL jQ (b6 aI) jN .nil (ha fun _ _ z=>z) (ak (bP cH (ah 1) aX (fun _ _=>rfl)) (ak (bP cH (ah 1) aX (fun _ _=>rfl)) (ak (bP cH (ah 1) aX (fun _ _=>rfl)) aK)))))) (aY (cO (cU d2 (bP cH (ah 1) aX (fun _ _=>rfl)) bg (cN _)) (aY (cQ (i:=2) sA.bk rfl (Or.inl rfl) (fB (ah 0) T.cl mN pa (b6 aI) o5 .nil (ha fun _ _ z=>z) (ak (bP cH (ah 1) aX (fun _ _=>rfl)) aK)))) (aY (cO (cU d2 (bP cH (ah 1) aX (fun _ _=>rfl)) bg (cN _)) (aY (cQ (i:=2) sA.bk rfl (Or.inl rfl) (fB (ah 0) T.cl fH gy (b6 aI) gx .nil (ha fun _ _ z=>z) (ak (bP cH (ah 1) aX (fun _ _=>rfl)) aK)))) (aY (cO (cU d2 (bP cH (ah 1) aX (fun _ _=>rfl)) bg (cN _)) (aY (cQ (i:=2) sA.bk rfl (Or.inl rfl) (fB (ah 0) T.cl mX m9 (b6 aI) m5 .nil (ha fun _ _ z=>z) (ak (bP cH (ah 1) aX (fun _ _=>rfl)) aK)))) (aY (cQ (i:=2) sA.bk rfl (Or.inl rfl) (so (ah 0) T.cl lV l6 (b6 aI) l4 .nil cW))))))))))
   rS))),?_⟩
 cases e with
 | begin =>
  obtain⟨c,b0,rfl,ai,bx⟩:=px bD
  cases bx.str_inv
  refine⟨_,rfl,c,_,_,_,rfl,rfl,aP.of ai,rfl,rfl,_,rfl,ei rfl ?_⟩
  refine⟨_,rfl,a.h,dx,_,rfl,bU,(by kernel_rfl),a,lo,pl,x,aA,n,rfl,R,fun lo' c3 c7 af d9 l m=>?_⟩
  have h:=q lo' c3 c7 af d9 l m
  have az:(x.bX .begin).2=if (x.began.full 1).2=true then dn.word "no room" else .num x.begun:=by
   show (if (x.began.full 1).2=true then ((x.began.full 1).1,dn.word "no room") else ((x.began.full 1).1.opened,.num x.begun)).2=_
   split <;> rfl
  rw[az]at h ⊢
  split at h
  ·rename_i z
   rw[if_pos z]
   exact n3.mpr (n3.mp h)
  ·rename_i z
   rw[if_neg z]
   exact h
 | look p =>
  obtain⟨c,b0,cM,rfl,ai,bx,b7⟩:=gk bD
  cases bx.str_inv
  cases b7.int_inv
  refine⟨_,rfl,c,_,_,_,rfl,rfl,aP.of ai,rfl,rfl,_,rfl,bH (by decide +kernel) ?_⟩
  refine⟨_,rfl,c,_,_,_,rfl,rfl,aP.of ai,rfl,rfl,_,rfl,ei rfl ?_⟩
  refine⟨_,rfl,a.h,dx,_,rfl,bU,(by kernel_rfl),_,rfl,c,_,_,_,rfl,rfl,aP.of ai,rfl,a,lo,pl,x,aA,n,p,rfl,R,aS,fun lo' c3 c7 af d9 l m=>?_⟩
  have h:=q lo' c3 c7 af d9 l m
  by_cases jL:p<0∨(x.aO.length:Int)≤p
  ·have az:=n1 (e:=.look p) (w:="no page") (if_pos jL)
   rw[az]at h ⊢
   exact l_.mpr (l_.mp h)
  ·have az:=l8 (x:=x) (e:=.look p) (if_neg jL)
   rw[az]at h ⊢
   exact h
 | put d p k =>
  obtain⟨c,b0,cM,g0,kN,rfl,ai,bx,b7,kR,mU⟩:=xD bD
  cases bx.str_inv
  cases b7.int_inv
  cases kR.int_inv
  cases mU.int_inv
  refine⟨_,rfl,c,_,_,_,rfl,rfl,aP.of ai,rfl,rfl,_,rfl,bH (by decide +kernel) ?_⟩
  refine⟨_,rfl,c,_,_,_,rfl,rfl,aP.of ai,rfl,rfl,_,rfl,bH (by decide +kernel) ?_⟩
  refine⟨_,rfl,c,_,_,_,rfl,rfl,aP.of ai,rfl,rfl,_,rfl,ei rfl ?_⟩
  refine⟨_,rfl,a.h,dx,_,rfl,bU,(by kernel_rfl),_,rfl,c,_,_,_,rfl,rfl,aP.of ai,rfl,_,rfl,c,_,_,_,rfl,rfl,aP.of ai,rfl,_,rfl,c,_,_,_,rfl,rfl,aP.of ai,rfl,a,lo,pl,x,aA,n,d,p,k,rfl,R,aS.1,aS.2,fun lo' c3 c7 af d9 l m=>?_⟩
  have h:=q lo' c3 c7 af d9 l m
  obtain⟨w,hw⟩:=GS x d p k
  rw[hw]at h ⊢
  exact HG h fun z=>fin _ _ lo' c3 c7 af d9 l m (by rw[hw,z])
 | fin d =>
  obtain⟨c,b0,cM,rfl,ai,bx,b7⟩:=gk bD
  cases bx.str_inv
  cases b7.int_inv
  refine⟨_,rfl,c,_,_,_,rfl,rfl,aP.of ai,rfl,rfl,_,rfl,bH (by decide +kernel) ?_⟩
  refine⟨_,rfl,c,_,_,_,rfl,rfl,aP.of ai,rfl,rfl,_,rfl,bH (by decide +kernel) ?_⟩
  refine⟨_,rfl,c,_,_,_,rfl,rfl,aP.of ai,rfl,rfl,_,rfl,bH (by decide +kernel) ?_⟩
  refine⟨_,rfl,c,_,_,_,rfl,rfl,aP.of ai,rfl,rfl,_,rfl,ei rfl ?_⟩
  refine⟨_,rfl,a.h,dx,_,rfl,bU,(by kernel_rfl),_,rfl,c,_,_,_,rfl,rfl,aP.of ai,rfl,a,lo,pl,x,aA,n,d,rfl,A,R.fits (by decide),aS,?_⟩
  have er:x.refusal (.fin d)=(if x.isOpen d=false then some ("no dealing":Str) else none):=rfl
  cases aF:x.isOpen d with
  | false =>
   rw[if_pos rfl]
   rw[aF,if_pos rfl]at er
   have az:=n1 er
   have h:=q lo pl aA H (by rw[az];exact A) (le_succ _) (dP.refl ..)
   rw[az]at h
   exact qw.mp h
  | true =>
   rw[if_neg (fun z=>nomatch z)]
   rw[aF,if_neg (fun z=>nomatch z)]at er
   have az:=l8 er
   intro lo' af d9 m
   exact fin _ _ lo' _ aA af (by rw[az];exact d9) (le_succ _) m (by rw[az];rfl)
 | drop d =>
  obtain⟨c,b0,cM,rfl,ai,bx,b7⟩:=gk bD
  cases bx.str_inv
  cases b7.int_inv
  refine⟨_,rfl,c,_,_,_,rfl,rfl,aP.of ai,rfl,rfl,_,rfl,bH (by decide +kernel) ?_⟩
  refine⟨_,rfl,c,_,_,_,rfl,rfl,aP.of ai,rfl,rfl,_,rfl,bH (by decide +kernel) ?_⟩
  refine⟨_,rfl,c,_,_,_,rfl,rfl,aP.of ai,rfl,rfl,_,rfl,bH (by decide +kernel) ?_⟩
  refine⟨_,rfl,c,_,_,_,rfl,rfl,aP.of ai,rfl,rfl,_,rfl,bH (by decide +kernel) ?_⟩
  refine⟨_,rfl,c,_,_,_,rfl,rfl,aP.of ai,rfl,rfl,_,rfl,ei rfl ?_⟩
  refine⟨_,rfl,a.h,dx,_,rfl,bU,(by kernel_rfl),_,rfl,c,_,_,_,rfl,rfl,aP.of ai,rfl,a,lo,pl,x,aA,n,d,rfl,R,aS,fun lo' c3 c7 af d9 l m=>?_⟩
  have h:=q lo' c3 c7 af d9 l m
  obtain⟨w,hw⟩:=GC x d
  rw[hw]at h ⊢
  exact HG h fun z=>fin _ _ lo' c3 c7 af d9 l m (by rw[hw,z])
 | carry p =>
  obtain⟨c,b0,cM,rfl,ai,bx,b7⟩:=gk bD
  cases bx.str_inv
  cases b7.int_inv
  refine⟨_,rfl,c,_,_,_,rfl,rfl,aP.of ai,rfl,rfl,_,rfl,bH (by decide +kernel) ?_⟩
  refine⟨_,rfl,c,_,_,_,rfl,rfl,aP.of ai,rfl,rfl,_,rfl,bH (by decide +kernel) ?_⟩
  refine⟨_,rfl,c,_,_,_,rfl,rfl,aP.of ai,rfl,rfl,_,rfl,bH (by decide +kernel) ?_⟩
  refine⟨_,rfl,c,_,_,_,rfl,rfl,aP.of ai,rfl,rfl,_,rfl,bH (by decide +kernel) ?_⟩
  refine⟨_,rfl,c,_,_,_,rfl,rfl,aP.of ai,rfl,rfl,_,rfl,bH (by decide +kernel) ?_⟩
  refine⟨_,rfl,c,_,_,_,rfl,rfl,aP.of ai,rfl,rfl,_,rfl,ei rfl ?_⟩
  refine⟨_,rfl,a.h,dx,_,rfl,bU,(by kernel_rfl),_,rfl,c,_,_,_,rfl,rfl,aP.of ai,rfl,a,lo,pl,x,aA,p,rfl,A,aS,R.fits (by decide),?_⟩
  by_cases jL:p<0∨(x.aO.length:Int)≤p
  ·rw[if_pos jL]
   have az:=n1 (x:=x) (e:=.carry p) (w:="no page") (if_pos jL)
   have h:=q lo pl aA H (by rw[az];exact A) (le_succ _) (dP.refl ..)
   rw[az]at h
   exact l_.mp h
  ·rw[if_neg jL]
   have az:=l8 (x:=x) (e:=.carry p) (if_neg jL)
   intro lo' af d9 m
   exact fin _ _ lo' pl aA af (by rw[az];exact d9) (le_succ _) m (by rw[az];rfl)
 | cut =>
  obtain⟨c,b0,rfl,ai,bx⟩:=px bD
  cases bx.str_inv
  refine⟨_,rfl,c,_,_,_,rfl,rfl,aP.of ai,rfl,rfl,_,rfl,bH (by decide +kernel) ?_⟩
  refine⟨_,rfl,c,_,_,_,rfl,rfl,aP.of ai,rfl,rfl,_,rfl,bH (by decide +kernel) ?_⟩
  refine⟨_,rfl,c,_,_,_,rfl,rfl,aP.of ai,rfl,rfl,_,rfl,bH (by decide +kernel) ?_⟩
  refine⟨_,rfl,c,_,_,_,rfl,rfl,aP.of ai,rfl,rfl,_,rfl,bH (by decide +kernel) ?_⟩
  refine⟨_,rfl,c,_,_,_,rfl,rfl,aP.of ai,rfl,rfl,_,rfl,bH (by decide +kernel) ?_⟩
  refine⟨_,rfl,c,_,_,_,rfl,rfl,aP.of ai,rfl,rfl,_,rfl,bH (by decide +kernel) ?_⟩
  refine⟨_,rfl,a.h,dx,_,rfl,bU,(by kernel_rfl),a,lo,pl,x,aA,rfl,A,R.fits (by decide),R.vd,fun lo' af d9 m=>?_⟩
  have az:=l8 (x:=x) (e:=.cut) rfl
  exact fin _ _ lo' pl aA af (by rw[az];exact d9) (le_succ _) m (by rw[az];rfl)
theorem qT:dE ["_law_house","_law_deed","_law_told"] j0 (cT Bl):=dS
theorem P_ {aH au bJ bB bM bI:Addr}{eB:Addr}{fx:FuncData}(F:bZ K "_law_by_hand" "_law_by_hand" Bl f fd) (X:q8 K mg bJ bB bM bI) (gy:a5 P w K mg base (c4 P w) 7 eB fx j0 (qC aH au bJ bB bM bI)) (gx:Binds K fx j0 []) (jd:keepIn K (.ref eB)=true) (fH:mg "_law_done"=some (.ref eB)):a5 P w K mg base b1 8 f fd j0 (AX aH au):=by
 refine F.ok qT (fun vs H Q E h=>?_) (fun cg A outer s H vs Q E aI h=>?_)
 ·obtain⟨a,lo,pl,x,aA,n,v,e,rfl,_⟩:=h
  rfl
 obtain⟨a,lo,pl,x,aA,n,v,e,rfl,R,bD,aS,q⟩:=h
 obtain⟨dF,c_,eb,eS,fj,fi⟩:=Se X.bk
 refine⟨_,(bl (cQ (i:=2) qT.bk rfl (Or.inl rfl) bg) (bl (HD (G:=four bJ bB bM bI (Cw Q)) (mt:=fun a b=>a == b) rfl rfl rfl (.cons X.fH rfl (by decide) (fun e W=>(aY (cQ (i:=2) qT.bk rfl (Or.inl rfl) (fQ (ak bg (ak bg aK)))))) (.cons X.hL rfl (by decide) (fun e W=>(aY (cQ (i:=2) qT.bk rfl (Or.inl rfl) (fQ (ak bg (ak bg aK)))))) (.cons X.ts rfl (by decide) (fun e W=>(aY (cQ (i:=2) qT.bk rfl (Or.inl rfl) (fQ (ak bg (ak bg aK)))))) (.cons X.lW rfl (by decide) (fun e W=>(aY (cQ (i:=2) qT.bk rfl (Or.inl rfl) (fQ (ak bg (ak bg aK)))))) .nil)))) (jZ:=fun _=>True) (fun _ _ _=>trivial) (fun C H g p aD=>X.mt C (xM g) p.1 (by
   have:=List.mem_map_of_mem (f:=(·.1)) aD
   exact this))
   (fun pp=>aY (cQ (i:=2) qT.bk rfl (Or.inl rfl) (dj gy (b6 aI) rfl fH jd gx .nil (Iu (E:=fun c _ H=>∃C,c=.ref C∧four bJ bB bM bI (Cw Q) C H) rfl rfl rfl (fun c H h=>h)) (ak (ah 0) (ak (ah 1) aK)))))) (aY (dc (ah 2))))),?_⟩
 refine⟨fun C bq af ls g=>?_,?_⟩
 ·obtain⟨b0,cM,g0,rfl⟩:∃b0 cM g0,bq=[b0,cM,g0]:=by
   match bq,ls with
   | [b0,cM,g0],_=>exact⟨b0,cM,g0,rfl⟩
  rcases g with ⟨rfl,g⟩ | ⟨rfl,g⟩ | ⟨rfl,g⟩ | ⟨rfl,g⟩
  ·refine⟨_,(by rw[find?_cons_of_pos (by simp)];rfl),?_⟩
   exact⟨cX,fun t bG=>⟨_,rfl,g t bG⟩⟩
  ·refine⟨_,(by rw[find?_cons_of_neg (by simp[dF]),find?_cons_of_pos (by simp)];rfl),?_⟩
   exact⟨cX,fun t bG=>⟨_,rfl,g t bG⟩⟩
  ·refine⟨_,(by rw[find?_cons_of_neg (by simp[c_]),find?_cons_of_neg (by simp[eb]),find?_cons_of_pos (by simp)];rfl),?_⟩
   exact⟨cX,fun t bG=>⟨_,rfl,g t bG⟩⟩
  ·refine⟨_,(by rw[find?_cons_of_neg (by simp[eS]),find?_cons_of_neg (by simp[fj]),find?_cons_of_neg (by simp[fi]),find?_cons_of_pos (by simp)];rfl),?_⟩
   exact⟨cX,fun t bG=>⟨_,rfl,g t bG⟩⟩
 refine⟨_,rfl,_,rfl,a,lo,pl,x,aA,n,v,e,rfl,R,bD,aS,fun lo' c3 c7 af d9 l m=>?_⟩
 have ref:∀w:Str,(x.bX e).2=.word w→¬w="done"→Cw Q w af:=fun w hw aN t bG=>by
  have s:=b3 bG (.tup [.str "refused",.str w])
  refine q lo' c3 c7 _ _ (d9.same s) l (m.trans (bY.moves s)) ?_
  rw[hw]
  show Rep _ (if w="done" then .str w else .tup [.str "refused",.str w]) _
  rw[if_neg aN]
  exact .f3 aT (.cons .ofStr (.cons .ofStr .nil))
 rcases tV x e with ⟨i,hw⟩ | hw | hw | hw | hw | hw
 ·have z:=q lo' c3 c7 (.int i) af d9 l m (by rw[hw];exact .ofInt)
  rw[hw]
  exact⟨_,rfl,z⟩
 ·have z:=q lo' c3 c7 (.str "done") af d9 l m (by rw[hw];exact .ofStr)
  rw[hw]
  exact nc.mpr ⟨_,rfl,z⟩
 ·have z:=ref _ hw (by decide +kernel)
  rw[hw]
  exact qw.mpr ⟨bJ,rfl,.inl ⟨rfl,z⟩⟩
 ·have z:=ref _ hw (by decide +kernel)
  rw[hw]
  exact l_.mpr ⟨bB,rfl,.inr (.inl ⟨rfl,z⟩)⟩
 ·have z:=ref _ hw (by decide +kernel)
  rw[hw]
  exact xx.mpr ⟨bM,rfl,.inr (.inr (.inl ⟨rfl,z⟩))⟩
 ·have z:=ref _ hw (by decide +kernel)
  rw[hw]
  exact n3.mpr ⟨bI,rfl,.inr (.inr (.inr ⟨rfl,z⟩))⟩
theorem qU:dE ["_law_house","_law_deed","_law_told","e","_law_kinds"] j0 (cT BO):=dS
theorem Rc {aH au bJ bB bM bI Ay:Addr}{eB:Addr}{fx:FuncData}(F:bZ K "_law_by_any" "_law_by_any" BO f fd) (B:fc mg) (X:q8 K mg bJ bB bM bI) (Y:CX K mg bJ bB bM bI Ay) (V_:mg "ValueError"=none) (gy:a5 P w K mg base (c4 P w) 7 eB fx j0 (qC aH au bJ bB bM bI)) (gx:Binds K fx j0 []) (jd:keepIn K (.ref eB)=true) (fH:mg "_law_done"=some (.ref eB)):a5 P w K mg base b1 8 f fd j0 (Bc aH au):=by
 refine F.ok qU (fun vs H Q E h=>?_) (fun cg A outer s H vs Q E aI h=>?_)
 ·obtain⟨a,lo,pl,x,aA,n,v,e,rfl,_⟩:=h
  rfl
 obtain⟨a,lo,pl,x,aA,n,v,e,rfl,R,bD,aS,q⟩:=h
 refine⟨_,(bl (cQ (i:=2) qU.bk rfl (Or.inl rfl) bg) (bl (HD (G:=four bJ bB bM bI (fun _=>anyR Q)) (mt:=fun _ _=>true) (jZ:=fun C=>C∈[bJ,bB,bM,bI]) rfl rfl rfl (.as (i:=3) Y.nS rfl (by decide) qU.bk rfl rfl (fun C az dY pp W ai aF=>(bl (cQ (i:=4) qU.bk rfl (Or.inl rfl) (c0 gN (hl ps rfl B.int oh (ak (eV (t7 ai (Y.v5 C aF)) rfl B.ju jl (ak (ah 3) (ak (xY (v:=.ref bJ) rfl X.fH rfl) aK))) aK)) (hl ps rfl B.int oh (ak (eV (t7 ai (Y.v5 C aF)) rfl B.ju jl (ak (ah 3) (ak (xY (v:=.ref bB) rfl X.hL rfl) aK))) aK)))) (bl (cQ (i:=4) qU.bk rfl (Or.inl rfl) (c0 gN (c0 gN (ah 4) (hl ps rfl B.int oh (ak (eV (t7 ai (Y.v5 C aF)) rfl B.ju jl (ak (ah 3) (ak (xY (v:=.ref bI) rfl X.lW rfl) aK))) aK))) (hl ps rfl B.int oh (ak (eV (t7 ai (Y.v5 C aF)) rfl B.ju jl (ak (ah 3) (ak (xY (v:=.ref bM) rfl X.ts rfl) aK))) aK)))) (aY (cQ (i:=2) qU.bk rfl (Or.inl rfl) (bP (G1 (K:=K) rfl) (fC (ak bg (ak bg aK))) (hl ps rfl B.int oh (ak (uA (pB d2 (ah 4) aX (cN _)) (yc (eV (t7 ai (Y.v5 C aF)) rfl B.ju jl (ak (ah 3) (ak (la (v:=.ty "ValueError") rfl V_ Xq rfl) aK))))) aK)) (fun _ _=>rfl))))))) .nil) (fun C H g=>xM g) (fun C H g p aD=>by
   rw[mem_singleton.mp aD]
   exact Y.ex C (xM g))
   (fun pp=>aY (cQ (i:=2) qU.bk rfl (Or.inl rfl) (dj gy (b6 aI) rfl fH jd gx .nil (Iu (E:=fun c _ H=>∃C,c=.ref C∧four bJ bB bM bI (fun _=>anyR Q) C H) rfl rfl rfl (fun c H h=>h)) (ak (ah 0) (ak (ah 1) aK)))))) (aY (dc (ah 2))))),?_⟩
 refine⟨fun C bq af ls g=>?_,?_⟩
 ·obtain⟨b0,cM,g0,kN,nO,rfl⟩:∃b0 cM g0 kN nO,bq=[b0,cM,g0,kN,nO]:=by
   match bq,ls with
   | [b0,cM,g0,kN,nO],_=>exact⟨b0,cM,g0,kN,nO,rfl⟩
  have hm:=xM g
  have g:anyR Q af:=by rcases g with ⟨_,g⟩ | ⟨_,g⟩ | ⟨_,g⟩ | ⟨_,g⟩ <;> exact g
  refine⟨_,rfl,?_⟩
  intro az
  have one:=SR X.bk hm
  have jd:=Y.Ad C hm bJ (by simp)
  have rR:=Y.Ad C hm bB (by simp)
  have wm:=Y.Ad C hm bI (by simp)
  have EU:=Y.Ad C hm bM (by simp)
  have dZ:=Y.cy C hm
  refine⟨_,rfl,_,_,_,rfl,(fun v r=>r),jd,.inr ⟨_,rfl,_,rfl,_,_,_,rfl,(fun v r=>r),rR,.inr ⟨_,rfl,_,_,rfl,rfl,?_⟩⟩⟩
  refine⟨_,rfl,_,rfl,_,_,_,rfl,(fun v r=>r),wm,.inr ⟨_,rfl,_,_,rfl,rfl,_,rfl,_,_,_,rfl,(fun v r=>r),EU,.inr ⟨_,rfl,_,_,rfl,rfl,?_⟩⟩⟩
  refine⟨cX,fun t bG=>⟨_,rfl,rfl,_,rfl,ei (congrArg V.int one) ⟨_,rfl,_,_,_,rfl,(fun v r=>r),dZ,.inr ⟨_,rfl,t,_,_,_,rfl,rfl,aV.of aT,rfl,_,rfl,g t bG⟩⟩⟩⟩
 refine⟨_,rfl,_,rfl,a,lo,pl,x,aA,n,v,e,rfl,R,bD,aS,fun lo' c3 c7 af d9 l m=>?_⟩
 have ref:∀w:Str,(x.bX e).2=.word w→¬w="done"→anyR Q af:=fun w hw aN t bG=>by
  have s:=b3 bG (.lst [.str "other",.str "refused"])
  refine q lo' c3 c7 _ _ (d9.same s) l (m.trans (bY.moves s)) ?_
  rw[hw]
  show Rep _ (if w="done" then .str w else .str "refused") _
  rw[if_neg aN]
  exact .ofStr
 rcases tV x e with ⟨i,hw⟩ | hw | hw | hw | hw | hw
 ·have z:=q lo' c3 c7 (.int i) af d9 l m (by rw[hw];exact .ofInt)
  rw[hw]
  exact⟨_,rfl,z⟩
 ·have z:=q lo' c3 c7 (.str "done") af d9 l m (by rw[hw];exact .ofStr)
  rw[hw]
  exact nc.mpr ⟨_,rfl,z⟩
 ·have z:=ref _ hw (by decide +kernel)
  rw[hw]
  exact qw.mpr ⟨bJ,rfl,.inl ⟨rfl,z⟩⟩
 ·have z:=ref _ hw (by decide +kernel)
  rw[hw]
  exact l_.mpr ⟨bB,rfl,.inr (.inl ⟨rfl,z⟩)⟩
 ·have z:=ref _ hw (by decide +kernel)
  rw[hw]
  exact xx.mpr ⟨bM,rfl,.inr (.inr (.inl ⟨rfl,z⟩))⟩
 ·have z:=ref _ hw (by decide +kernel)
  rw[hw]
  exact n3.mpr ⟨bI,rfl,.inr (.inr (.inr ⟨rfl,z⟩))⟩
theorem TG:dE uT uT (cT BR):=dS
theorem Rg (F:bZ K "_law_as_due" "_law_as_due" BR f fd):a5 P w K mg base b1 1 f fd uT Ht:=by
 refine F.ok TG (fun vs H Q E h=>?_) (fun cg A outer s H vs Q E aI h=>?_)
 ·obtain⟨a,rfl,_⟩:=h
  rfl
 obtain⟨a,rfl,hw,q⟩:=h
 refine⟨_,(bl (cO (cU xy (ah 0) (fC (ak bg (ak bg (ak bg (ak bg aK))))) (by with_unfolding_all rfl)) (aY (dc (fQ (ak bg (ak (ah 0) aK))))) dK) (aY (dc (ah 0)))),?_⟩
 cases a with
 | num i =>
  refine⟨_,rfl,cX,fun l aG=>⟨l,_,rfl,.inl (aV.of aT),rfl,rfl,_,rfl,?_⟩⟩
  have e:gq (.int i) [.str "no dealing",.str "no page",.str "taken",.str "no room"]=false:=rfl
  show if gq (.int i) [.str "no dealing",.str "no page",.str "taken",.str "no room"]=true then _ else _
  rw[e]
  exact dQ ⟨_,rfl,q _ _ (b3 aG _) .ofInt⟩
 | word w =>
  refine⟨_,rfl,cX,fun l aG=>⟨l,_,rfl,.inl (aV.of aT),rfl,rfl,_,rfl,?_⟩⟩
  have s1:=b3 aG (.lst [.str "no dealing",.str "no page",.str "taken",.str "no room"])
  rcases hw w rfl with rfl | rfl | rfl | rfl | rfl
  ·refine fE (fun z=>absurd z (by decide +kernel)) (fun _=>⟨_,rfl,q _ _ s1 .ofStr⟩)
  all_goals
   refine fE (fun _=>⟨_,rfl,cX,fun t bG=>?_⟩) (fun z=>absurd (by decide +kernel) z)
   refine q _ _ (s1.trans (b3 bG _)) ?_
   rw[QE (by decide +kernel)]
   exact .f3 aT (.cons .ofStr (.cons .ofStr .nil))
def Hr:dg:=fun vs H Q _=>∃h:Int,vs=[.int h]∧∀(c:Int) (af:aj),1≤c→c≤40→bY H af→Q (.int c) af
def yq (K:PySem.W.Frag):dg:=fun vs H Q _=>∃(a:Addr) (ns:List Int),vs=[.ref a]∧aV K H a (ns.map V.int)∧ns.length≤63∧∀af,Q (.b8 true) af
theorem RL:dE nB nB (cT BK):=dS
theorem Q_ (F:bZ K "_law_count_by" "_law_count_by" BK f fd) (B:fc mg):a5 P w K mg base b1 1 f fd nB Hr:=by
 refine F.ok RL (fun vs H Q E h=>?_) (fun cg A outer s H vs Q E aI h=>?_)
 ·obtain⟨h,rfl,_⟩:=h
  rfl
 obtain⟨z,rfl,q⟩:=h
 refine⟨_,(aY (dc (bP ee (fC (ak (c0 gN aX (c0 ih (ah 0) aX)) (ak (c0 gN aX (c0 ih (c0 uh (ah 0) aX) aX)) aK))) (hl ps rfl B.int oh (ak (pB d2 (c0 ih (c0 uh (ah 0) aX) aX) aX (cN _)) aK)) (fun _ _=>rfl)))),?_⟩
 refine⟨_,rfl,_,_,rfl,rfl,(by decide:(0:Int)<5),_,_,rfl,rfl,_,rfl,_,_,rfl,rfl,⟨by decide,by decide⟩,_,_,rfl,rfl,(by decide:(0:Int)<29),_,_,rfl,rfl,cX,fun t bG=>?_⟩
 refine⟨_,rfl,_,_,rfl,rfl,⟨by decide,by decide⟩,_,_,rfl,rfl,(by decide:(0:Int)<8),rfl,.inr ⟨_,rfl,HW aT ?_ ?_ _⟩⟩
 ·exact q (1+z % 5) _ (by omega) (by omega) (b3 bG _)
 ·exact q (12+z / 200 % 29) _ (by omega) (by omega) (b3 bG _)
theorem ir:dE CA yJ (cT qV):=dS
structure w2 (H:aj) (cu dl:Addr) (aB:List Int) (us:List V) (aM:List cZ):Prop where
 aD:H cu=some (.lst (aB.map V.int))
 cp:1≤aB.length
 cI:aB.length≤100
 hd:H dl=some (.lst us)
 ja:bE H (aM.map cZ.D) us
 zY:aM.length≤110
 EM:∀e∈aM,lA e
theorem w2.mono {H af:aj}{cu dl:Addr}{aB:List Int}{us:List V}{aM:List cZ}(L:w2 H cu dl aB us aM) (s:bY H af):w2 af cu dl aB us aM :=
 ⟨s _ _ L.aD,L.cp,L.cI,s _ _ L.hd,bE.mono s _ _ L.ja,L.zY,L.EM⟩
theorem QG {n:Nat}(aN:n≤1000):∀e∈ni n,lA e:=by
 intro e he
 obtain⟨i,aW,rfl⟩:=mem_map.mp he
 have:=List.mem_range.mp aW
 exact qA (by omega)
theorem Hh (a:dn):(told a).ez≤3:=by
 cases a with
 | num i=>exact le_of_ble_eq_true (by show Nat.ble (D.int i).ez 3=true;rw[sz];rfl)
 | word w =>
  show D.ez (if w="done" then .str w else .tup [.str "refused",.str w])≤3
  split
  ·rw[qK];decide
  ·rw[HX,l9,l9,ma,qK,qK];decide
theorem G_ (x:aE) (e:cZ):∀w,(x.bX e).2=.word w→w="done"∨w="no dealing"∨w="no page"∨w="taken"∨w="no room":=fun w h=>by
 rcases tV x e with ⟨i,hw⟩ | hw | hw | hw | hw | hw
 ·rw[hw]at h;cases h
 ·rw[hw]at h;cases h;exact .inl rfl
 ·rw[hw]at h;cases h;exact .inr (.inl rfl)
 ·rw[hw]at h;cases h;exact .inr (.inr (.inl rfl))
 ·rw[hw]at h;cases h;exact .inr (.inr (.inr (.inl rfl)))
 ·rw[hw]at h;cases h;exact .inr (.inr (.inr (.inr rfl)))
theorem xq {w:Str}(h:¬w="done"):sE (.word w)=.str "refused":=if_neg h
theorem PC:sE (.word "done")=.str "done":=by
 unfold sE
 dsimp only
 rw[if_pos rfl]
theorem in4 (a:dn) (h:∀w,a=.word w→w="done"∨w="no dealing"∨w="no page"∨w="taken"∨w="no room") :
  (gq a.v [.str "no dealing",.str "no page",.str "taken",.str "no room"]=true∧sE a=.str "refused")∨(gq a.v [.str "no dealing",.str "no page",.str "taken",.str "no room"]=false∧sE a=a.D):=by
 cases a with
 | num i=>exact .inr ⟨rfl,rfl⟩
 | word w =>
  rcases h w rfl with rfl | rfl | rfl | rfl | rfl
  ·exact .inr ⟨by decide +kernel,PC⟩
  ·exact .inl ⟨by decide +kernel,xq (by decide +kernel)⟩
  ·exact .inl ⟨by decide +kernel,xq (by decide +kernel)⟩
  ·exact .inl ⟨by decide +kernel,xq (by decide +kernel)⟩
  ·exact .inl ⟨by decide +kernel,xq (by decide +kernel)⟩
theorem Sh (a:dn):a.D.ez=1:=by
 cases a with
 | num i=>exact sz _
 | word w=>exact qK _
theorem RB (a:dn):nk a.v=true:=by cases a <;> rfl
theorem SV {aH au qf qe:Addr}{qi dL:FuncData}{bJ bB bM bI:Addr}{rV hO kV gu eB E3 E5 tx rU E2 E1 hN:Addr}{wO iU m4 g6 fx OJ b2 wL wN OI OH iT:FuncData}(F:bZ K "law" "law" qV f fd) (B:fc mg) (T:hn K mg au) (Ar:r6 K au qf) (qo:a5 P w K mg base b1 3 qf qi q2 (xQ aH au)) (tG:Binds K qi q2 [])
  (r9:a5 P w K mg base (c4 P w) 2 qe dL fU (uu aH au bJ bB bM bI)) (r0:Binds K dL fU []) (rO:Meth K au "look" qe)
  (Au:a5 P w K mg base b1 1 rV wO uX (Jf K)) (Al:Binds K wO uX []) (Ae:keepIn K (.ref rV)=true) (d3:mg "_law_at"=some (.ref rV))
  (m9:a5 P w K mg base b1 1 hO iU nB Hr) (m5:Binds K iU nB []) (wu:keepIn K (.ref hO)=true) (mX:mg "_law_count_by"=some (.ref hO))
  (r8:a5 P w K mg base b1 1 kV m4 nB HY) (rZ:Binds K m4 nB []) (wm:keepIn K (.ref kV)=true) (lW:mg "_law_room_of"=some (.ref kV))
  (jQ:a5 P w K mg base b1 1 gu g6 uV Hl) (jN:Binds K g6 uV []) (rR:keepIn K (.ref gu)=true) (hL:mg "_law_pages_of"=some (.ref gu))
  (gy:a5 P w K mg base b1 2 eB fx yL Hq) (gx:Binds K fx yL []) (jd:keepIn K (.ref eB)=true) (fH:mg "_law_deeds"=some (.ref eB))
  (Zc:a5 P w K mg base b1 9 E3 OJ yK Gn) (YS:Binds K OJ yK []) (Yz:keepIn K (.ref E3)=true) (Yu:mg "answers"=some (.ref E3))
  (qn:a5 P w K mg base b1 2 E5 b2 yU Hu) (qk:Binds K b2 yU []) (qc:keepIn K (.ref E5)=true) (qb:mg "_law_alike"=some (.ref E5))
  (w6:a5 P w K mg base b1 1 tx wL yO Ho) (wV:Binds K wL yO []) (Ox:keepIn K (.ref tx)=true) (wi:mg "_law_house_of"=some (.ref tx))
  (GE:a5 P w K mg base b1 5 rU wN pK F8) (wW:Binds K wN pK []) (wo:keepIn K (.ref rU)=true) (wj:mg "_law_answered"=some (.ref rU))
  (OY:a5 P w K mg base b1 8 E2 OI j0 (AX aH au)) (OP:Binds K OI j0 []) (Ow:keepIn K (.ref E2)=true) (Om:mg "_law_by_hand"=some (.ref E2))
  (Zb:a5 P w K mg base b1 8 E1 OH j0 (Bc aH au)) (YR:Binds K OH j0 []) (Yy:keepIn K (.ref E1)=true) (Yt:mg "_law_by_any"=some (.ref E1))
  (l6:a5 P w K mg base b1 1 hN iT uT Ht) (l4:Binds K iT uT []) (tw:keepIn K (.ref hN)=true) (lV:mg "_law_as_due"=some (.ref hN)) :
  a5 P w K mg base b1 10 f fd yJ (yq K):=by
 refine F.ok ir (fun vs H Q E h=>?_) (fun cg A outer s H vs Q E aI h=>?_)
 ·obtain⟨a,ns,rfl,_⟩:=h
  rfl
 obtain⟨a,ns,rfl,l0,Z1,q⟩:=h
 obtain⟨ek,aC,aU⟩:∃t,f9 (fm b1 P w K mg base CA "law" (cT qV) f cg A outer s H E).lD ((su ((h1 qV).getD 16 (.Pass ⟨0,0,0,0⟩))).drop 2) t∧∀(D:Ends) (dR H1:aj) (cu dl hP on bK di:Addr) (cz cY:nM) (cp cI:mM) (x y z:aE) (us ys g7:List V) (v:V) (e:cZ) (room:Int) (i n:Nat) (bU b5 fT mA:Option V),D.j9=Q→gV aH au dR H1 [on,bK,di] cz cY cp cI x y z z→dR dl=some (.lst us)→us[i]?=some v→Rep dR e.D v→lA e→y.good n→n≤110→cp.aA.length≤1000→y.begun≤900→H1 di=some (.lst ys)→ys[i]?=some (y.bX e).2.v→H1 on=some (.lst g7)→H1 bK=some (.lst g7) →
   (∀(h4:mM) (aq:aj) (mA:Option V),h4.a=cp.a→h4.aA.length≤cp.aA.length+1→gV aH au dR aq [on,bK,di] cz cY h4 cI x (y.bX e).1 z z→aq di=some (.lst ys)→aq on=some (.lst g7)→aq bK=some (.lst g7)→D.c9 [some (.ref a),bU,b5,some (.int room),some (.ref cu),some (.ref dl),some (.ref hP),some (.ref on),some (.ref cp.a.h),some (.ref cI.a.h),some (.ref bK),some (.ref cz.h),some (.ref cY.h),some (.ref di),some (.int ((i:Nat):Int)),fT,mA] aq) →
   t D [some (.ref a),bU,b5,some (.int room),some (.ref cu),some (.ref dl),some (.ref hP),some (.ref on),some (.ref cp.a.h),some (.ref cI.a.h),some (.ref bK),some (.ref cz.h),some (.ref cY.h),some (.ref di),some (.int ((i:Nat):Int)),fT,mA] H1:=by
  refine⟨_,(aY (cO (cU d2 (c0 ih (ah 14) aX) aX (cN _)) (bl (cQ (i:=16) ir.bk rfl (Or.inl rfl) (dj Zb (b6 aI) rfl Yt Yy YR .nil cW (ak (ah 8) (ak (bP ee (ah 5) (ah 14) (fun _ _=>rfl)) aK)))) (aY (cO (cU xy (bP ee (ah 13) (ah 14) (fun _ _=>rfl)) (fC (ak bg (ak bg (ak bg (ak bg aK))))) (by with_unfolding_all rfl)) (aY (cO (mb (i0 (dj qn (b6 aI) rfl qb qc qk .nil cW (ak (ah 16) (ak bg aK))))) (aY (dc jj)) dK)) (aY (cO (mb (i0 (dj qn (b6 aI) rfl qb qc qk .nil cW (ak (ah 16) (ak (bP ee (ah 13) (ah 14) (fun _ _=>rfl)) aK))))) (aY (dc jj)) dK))))) (aY (cO (mb (i0 (dj qn (b6 aI) rfl qb qc qk .nil cW (ak (dj OY (b6 aI) rfl Om Ow OP .nil cW (ak (ah 8) (ak (bP ee (ah 5) (ah 14) (fun _ _=>rfl)) aK))) (ak (dj l6 (b6 aI) rfl lV tw l4 .nil cW (ak (bP ee (ah 13) (ah 14) (fun _ _=>rfl)) aK)) aK))))) (aY (dc jj)) dK)))),?_⟩
  intro D dR H1 cu dl hP on bK di cz cY cp cI x y z us ys g7 v e room i n bU b5 fT mA l1 W j3 bA re gO X8 aN t1 X9 kI cA oB nF eZ
  have bf:=G_ y e
  have OU:Ready aH au H1 cp.a cp.lo cp.pl y cp.aA n:=⟨W.g9,X8,aN,by omega,X9⟩
  refine⟨_,rfl,_,_,rfl,rfl,(by decide:(0:Int)<3),rfl,_,rfl,fE (fun _=>?_) (fun _=>?_)⟩
  ·refine⟨_,rfl,_,rfl,_,rfl,dl,_,_,_,rfl,rfl,aV.of (W.bS.cV _ _ j3),ng bA,cp.a,cp.lo,cp.pl,y,cp.aA,n,v,e,rfl,OU,Rep.mono W.bS.cV _ _ re,gO,fun lo' c3 c7 u aq a_ h5 d_ dW=>?_⟩
   obtain⟨l5,f2⟩:=W.Iq (h4:=⟨cp.a,lo',c3,c7⟩) rfl a_ d_
   have jX:=f2 di _ (by simp) kI
   have pM:=f2 on _ (by simp) oB
   have pO:=f2 bK _ (by simp) nF
   refine⟨_,rfl,_,rfl,di,_,_,_,rfl,rfl,aV.of jX,ng cA,cX,fun l aG=>⟨l,_,rfl,.inl (aV.of aT),RB _,rfl,_,rfl,?_⟩⟩
   have s3:=b3 aG (.lst [.str "no dealing",.str "no page",.str "taken",.str "no room"])
   have o7:=l5.same s3
   generalize upd aq l (.lst [.str "no dealing",.str "no page",.str "taken",.str "no room"])=a3 at s3 o7 ⊢
   rcases in4 (y.bX e).2 bf with ⟨hx,kj⟩ | ⟨hx,kj⟩
   ·show if gq (y.bX e).2.v _=true then _ else _
    rw[hx]
    refine eY ?_
    rw[kj]at dW
    refine⟨_,rfl,_,_,.str "refused",rfl,Rep.mono s3 _ _ dW,.ofStr,by rw[qK];decide,fun c6 s4=>⟨_,rfl,dQ ?_⟩⟩
    exact eZ ⟨cp.a,lo',c3,c7⟩ _ _ rfl h5 (o7.same s4) ((s3.trans s4) _ _ jX) ((s3.trans s4) _ _ pM) ((s3.trans s4) _ _ pO)
   ·show if gq (y.bX e).2.v _=true then _ else _
    rw[hx]
    refine dQ ?_
    rw[kj]at dW
    refine⟨_,rfl,_,rfl,_,rfl,di,_,_,_,rfl,rfl,aV.of (s3 _ _ jX),ng cA,_,_,(y.bX e).2.D,rfl,Rep.mono s3 _ _ dW,dn.rep _,by rw[Sh];decide,fun c6 s4=>⟨_,rfl,dQ ?_⟩⟩
    exact eZ ⟨cp.a,lo',c3,c7⟩ _ _ rfl h5 (o7.same s4) ((s3.trans s4) _ _ jX) ((s3.trans s4) _ _ pM) ((s3.trans s4) _ _ pO)
  ·refine⟨_,rfl,_,rfl,_,rfl,dl,_,_,_,rfl,rfl,aV.of (W.bS.cV _ _ j3),ng bA,cp.a,cp.lo,cp.pl,y,cp.aA,n,v,e,rfl,OU,Rep.mono W.bS.cV _ _ re,gO,fun lo' c3 c7 u aq a_ h5 d_ dW=>?_⟩
   obtain⟨l5,f2⟩:=W.Iq (h4:=⟨cp.a,lo',c3,c7⟩) rfl a_ d_
   have jX:=f2 di _ (by simp) kI
   have pM:=f2 on _ (by simp) oB
   have pO:=f2 bK _ (by simp) nF
   refine⟨_,rfl,_,rfl,di,_,_,_,rfl,rfl,aV.of jX,ng cA,(y.bX e).2,rfl,bf,fun gb a3 s3 C7=>?_⟩
   have tg:=Hh (y.bX e).2
   refine⟨_,_,told (y.bX e).2,rfl,Rep.mono s3 _ _ dW,C7,by omega,fun c6 s4=>⟨_,rfl,dQ ?_⟩⟩
   exact eZ ⟨cp.a,lo',c3,c7⟩ _ _ rfl h5 ((l5.same s3).same s4) ((s3.trans s4) _ _ jX) ((s3.trans s4) _ _ pM) ((s3.trans s4) _ _ pO)
 obtain⟨Zy,Xe,VQ⟩:∃t,f9 (fm b1 P w K mg base CA "law" (cT qV) f cg A outer s H E).lD ((h1 qV).drop 16) t∧∀(dR H1:aj) (cu dl hP on bK di:Addr) (cz cY:nM) (cp cI:mM) (us:List V) (g7:List Int) (aB:List Int) (aM:List cZ) (room:Int) (bU:Option V),w2 dR cu dl aB us aM→dR hP=some (.lst (((ea aB room).says aM).map dn.v))→gV aH au dR H1 [on,bK,di] cz cY cp cI (ea aB room) (ea aB room) (ea aB room) (ea aB room)→H1 di=some (.lst [])→H1 on=some (.lst (g7.map V.int))→H1 bK=some (.lst (g7.map V.int))→g7.length≤1000→cp.aA=[]→cI.aA=[]→on≠di→bK≠di →
   t { c9:=fun _ aq=>Q .cc aq,j9:=Q } [some (.ref a),bU,some (.int ((aB.length:Nat):Int)),some (.int room),some (.ref cu),some (.ref dl),some (.ref hP),some (.ref on),some (.ref cp.a.h),some (.ref cI.a.h),some (.ref bK),some (.ref cz.h),some (.ref cY.h),some (.ref di),none,none,none] H1:=by
  refine⟨_,(bl (kC PassesOwn.never rfl (pn rfl B.kG (ak (eV hX rfl B.len PySem.boot_len (ak (ah 5) aK)) aK)) (hY (i:=14) ir.bk rfl (Or.inl rfl)) (bl (dD (i2 plainAttrs_list PySem.F.slot_list_append PySem.F.type_list_append iY (ah 13) (ak (dj GE (b6 aI) rfl wj wo wW .nil cW (ak (ah 11) (ak (bP ee (ah 5) (ah 14) (fun _ _=>rfl)) aK))) aK))) (bl (cO (cU d2 (c0 ih (ah 14) aX) aX (cN _)) (bl (cQ (i:=15) ir.bk rfl (Or.inl rfl) (dj GE (b6 aI) rfl wj wo wW .nil cW (ak (ah 12) (ak (bP ee (ah 5) (ah 14) (fun _ _=>rfl)) aK)))) (aY (cO (mb (i0 (dj qn (b6 aI) rfl qb qc qk .nil cW (ak (dj OY (b6 aI) rfl Om Ow OP .nil cW (ak (ah 9) (ak (bP ee (ah 5) (ah 14) (fun _ _=>rfl)) aK))) (ak (dj l6 (b6 aI) rfl lV tw l4 .nil cW (ak (ah 15) aK)) aK))))) (aY (dc jj)) dK))) dK) aC))) (bl (kC PassesOwn.never rfl (pn rfl B.kG (ak (ah 2) aK)) (hY (i:=14) ir.bk rfl (Or.inl rfl)) (aY (cO (mb (i0 (dj qn (b6 aI) rfl qb qc qk .nil cW (ak (fB (ah 9) T.cl rO r9 (b6 aI) r0 .nil (SM rfl rfl rfl) (ak (ah 14) aK)) (ak (dj GE (b6 aI) rfl wj wo wW .nil cW (ak (ah 12) (ak (fQ (ak bg (ak (ah 14) aK))) aK))) aK))))) (aY (dc jj)) dK))) (aY (dc (uA (dj qn (b6 aI) rfl qb qc qk .nil cW (ak (ah 7) (ak (ah 10) aK))) (uA (eV n4 rfl B.ju jl (ak (ah 6) (ak (la (v:=.ty "list") rfl B.lst i3 rfl) aK))) (yc (dj qn (b6 aI) rfl qb qc qk .nil cW (ak (ah 6) (ak (ah 13) aK)))))))))),?_⟩
  intro dR H1 cu dl hP on bK di cz cY cp cI us g7 aB aM room bU L DE W kI oB nF aaP t1 ek Dc Df
  have zl:us.length=aM.length:=by rw[bE.length L.ja,length_map]
  have zY:=L.zY
  have j3:=L.hd
  have aJ:(cp.a.h,cI.a.h,cz.h,cY.h)=(cp.a.h,cI.a.h,cz.h,cY.h):=rfl
  refine⟨_,rfl,dl,us,rfl,.inl (aV.of (W.bS.cV _ _ L.hd)),_,rfl,by omega,by omega,sk (fun i σ aq=>∃(iw h5:nM) (h4 lB:mM) (z:aE) (m:Nat) (gp fT mA:Option V),σ=[some (.ref a),bU,some (.int ((aB.length:Nat):Int)),some (.int room),some (.ref cu),some (.ref dl),some (.ref hP),some (.ref on),some (.ref cp.a.h),some (.ref cI.a.h),some (.ref bK),some (.ref cz.h),some (.ref cY.h),some (.ref di),gp,fT,mA]∧(iw.h=cz.h∧h5.h=cY.h∧h4.a=cp.a∧lB.a=cI.a)∧gV aH au dR aq [on,bK,di] iw h5 h4 lB ((ea aB room).run (aM.take i)) ((ea aB room).run (aM.take i)) z z∧aq di=some (.lst (((ea aB room).says (aM.take i)).map dn.v))∧aq on=some (.lst (g7.map V.int))∧aq bK=some (.lst (g7.map V.int))∧z.good m∧m≤i∧z.begun≤i∧z.aO.length=aB.length∧h4.aA.length≤i∧lB.aA.length≤i)
   ⟨cz,cY,cp,cI,ea aB room,0,none,none,none,rfl,⟨rfl,rfl,rfl,rfl⟩,W,kI,oB,nF,A5 L.cp L.cI,le_refl _,le_refl _,rfl,by rw[t1];exact le_refl _,by rw[ek];exact le_refl _⟩ ?_ ?_⟩
  ·rintro i σ aq j2 ⟨k1,k2,oY,hM,z,m,gp,fT,mA,rfl,⟨DZ,DY,DX,DW⟩,l5,jX,pM,pO,rD,X4,X6,oQ,VC,sS⟩
   have e0:(0:Int)+(i:Int)=((i:Nat):Int):=by omega
   rw[e0]
   have aW:i<us.length:=by omega
   obtain⟨v,bA⟩:∃v,us[i]?=some v:=⟨_,getElem?_eq_getElem aW⟩
   obtain⟨e,he,re⟩:=sm L.ja bA
   have gO:=L.EM e (mem_of_getElem? he)
   have lt:(aM.take i).length=i:=by rw[length_take];omega
   have hy:=(A5 (room:=room) L.cp L.cI).run (aM.take i) (by omega)
   rw[lt,zero_add]at hy
   have wR:((ea aB room).run (aM.take i)).begun≤i:=by
    have av:=AV (aM.take i) (ea aB room)
    have aC:(ea aB room).begun=0:=rfl
    omega
   have bG:aM.take (i+1)=aM.take i++[e]:=by rw[take_add_one,he];rfl
   have Va:(ea aB room).run (aM.take (i+1))=(((ea aB room).run (aM.take i)).bX e).1:=by rw[bG,A2]
   have U_:((ea aB room).says (aM.take (i+1))).map dn.v=((ea aB room).says (aM.take i)).map dn.v++[(((ea aB room).run (aM.take i)).bX e).2.v]:=by rw[bG,AP,map_append];rfl
   have Lv:(((ea aB room).says (aM.take i)).map dn.v).length=i:=by rw[length_map,xe,lt]
   rw[Va,U_]
   generalize ((ea aB room).says (aM.take i)).map dn.v=ys at jX Lv ⊢
   generalize (ea aB room).run (aM.take i)=x at l5 hy wR ⊢
   rw[←DZ,←DY,←DX,←DW]
   refine⟨_,rfl,.inl ⟨rfl,_,aV.of jX⟩,_,rfl,_,rfl,_,rfl,dl,_,_,_,rfl,rfl,aV.of (l5.bS.cV _ _ j3),ng bA,k1.h,k1.ce,k1.ao,k1.lo,k1.pu,k1.st,k1.pl,x,v,e,i,rfl,l5.bO,Rep.mono l5.bS.cV _ _ re,hy,by omega,fun vq ve fy Zg gS gU=>?_⟩
   obtain⟨Y4,tD⟩:=l5.U7 (iw:=⟨k1.h,k1.ce,k1.ao,vq,k1.pu,k1.st,ve⟩) ⟨rfl,rfl,rfl,rfl,rfl⟩ Zg gS gU
   have JJ:=tD di _ (by simp) jX
   have Ve:=tD on _ (by simp) pM
   have Vk:=tD bK _ (by simp) pO
   refine⟨di,ys,_,rfl,rfl,JJ,n6 (by omega),?_⟩
   have tM:=Y4.cell (vs:=ys++[(x.bX e).2.v]) (b:=di) (by simp) JJ
   have CN:(upd fy di (.lst (ys++[(x.bX e).2.v]))) di=some (.lst (ys++[(x.bX e).2.v])):=aT
   have CF:(upd fy di (.lst (ys++[(x.bX e).2.v]))) on=some (.lst (g7.map V.int)):=by rw[ay Dc];exact Ve
   have CJ:(upd fy di (.lst (ys++[(x.bX e).2.v]))) bK=some (.lst (g7.map V.int)):=by rw[ay Df];exact Vk
   generalize upd fy di (.lst (ys++[(x.bX e).2.v]))=kA at tM CN CF CJ ⊢
   have Mg:(ys++[(x.bX e).2.v])[i]?=some (x.bX e).2.v:=by
    rw[getElem?_append_right (by omega),Lv,sub_self]
    rfl
   refine⟨_,rfl,_,_,rfl,rfl,(by decide:(0:Int)<4),rfl,_,rfl,fE (fun _=>?_) (fun _=>?_)⟩
   ·refine⟨_,rfl,_,rfl,_,rfl,dl,_,_,_,rfl,rfl,aV.of (tM.bS.cV _ _ j3),ng bA,k2.h,k2.ce,k2.ao,k2.lo,k2.pu,k2.st,k2.pl,z,v,e,m,rfl,tM.a_,Rep.mono tM.bS.cV _ _ re,rD,by omega,fun Dp C9 OX Zf iD jF=>?_⟩
    obtain⟨An,tC⟩:=tM.JD (h5:=⟨k2.h,k2.ce,k2.ao,Dp,k2.pu,k2.st,C9⟩) Zf iD jF
    have Vp:=tC di _ (by simp) CN
    have Vd:=tC on _ (by simp) CF
    have Vj:=tC bK _ (by simp) CJ
    have Y7:Ready aH au OX hM.a hM.lo hM.pl z hM.aA m:=⟨An.fz,rD,by omega,by omega,by omega⟩
    refine⟨_,rfl,_,rfl,_,rfl,dl,_,_,_,rfl,rfl,aV.of (An.bS.cV _ _ j3),ng bA,hM.a,hM.lo,hM.pl,z,hM.aA,m,v,e,rfl,Y7,Rep.mono An.bS.cV _ _ re,gO,fun lo' c3 c7 u aaK X3 vr sW dW=>?_⟩
    obtain⟨Xs,ta⟩:=An.Ip (lB:=⟨hM.a,lo',c3,c7⟩) rfl X3 sW
    have Uc:=ta di _ (by simp) Vp
    have T9:=ta on _ (by simp) Vd
    have Ua:=ta bK _ (by simp) Vj
    refine⟨_,rfl,(z.bX e).2,rfl,G_ z e,fun gb aaJ KO C7=>?_⟩
    have tg:=Hh (z.bX e).2
    refine⟨_,_,told (z.bX e).2,rfl,Rep.mono KO _ _ dW,C7,by omega,fun Xx VL=>⟨_,rfl,dQ ?_⟩⟩
    have zM:=KO.trans VL
    have Zv:=FI z e
    refine aU _ dR Xx cu dl hP on bK di ⟨k1.h,k1.ce,k1.ao,vq,k1.pu,k1.st,ve⟩ ⟨k2.h,k2.ce,k2.ao,Dp,k2.pu,k2.st,C9⟩ oY ⟨hM.a,lo',c3,c7⟩ _ x _ us _ _ v e room i i _ _ _ _ rfl (Xs.same zM) j3 bA re gO hy (by omega) (by omega) (by omega) (zM _ _ Uc) Mg (zM _ _ T9) (zM _ _ Ua) fun h4 aq mA DU VD Fe fX eF Ai=>?_
    have vr:c7.length≤hM.aA.length+1:=vr
    refine⟨⟨k1.h,k1.ce,k1.ao,vq,k1.pu,k1.st,ve⟩,⟨k2.h,k2.ce,k2.ao,Dp,k2.pu,k2.st,C9⟩,h4,⟨hM.a,lo',c3,c7⟩,(z.bX e).1,m+1,_,_,_,rfl,⟨rfl,rfl,DU,rfl⟩,Fe,fX,eF,Ai,rD.bX (by omega) e,by omega,by omega,by rw[Pj,oQ],by omega,by show c7.length≤_;omega⟩
   ·refine aU _ dR kA cu dl hP on bK di ⟨k1.h,k1.ce,k1.ao,vq,k1.pu,k1.st,ve⟩ k2 oY hM _ x _ us _ _ v e room i i _ _ _ _ rfl tM j3 bA re gO hy (by omega) (by omega) (by omega) CN Mg CF CJ fun h4 aq mA DU VD Fe fX eF Ai=>?_
    exact⟨⟨k1.h,k1.ce,k1.ao,vq,k1.pu,k1.st,ve⟩,k2,h4,hM,z,m,_,_,_,rfl,⟨rfl,rfl,DU,rfl⟩,Fe,fX,eF,Ai,rD,by omega,by omega,oQ,by omega,by omega⟩
  ·rintro σ aq ⟨Mc,k2,Me,hM,z,m,gp,fT,mA,rfl,⟨DZ,DY,DX,DW⟩,l5,jX,pM,pO,rD,X4,X6,oQ,VC,sS⟩
   have wI:((us.length:Int)).toNat=aM.length:=by omega
   rw[wI,take_length]at jX
   rw[wI,take_length]at l5
   rw[←DZ,←DY,←DX,←DW]
   have lB:=L.cI
   refine⟨_,rfl,_,rfl,by omega,by omega,sk (fun i σ a3=>∃(k1 hr:nM) (oY iM:mM) (x:aE) (gp:Option V),σ=[some (.ref a),bU,some (.int ((aB.length:Nat):Int)),some (.int room),some (.ref cu),some (.ref dl),some (.ref hP),some (.ref on),some (.ref Me.a.h),some (.ref hM.a.h),some (.ref bK),some (.ref Mc.h),some (.ref k2.h),some (.ref di),gp,fT,mA]∧(hr.h=k2.h∧iM.a=hM.a)∧gV aH au dR a3 [on,bK,di] k1 hr oY iM x x z z∧a3 di=some (.lst (((ea aB room).says aM).map dn.v))∧a3 on=some (.lst (g7.map V.int))∧a3 bK=some (.lst (g7.map V.int))∧iM.aA.length≤aM.length+i)
    ⟨Mc,k2,Me,hM,_,gp,rfl,⟨rfl,rfl⟩,l5,jX,pM,pO,by omega⟩ ?_ ?_⟩
   ·rintro i σ a3 aW ⟨k1,hr,oY,iM,x,gp,rfl,⟨MD,MC⟩,o7,CO,CG,CK,C1⟩
    have e0:(0:Int)+(i:Int)=((i:Nat):Int):=by omega
    rw[e0]
    rw[←MD,←MC]
    obtain⟨dx,vh⟩:=o7.fz.bT
    have Y8:Ready aH au a3 iM.a iM.lo iM.pl z iM.aA m:=⟨o7.fz,rD,by omega,by omega,by omega⟩
    have ey:z.refusal (.look ((i:Nat):Int))=none:=by
     show (if (((i:Nat):Int)<0∨(z.aO.length:Int)≤((i:Nat):Int)) then some ("no page":Str) else none)=none
     rw[if_neg (by omega)]
    have az:z.bX (.look ((i:Nat):Int))=(z,.num (z.aO.getD i 0)):=by
     unfold aE.bX
     rw[ey]
     show (z,dn.num (z.aO.getD ((i:Nat):Int).toNat 0))=_
     rw[Int.toNat_natCast]
    refine⟨_,rfl,iM.a.h,dx,_,rfl,vh,(by kernel_rfl),_,rfl,iM.a,iM.lo,iM.pl,z,iM.aA,m,_,rfl,Y8,qA (by omega),fun lo' c3 c7 c6 d4 jH gG=>?_⟩
    rw[az]at d4 ⊢
    obtain⟨Xr,f4⟩:=o7.Ip (lB:=⟨iM.a,lo',c3,c7⟩) rfl d4 gG
    refine⟨_,rfl,_,rfl,cX,fun t bG=>?_⟩
    have s5:=b3 bG (.tup [.str "look",.int ((i:Nat):Int)])
    have ed:(upd c6 t (.tup [.str "look",.int ((i:Nat):Int)])) t=some (.tup [.str "look",.int ((i:Nat):Int)]):=aT
    have Fd:=Xr.same s5
    generalize upd c6 t (.tup [.str "look",.int ((i:Nat):Int)])=e_ at s5 ed Fd ⊢
    refine⟨hr.h,hr.ce,hr.ao,hr.lo,hr.pu,hr.st,hr.pl,z,_,.look ((i:Nat):Int),m,rfl,Fd.a_,.f3 ed (.cons .ofStr (.cons .ofInt .nil)),rD,by omega,fun zm KV iW tU kg fi=>?_⟩
    rw[az]at tU ⊢
    obtain⟨Y5,Ag⟩:=Fd.JD (h5:=⟨hr.h,hr.ce,hr.ao,zm,hr.pu,hr.st,KV⟩) tU kg fi
    have E7:∀b o,b∈[on,bK,di]→a3 b=some o→iW b=some o:=fun b o aa e=>Ag b o aa (s5 _ _ (f4 b o aa e))
    refine⟨_,_,.int (z.aO.getD i 0),rfl,.ofInt,.ofInt,by rw[sz];decide,fun fy gR=>⟨_,rfl,dQ ?_⟩⟩
    have jH:c7.length≤iM.aA.length+1:=jH
    exact⟨k1,⟨hr.h,hr.ce,hr.ao,zm,hr.pu,hr.st,KV⟩,oY,⟨iM.a,lo',c3,c7⟩,x,_,rfl,⟨rfl,rfl⟩,Y5.same gR,gR _ _ (E7 di _ (by simp) CO),gR _ _ (E7 on _ (by simp) CG),gR _ _ (E7 bK _ (by simp) CK),by show c7.length≤_;omega⟩
   ·rintro σ a3 ⟨k1,hr,oY,iM,x,gp,rfl,⟨MD,MC⟩,o7,CO,CG,CK,C1⟩
    obtain⟨dL,Og,Zt⟩:=Gr a3 g7
    refine⟨_,rfl,_,rfl,_,_,.lst dL,rfl,.sG CG Og,.sG CK Og,by rw[x5];omega,fun c6 s4=>⟨_,rfl,eY ?_⟩⟩
    have JI:=(o7.bS.cV.trans s4) _ _ DE
    refine⟨_,rfl,_,_,_,_,rfl,.lst JI,AB K,_,rfl,eY ?_⟩
    have r:=AR c6 ((ea aB room).says aM)
    have EJ:=GO ((ea aB room).says aM)
    rw[xe]at EJ
    exact⟨_,rfl,_,rfl,_,_,.lst (((ea aB room).says aM).map dn.D),rfl,.sG JI r,.sG (s4 _ _ CO) r,by rw[x5];omega,fun e_ _=>q e_⟩
 refine⟨_,(bl (cQ (i:=1) ir.bk rfl (Or.inl rfl) (dj Au (b6 aI) rfl d3 Ae Al .nil cW (ak (ah 0) (ak aX aK)))) (bl (cQ (i:=2) ir.bk rfl (Or.inl rfl) (dj m9 (b6 aI) rfl mX wu m5 .nil cW (ak (ah 1) aK))) (bl (cQ (i:=3) ir.bk rfl (Or.inl rfl) (dj r8 (b6 aI) rfl lW wm rZ .nil cW (ak (ah 1) aK))) (bl (cQ (i:=4) ir.bk rfl (Or.inl rfl) (dj jQ (b6 aI) rfl hL rR jN .nil cW (ak (dj Au (b6 aI) rfl d3 Ae Al .nil cW (ak (ah 0) (ak aX aK))) (ak (ah 2) aK)))) (bl (cQ (i:=5) ir.bk rfl (Or.inl rfl) (c0 yf (dj gy (b6 aI) rfl fH jd gx .nil cW (ak (xG xS (ah 0) (xU aX) xV) (ak (ah 2) aK))) (uf [] ["_law_k"] (jU.plain (by decide +kernel) rfl rfl) rfl (pn rfl B.kG (ak (ah 2) aK)) (fun C s1 H1 cj=>(fQ (ak bg (ak (ah 0) aK))))))) (bl (cQ (i:=6) ir.bk rfl (Or.inl rfl) (dj Zc (b6 aI) rfl Yu Yz YS .nil cW (ak (hl n0 rfl B.lst i3 (ak (ah 4) aK)) (ak (ah 3) (ak (hl n0 rfl B.lst i3 (ak (ah 5) aK)) aK))))) (bl (cQ (i:=7) ir.bk rfl (Or.inl rfl) (hl n0 rfl B.lst i3 (ak (ah 4) aK))) (bl (cQ (i:=8) ir.bk rfl (Or.inl rfl) (xX Ar qo (b6 aI) rfl T.vn tG .nil cW (ak (ah 7) (ak (ah 3) aK)))) (bl (cQ (i:=9) ir.bk rfl (Or.inl rfl) (xX Ar qo (b6 aI) rfl T.vn tG .nil cW (ak (ah 7) (ak (ah 3) aK)))) (bl (cO (mb (i0 (dj qn (b6 aI) rfl qb qc qk .nil cW (ak (ah 7) (ak (ah 4) aK))))) (aY (dc jj)) dK) (bl (dD (BX plainAttrs_list PySem.F.slot_list_reverse PySem.F.type_list_reverse PH (ah 7))) (bl (dD (i2 plainAttrs_list PySem.F.slot_list_append PySem.F.type_list_append iY (ah 7) (ak (c0 gN (bP ee (ah 7) aX (fun _ _=>rfl)) aX) aK))) (bl (cQ (i:=10) ir.bk rfl (Or.inl rfl) (hl n0 rfl B.lst i3 (ak (ah 7) aK))) (bl (cQ (i:=11) ir.bk rfl (Or.inl rfl) (dj w6 (b6 aI) rfl wi Ox wV .nil cW (ak (ah 4) (ak (ah 3) aK)))) (bl (cQ (i:=12) ir.bk rfl (Or.inl rfl) (dj w6 (b6 aI) rfl wi Ox wV .nil cW (ak (ah 4) (ak (ah 3) aK)))) (bl (cQ (i:=13) ir.bk rfl (Or.inl rfl) (fC aK)) Xe)))))))))))))))),?_⟩
 refine⟨_,rfl,a,ns,0,rfl,l0,by decide,fun hd=>?_⟩
 refine⟨_,rfl,hd,rfl,fun c H1 zE cE s1=>?_⟩
 refine⟨_,rfl,hd,rfl,fun room aq s2=>?_⟩
 have fY:=s1.trans s2
 refine⟨_,rfl,a,ns,1,rfl,fY.seq l0,by decide,fun cell=>⟨_,rfl,cell,c,rfl,zE,by omega,fun cu aB a3 s3 fL b9 tv=>?_⟩⟩
 have hT:=fY.trans s3
 refine⟨_,rfl,_,rfl,a,_,rfl,hT.seq l0,fun b_ av=>?_⟩
 have D0:(upd a3 b_ (.lst (ly (ns.map V.int) (some 2) none))) b_=some (.lst ((ns.drop 2).map V.int)):=by
  rw[aT]
  exact congrArg (fun l=>some (eU.lst l)) (Ry ns 2)
 have s4:=b3 av (.lst (ly (ns.map V.int) (some 2) none))
 generalize upd a3 b_ (.lst (ly (ns.map V.int) (some 2) none))=c6 at s4 D0 ⊢
 have Lw:(ns.drop 2).length≤63:=by rw[length_drop];omega
 refine⟨_,rfl,b_,ns.drop 2,c,rfl,D0,Lw,zE,cE,fun r q_ DS e_ s5 er oU EJ gO=>?_⟩
 refine⟨_,rfl,c,rfl,by omega,by omega,fun acc eg=>?_⟩
 refine PT eg (by omega) (fun k iW oX a4 ro=>?_) fun ys iW j8 kp oV=>?_
 ·refine⟨_,rfl,cX,fun t bG=>?_⟩
  have:=ro t bG
  have e0:(0:Int)+(k:Int)=(k:Int):=by omega
  rw[e0]
  exact this
 have U5:q_.length=DS.length:=by rw[bE.length oU,length_map]
 have pT:ys.length=c.toNat:=by rw[bE.length oV,length_map,FP]
 refine⟨r,acc,_,_,rfl,rfl,j8 _ _ er,kp,le_of_lt (n6 (by omega)),fun dl j3=>?_⟩
 have gR:=b3 j3 (.lst (q_++ys))
 have nY:(upd iW dl (.lst (q_++ys))) dl=some (.lst (q_++ys)):=aT
 generalize upd iW dl (.lst (q_++ys))=fy at gR nY ⊢
 have NK:=s4.trans (s5.trans (j8.trans gR))
 have w3:w2 fy cu dl aB (q_++ys) (DS++ni c.toNat):=by
  refine⟨NK _ _ b9,by omega,by omega,nY,?_,by rw[length_append,FP];omega,fun e he=>?_⟩
  ·rw[map_append]
   exact (bE.mono (j8.trans gR) _ _ oU).append (bE.mono gR _ _ oV)
  ·rcases mem_append.mp he with z | z
   ·exact gO e z
   ·exact QG (by omega) e z
 generalize q_++ys=us at w3
 generalize DS++ni c.toNat=aM at w3
 have YQ:c=((aB.length:Nat):Int):=by omega
 refine⟨_,rfl,cu,_,rfl,.inl (aV.of w3.aD),fun en DM=>?_⟩
 have iP:=b3 DM (.lst (aB.map V.int))
 have rY:(upd fy en (.lst (aB.map V.int))) en=some (.lst (aB.map V.int)):=aT
 generalize upd fy en (.lst (aB.map V.int))=kA at iP rY ⊢
 have Fi:=w3.mono iP
 refine⟨_,rfl,_,rfl,dl,_,rfl,.inl (aV.of Fi.hd),fun fk pZ=>?_⟩
 have oT:=b3 pZ (.lst us)
 have E9:(upd kA fk (.lst us)) fk=some (.lst us):=aT
 generalize upd kA fk (.lst us)=OX at oT E9 ⊢
 have r7:=Fi.mono oT
 refine⟨en,fk,aB,room,us,aM,rfl,oT _ _ rY,r7.cp,r7.cI,E9,r7.ja,r7.zY,r7.EM,fun hP dR jq DE=>?_⟩
 have L:=r7.mono jq
 have cp:=L.cp
 have cI:=L.cI
 clear s1 s2 fY s3 b9 fL hT av D0 s4 Lw er oU EJ s5 eg j8 kp oV U5 pT j3 gR nY NK w3 Fi r7 iP rY oT E9 jq DM pZ
 refine⟨_,rfl,cu,_,rfl,.inl (aV.of L.aD),fun on oB=>?_⟩
 have s1:=b3 oB (.lst (aB.map V.int))
 have aJ:(upd dR on (.lst (aB.map V.int))) on=some (.lst (aB.map V.int)):=aT
 generalize upd dR on (.lst (aB.map V.int))=tT at s1 aJ ⊢
 refine⟨_,rfl,_,rfl,?_⟩
 intro h dx gT rb ze
 have kY:bY tT (upd (upd tT dx (.own h)) h (.ins au dx [])):=fun b o e=>by
  rw[ay (cG e gT),ay (cG e rb)]
  exact e
 refine⟨h,dx,on,aB,room,rfl,aT,kY _ _ aJ,fun a1 lo1 r_ bf bO nv bK=>⟨rfl,?_⟩⟩
 subst bf
 have s2:bY tT r_:=fun b o e=>bK b o (kY b o e) (cG e gT)
 have f1:∀b,b∈a1.dJ lo1 []→tT b=none:=fun b aa=>by
  rcases nv b aa with z | z
  ·rw[z];exact gT
  ·exact kY.free z
 clear bK nv kY gT rb ze
 refine⟨_,rfl,_,rfl,?_⟩
 intro h dx gT rb ze
 have kY:bY r_ (upd (upd r_ dx (.own h)) h (.ins au dx [])):=fun b o e=>by
  rw[ay (cG e gT),ay (cG e rb)]
  exact e
 refine⟨h,dx,on,aB,room,rfl,aT,kY _ _ (s2 _ _ aJ),fun a2 dm w9 bf a_ nv bK=>⟨rfl,?_⟩⟩
 subst bf
 have s3:bY r_ w9:=fun b o e=>bK b o (kY b o e) (cG e gT)
 have f2:∀b,b∈a2.dJ dm []→r_ b=none:=fun b aa=>by
  rcases nv b aa with z | z
  ·rw[z];exact gT
  ·exact kY.free z
 clear bK nv kY gT rb ze
 have eu:=bO
 have bO:=bO.same s3
 obtain⟨tF,wd,zX⟩:=Gr w9 aB
 refine⟨_,rfl,_,rfl,_,_,.lst tF,rfl,.sG ((s2.trans s3) _ _ aJ) wd,.sG ((s1.trans (s2.trans s3)) _ _ L.aD) wd,by rw[x5];omega,fun qq s4=>⟨_,rfl,dQ ?_⟩⟩
 have bO:=bO.same s4
 have a_:=a_.same s4
 have NL:=s2.trans (s3.trans s4)
 have cC:=NL _ _ aJ
 have dF:on∉a1.dJ lo1 []:=fun m=>by rw[f1 on m]at aJ;cases aJ
 have c_:on∉a2.dJ dm []:=fun m=>by
  have:=s2 _ _ aJ
  rw[f2 on m]at this
  cases this
 refine⟨_,rfl,.inl ⟨rfl,_,aV.of cC⟩,on,_,rfl,rfl,cC,?_⟩
 have g9:=bO.sl (o:=.lst (aB.map V.int).reverse) dF cC
 have fz:=a_.sl (o:=.lst (aB.map V.int).reverse) c_ cC
 have ed:(upd qq on (.lst (aB.map V.int).reverse)) on=some (.lst (aB.reverse.map V.int)):=by rw[aT,List.map_reverse]
 have s5:bY dR (upd qq on (.lst (aB.map V.int).reverse)):=(s1.trans (NL)).iZ oB
 have hi:∀b o,b≠on→qq b=some o→(upd qq on (.lst (aB.map V.int).reverse)) b=some o:=fun b o aa e=>by rw[ay aa];exact e
 generalize upd qq on (.lst (aB.map V.int).reverse)=tS at g9 fz ed s5 hi ⊢
 obtain⟨iA,fX,eF⟩:=ji (ns:=aB.reverse) (k:=0) (by omega) (by rw[length_reverse];omega)
 refine⟨_,rfl,.inl ⟨rfl,_,aV.of ed⟩,_,rfl,on,_,_,_,rfl,rfl,aV.of ed,eF,_,_,rfl,rfl,on,_,_,rfl,rfl,ed,n6 (by rw[length_map,length_reverse];omega),?_⟩
 have g9:=g9.sl (o:=.lst (aB.reverse.map V.int++[.int (iA+1)])) dF ed
 have fz:=fz.sl (o:=.lst (aB.reverse.map V.int++[.int (iA+1)])) c_ ed
 have kp:(upd tS on (.lst (aB.reverse.map V.int++[.int (iA+1)]))) on=some (.lst ((aB.reverse++[iA+1]).map V.int)):=by rw[aT,map_append];rfl
 have j8:bY dR (upd tS on (.lst (aB.reverse.map V.int++[.int (iA+1)]))):=s5.iZ oB
 have N8:(aB.reverse++[iA+1]).length≤1000:=by rw[length_append,length_reverse,length_singleton];omega
 generalize upd tS on (.lst (aB.reverse.map V.int++[.int (iA+1)]))=tR at g9 fz kp j8 ⊢
 generalize aB.reverse++[iA+1]=g7 at kp N8
 clear ed s5 hi fX eF bO a_ cC
 refine⟨_,rfl,on,_,rfl,.inl (aV.of kp),fun bK nF=>?_⟩
 have gR:=b3 nF (.lst (g7.map V.int))
 have nY:(upd tR bK (.lst (g7.map V.int))) bK=some (.lst (g7.map V.int)):=aT
 have oW:on≠bK:=cG kp nF
 have fq:bK∉a1.dJ lo1 []:=fun m=>g9.alive bK m nF
 have d_:bK∉a2.dJ dm []:=fun m=>fz.alive bK m nF
 have k0:dR bK=none:=j8.free nF
 have tc:=gR _ _ kp
 have g9:=g9.same gR
 have fz:=fz.same gR
 have r2:=j8.trans gR
 generalize upd tR bK (.lst (g7.map V.int))=w8 at gR nY g9 fz tc r2 ⊢
 refine⟨_,rfl,_,rfl,cu,aB,room,rfl,r2 _ _ L.aD,fun av oM oK g1 ov mz w7 iP H1 zH=>?_⟩
 have H1:bh w7 av oM oK g1 ov mz [] (ea aB room):=H1
 refine⟨_,rfl,_,rfl,cu,aB,room,rfl,(r2.trans iP) _ _ L.aD,fun aC oL oJ g2 ou jo qp oT aq vJ=>?_⟩
 have aq:bh qp aC oL oJ g2 ou jo [] (ea aB room):=aq
 refine⟨cX,fun di kI=>?_⟩
 have jq:=b3 kI (.lst [])
 have Nx:(upd qp di (.lst [])) di=some (.lst []):=aT
 have kM:=iP.trans oT
 have Dc:on≠di:=cG (kM _ _ tc) kI
 have Df:bK≠di:=cG (kM _ _ nY) kI
 have Fy:dR di=none:=(r2.trans kM).free kI
 have g4:di∉a1.dJ lo1 []:=fun m=>(g9.same kM).alive di m kI
 have gb:di∉a2.dJ dm []:=fun m=>(fz.same kM).alive di m kI
 have z0:di∉g1::own av oM oK ov mz []:=fun m=>(H1.same oT).alive di m kI
 have Yi:di∉g2::own aC oL oJ ou jo []:=fun m=>aq.alive di m kI
 have Kz:∀b∈a1.dJ lo1 [],b∉a2.dJ dm []:=fun b m ec=>eu.alive b m (f2 b ec)
 have Ky:∀b∈a1.dJ lo1 [],b∉g1::own av oM oK ov mz []:=fun b m ec=>g9.alive b m (zH b ec)
 have Kx:∀b∈a1.dJ lo1 [],b∉g2::own aC oL oJ ou jo []:=fun b m ec=>(g9.same iP).alive b m (vJ b ec)
 have Kw:∀b∈a2.dJ dm [],b∉g1::own av oM oK ov mz []:=fun b m ec=>fz.alive b m (zH b ec)
 have Kv:∀b∈a2.dJ dm [],b∉g2::own aC oL oJ ou jo []:=fun b m ec=>(fz.same iP).alive b m (vJ b ec)
 have Ku:∀b∈g1::own av oM oK ov mz [],b∉g2::own aC oL oJ ou jo []:=fun b m ec=>H1.alive b m (vJ b ec)
 have g0:∀b o,w8 b=some o→b∉g1::own av oM oK ov mz []:=fun b o e m=>by rw[zH b m]at e;cases e
 have kN:∀b o,w8 b=some o→b∉g2::own aC oL oJ ou jo []:=fun b o e m=>by
  have:=iP _ _ e
  rw[vJ b m]at this
  cases this
 have Y6:=r2.trans kM
 have nW:∀b∈[on,bK,di],b∉a1.dJ lo1 []∧b∉a2.dJ dm []∧b∉g1::own av oM oK ov mz []∧b∉g2::own aC oL oJ ou jo []∧(upd qp di (.lst [])) b≠none∧dR b=none:=fun b aa=>by
  simp only[mem_cons,not_mem_nil,or_false]at aa
  rcases aa with e | e | e
  ·subst e
   exact⟨dF,c_,g0 _ _ tc,kN _ _ tc,(by rw[jq _ _ (kM _ _ tc)];exact fun z=>nomatch z),oB⟩
  ·subst e
   exact⟨fq,d_,g0 _ _ nY,kN _ _ nY,(by rw[jq _ _ (kM _ _ nY)];exact fun z=>nomatch z),k0⟩
  ·subst e
   exact⟨g4,gb,z0,Yi,(by rw[Nx];exact fun z=>nomatch z),Fy⟩
 have W:gV aH au dR (upd qp di (.lst [])) [on,bK,di] ⟨av,oM,oK,g1,ov,mz,[]⟩ ⟨aC,oL,oJ,g2,ou,jo,[]⟩ ⟨a1,lo1,[],[]⟩ ⟨a2,dm,[],[]⟩ (ea aB room) (ea aB room) (ea aB room) (ea aB room):=by
  refine⟨⟨fun i j W2 b aa hm=>?_,fun i b aa=>?_,Y6.trans jq⟩,(H1.same oT).same jq,aq.same jq,(g9.same kM).same jq,(fz.same kM).same jq⟩
  ·cases i <;> cases j <;> first | exact absurd rfl W2 | exact (nW b aa).2.2.1 hm | exact (nW b aa).2.2.2.1 hm | exact (nW b aa).1 hm | exact (nW b aa).2.1 hm | exact (nW b hm).2.2.1 aa | exact (nW b hm).2.2.2.1 aa | exact (nW b hm).1 aa | exact (nW b hm).2.1 aa | exact Ku b aa hm | exact Ku b hm aa | exact Ky b hm aa | exact Ky b aa hm | exact Kx b aa hm | exact Kx b hm aa | exact Kw b aa hm | exact Kw b hm aa | exact Kv b aa hm | exact Kv b hm aa | exact Kz b aa hm | exact Kz b hm aa
  ·cases i with
   | f=>exact⟨(nW b aa).2.2.2.2.1,(nW b aa).2.2.2.2.2⟩
   | a=>exact⟨((H1.same oT).same jq).alive b aa,r2.free (zH b aa)⟩
   | b=>exact⟨(aq.same jq).alive b aa,(r2.trans iP).free (vJ b aa)⟩
   | c=>exact⟨((g9.same kM).same jq).alive b aa,s1.free (f1 b aa)⟩
   | d=>exact⟨((fz.same kM).same jq).alive b aa,(s1.trans s2).free (f2 b aa)⟩
 have NN:=kM.trans jq
 rw[YQ]
 exact VQ dR _ cu dl hP on bK di ⟨av,oM,oK,g1,ov,mz,[]⟩ ⟨aC,oL,oJ,g2,ou,jo,[]⟩ ⟨a1,lo1,[],[]⟩ ⟨a2,dm,[],[]⟩ us g7 aB aM room _ L DE W Nx (NN _ _ tc) (NN _ _ nY) N8 rfl rfl Dc Df
end
theorem Te {K:PySem.W.Frag}{mg:Str→Option Value}{a b c d:Addr}(E:rC K mg a b c d) (rx:exmOne K (.ref a) (.ref a)=some true) (D2:exmOne K (.ref a) (.ref b)=some false) (rv:exmOne K (.ref a) (.ref c)=some false) (nI:exmOne K (.ref a) (.ref d)=some false)
  (Nv:exmOne K (.ref b) (.ref a)=some false) (td:exmOne K (.ref b) (.ref b)=some true) (ru:exmOne K (.ref b) (.ref c)=some false) (nH:exmOne K (.ref b) (.ref d)=some false)
  (Nt:exmOne K (.ref c) (.ref a)=some false) (Nr:exmOne K (.ref c) (.ref b)=some false) (vQ:exmOne K (.ref c) (.ref c)=some true) (nG:exmOne K (.ref c) (.ref d)=some false)
  (Nq:exmOne K (.ref d) (.ref a)=some false) (Np:exmOne K (.ref d) (.ref b)=some false) (Nn:exmOne K (.ref d) (.ref c)=some false) (zK:exmOne K (.ref d) (.ref d)=some true):q8 K mg a b c d:=by
 have ne:∀{x y:Addr},exmOne K (.ref x) (.ref x)=some true→exmOne K (.ref x) (.ref y)=some false→x≠y:=fun av aC z=>by
  subst z
  rw[av]at aC
  cases aC
 have t:∀{x:Addr},exmOne K (.ref x) (.ref x)=some true→exmOne K (.ref x) (.ref x)=some (x == x):=fun h=>by rw[h,beq_self_eq_true]
 have f:∀{x y:Addr},x≠y→exmOne K (.ref x) (.ref y)=some false→exmOne K (.ref x) (.ref y)=some (x == y):=fun n h=>by rw[h,beq_eq_false_iff_ne.mpr n]
 refine⟨E,fun p aD q bN=>?_,?_⟩
 ·simp only[mem_cons,not_mem_nil,or_false]at aD bN
  rcases aD with rfl | rfl | rfl | rfl <;> rcases bN with rfl | rfl | rfl | rfl
  ·exact t rx
  ·exact f (ne rx D2) D2
  ·exact f (ne rx rv) rv
  ·exact f (ne rx nI) nI
  ·exact f (ne td Nv) Nv
  ·exact t td
  ·exact f (ne td ru) ru
  ·exact f (ne td nH) nH
  ·exact f (ne vQ Nt) Nt
  ·exact f (ne vQ Nr) Nr
  ·exact t vQ
  ·exact f (ne vQ nG) nG
  ·exact f (ne zK Nq) Nq
  ·exact f (ne zK Np) Np
  ·exact f (ne zK Nn) Nn
  ·exact t zK
 ·simp[ne rx D2,ne rx rv,ne rx nI,ne td ru,ne td nH,ne vQ nG]
theorem Tf {K:PySem.W.Frag}{mg:Str→Option Value}{a b c d e:Addr}(bk:[a,b,c,d].Nodup) (nS:mg "HouseError"=some (.ref e)) (rF:exmOne K (.ref a) (.ref e)=some true) (th:exmOne K (.ref b) (.ref e)=some true) (N_:exmOne K (.ref c) (.ref e)=some true) (Yg:exmOne K (.ref d) (.ref e)=some true)
  (v1:kitOne K (.ref a) (.type "ValueError")=some true) (v2:kitOne K (.ref b) (.type "ValueError")=some true) (aaS:kitOne K (.ref c) (.type "ValueError")=some true) (v4:kitOne K (.ref d) (.type "ValueError")=some true)
  (Wm:kitOne K (.ref a) (.ref b)=some false) (zp:kitOne K (.ref a) (.ref c)=some false) (zo:kitOne K (.ref a) (.ref d)=some false) (Wl:kitOne K (.ref b) (.ref a)=some false) (Wk:kitOne K (.ref b) (.ref c)=some false) (Wj:kitOne K (.ref b) (.ref d)=some false)
  (Wi:kitOne K (.ref c) (.ref a)=some false) (Wh:kitOne K (.ref c) (.ref b)=some false) (Wg:kitOne K (.ref c) (.ref d)=some false) (Wf:kitOne K (.ref d) (.ref a)=some false) (We:kitOne K (.ref d) (.ref b)=some false) (Wd:kitOne K (.ref d) (.ref c)=some false)
  (b_:nL K a) (dz:nL K b) (e9:nL K c) (gg:nL K d):CX K mg a b c d e:=by
 have z4:∀x:Addr,kitOne K (.ref x) (.ref x)=some (x == x):=fun x=>by
  unfold kitOne
  rw[if_pos (beq_self_eq_true _),beq_self_eq_true]
 simp only[nodup_cons,mem_cons,not_mem_nil,or_false,not_or,not_false_eq_true,nodup_nil,and_true]at bk
 obtain⟨⟨dF,c_,eb⟩,⟨eS,fj⟩,fi⟩:=bk
 have f:∀{x y:Addr},kitOne K (.ref x) (.ref y)=some false→¬x=y→kitOne K (.ref x) (.ref y)=some (x == y):=fun h n=>by rw[h,beq_eq_false_iff_ne.mpr n]
 have g:∀{x y:Addr},¬x=y→¬y=x:=fun n z=>n z.symm
 refine⟨nS,fun p aD=>?_,fun p aD q bN=>?_,fun p aD=>?_,fun p aD=>?_⟩
 ·simp only[mem_cons,not_mem_nil,or_false]at aD
  rcases aD with rfl | rfl | rfl | rfl <;> assumption
 ·simp only[mem_cons,not_mem_nil,or_false]at aD bN
  rcases aD with rfl | rfl | rfl | rfl <;> rcases bN with rfl | rfl | rfl | rfl
  ·exact z4 _
  ·exact f Wm dF
  ·exact f zp c_
  ·exact f zo eb
  ·exact f Wl (g dF)
  ·exact z4 _
  ·exact f Wk eS
  ·exact f Wj fj
  ·exact f Wi (g c_)
  ·exact f Wh (g eS)
  ·exact z4 _
  ·exact f Wg fi
  ·exact f Wf (g eb)
  ·exact f We (g fj)
  ·exact f Wd (g fi)
  ·exact z4 _
 ·simp only[mem_cons,not_mem_nil,or_false]at aD
  rcases aD with rfl | rfl | rfl | rfl <;> assumption
 ·simp only[mem_cons,not_mem_nil,or_false]at aD
  rcases aD with rfl | rfl | rfl | rfl <;> assumption
theorem j6 {K:PySem.W.Frag}{x q:Str}{st:Stmt}{f:Addr}{fd:FuncData}{a0:Str}(F:bZ K x q st f fd) (h:∀cp cI j_ mW kS rM mQ,bindArgs (PySem.W.fnOf x q (pC st) (h1 st) (cT st) .none cp cI j_ mW kS rM) ⟨[mQ],[]⟩=pure [(a0,mQ)]:=by intros;rfl):Binds K fd [a0] [] :=
 F.binds fun _ _ _ _ _ _ us aG=>match us,aG with | [_],_=>h ..
theorem dX {K:PySem.W.Frag}{x q:Str}{st:Stmt}{f:Addr}{fd:FuncData}{a0 a1:Str}(F:bZ K x q st f fd) (h:∀cp cI j_ mW kS rM mQ g4,bindArgs (PySem.W.fnOf x q (pC st) (h1 st) (cT st) .none cp cI j_ mW kS rM) ⟨[mQ,g4],[]⟩=pure [(a0,mQ),(a1,g4)]:=by intros;rfl):Binds K fd [a0,a1] [] :=
 F.binds fun _ _ _ _ _ _ us aG=>match us,aG with | [_,_],_=>h ..
theorem ry {K:PySem.W.Frag}{x q:Str}{st:Stmt}{f:Addr}{fd:FuncData}{a0 a1 a2:Str}(F:bZ K x q st f fd) (h:∀cp cI j_ mW kS rM mQ g4 gb,bindArgs (PySem.W.fnOf x q (pC st) (h1 st) (cT st) .none cp cI j_ mW kS rM) ⟨[mQ,g4,gb],[]⟩=pure [(a0,mQ),(a1,g4),(a2,gb)]:=by intros;rfl):Binds K fd [a0,a1,a2] [] :=
 F.binds fun _ _ _ _ _ _ us aG=>match us,aG with | [_,_,_],_=>h ..
theorem p3 {K:PySem.W.Frag}{x q:Str}{st:Stmt}{f:Addr}{fd:FuncData}{a0 a1 a2 ks:Str}(F:bZ K x q st f fd) (h:∀cp cI j_ mW kS rM mQ g4 gb z0,bindArgs (PySem.W.fnOf x q (pC st) (h1 st) (cT st) .none cp cI j_ mW kS rM) ⟨[mQ,g4,gb,z0],[]⟩=pure [(a0,mQ),(a1,g4),(a2,gb),(ks,z0)]:=by intros;rfl):Binds K fd [a0,a1,a2,ks] [] :=
 F.binds fun _ _ _ _ _ _ us aG=>match us,aG with | [_,_,_,_],_=>h ..
theorem all_mk {P:Program}{w:World}{K:PySem.W.Frag}{mg:Str→Option Value}{fO eu dG e4 eT e3 e2 tL f1 f2 fL f4 gv Ag tD f8 tC ta Nh Ng Nf Nd Nc Nb Na M_ M9 M8 M7 M6 M5 M4 M3 M1 M0 MZ MY MX MW MV MU MT MS MR MQ MP MO MN MM ML MK MJ MI MH MG MF ME:Addr}(W5:mg "law"=some (.ref fO))
  (NI:mg "Cellar"=some (.ref eu))
  (NH:mg "House"=some (.ref dG))
  (NG:mg "NoDealing"=some (.ref e4))
  (NF:mg "NoPage"=some (.ref eT))
  (ND:mg "Taken"=some (.ref e3))
  (NC:mg "NoRoom"=some (.ref e2))
  (NB:mg "HouseError"=some (.ref tL))
  (fq:Meth K eu "__init__" f1)
  (cz:∃d,bZ K "__init__" "Cellar.__init__" BN f1 d)
  (d_:Meth K eu "do_stroke" f2)
  (cY:∃d,bZ K "do_stroke" "Cellar.do_stroke" C4 f2 d)
  (el:Meth K dG "__init__" fL)
  (nT:∃d,bZ K "__init__" "House.__init__" BH fL d)
  (gG:Meth K dG "begin" f4)
  (jH:∃d,bZ K "begin" "House.begin" BQ f4 d)
  (h_:Meth K dG "put" gv)
  (lY:∃d,bZ K "put" "House.put" Cs gv d)
  (tu:Meth K dG "end" Ag)
  (Ac:∃d,bZ K "end" "House.end" Ct Ag d)
  (ET:Meth K dG "drop" tD)
  (Ov:∃d,bZ K "drop" "House.drop" B9 tD d)
  (Ab:Meth K dG "look" f8)
  (Ou:∃d,bZ K "look" "House.look" B6 f8 d)
  (Aa:Meth K dG "carry" tC)
  (Ot:∃d,bZ K "carry" "House.carry" BL tC d)
  (sW:Meth K dG "cut" ta)
  (vr:∃d,bZ K "cut" "House.cut" Cu ta d)
  (zk:Meth K dG "ask_dealing" Nh)
  (Mb:∃d,bZ K "ask_dealing" "House.ask_dealing" Cd Nh d)
  (zj:Meth K dG "ask_page" Ng)
  (Ma:∃d,bZ K "ask_page" "House.ask_page" Cb Ng d)
  (Lu:Meth K dG "ask_free" Nf)
  (L_:∃d,bZ K "ask_free" "House.ask_free" Cc Nf d)
  (Dn:Meth K dG "ask_room" Nd)
  (L9:∃d,bZ K "ask_room" "House.ask_room" Ca Nd d)
  (Ls:Meth K dG "has_room" Nc)
  (L8:∃d,bZ K "has_room" "House.has_room" B7 Nc d)
  (Lr:Meth K dG "make_room" Nb)
  (L7:∃d,bZ K "make_room" "House.make_room" BE Nb d)
  (Dm:Meth K dG "write_put" Na)
  (L6:∃d,bZ K "write_put" "House.write_put" Bg Na d)
  (vp:Meth K dG "make_stroke" M_)
  (L5:∃d,bZ K "make_stroke" "House.make_stroke" BD M_ d)
  (Lq:mg "needed_from"=some (.ref M9))
  (L4:∃d,bZ K "needed_from" "needed_from" BC M9 d)
  (Lp:mg "last_put_places"=some (.ref M8))
  (L3:∃d,bZ K "last_put_places" "last_put_places" BF M8 d)
  (Lo:mg "answers"=some (.ref M7))
  (L1:∃d,bZ K "answers" "answers" A1 M7 d)
  (Ln:mg "answer"=some (.ref M6))
  (L0:∃d,bZ K "answer" "answer" xT M6 d)
  (Lm:mg "do_deed"=some (.ref M5))
  (LZ:∃d,bZ K "do_deed" "do_deed" Bk M5 d)
  (Ll:mg "_law_draw"=some (.ref M4))
  (LY:∃d,bZ K "_law_draw" "_law_draw" B_ M4 d)
  (Lk:mg "_law_whole"=some (.ref M3))
  (LX:∃d,bZ K "_law_whole" "_law_whole" Bx M3 d)
  (Lj:mg "_law_at"=some (.ref M1))
  (LW:∃d,bZ K "_law_at" "_law_at" C5 M1 d)
  (Li:mg "_law_alike"=some (.ref M0))
  (LV:∃d,bZ K "_law_alike" "_law_alike" BS M0 d)
  (Lh:mg "_law_deeds"=some (.ref MZ))
  (LU:∃d,bZ K "_law_deeds" "_law_deeds" jh MZ d)
  (Lg:mg "_law_taker"=some (.ref MY))
  (LS:∃d,bZ K "_law_taker" "_law_taker" By MY d)
  (Lf:mg "_law_refusal"=some (.ref MX))
  (LR:∃d,bZ K "_law_refusal" "_law_refusal" AZ MX d)
  (Le:mg "_law_bound"=some (.ref MW))
  (LQ:∃d,bZ K "_law_bound" "_law_bound" BP MW d)
  (Ld:mg "_law_put_again"=some (.ref MV))
  (LP:∃d,bZ K "_law_put_again" "_law_put_again" BU MV d)
  (Lc:mg "_law_needed"=some (.ref MU))
  (LO:∃d,bZ K "_law_needed" "_law_needed" Bj MU d)
  (Lb:mg "_law_house_of"=some (.ref MT))
  (LN:∃d,bZ K "_law_house_of" "_law_house_of" BG MT d)
  (vo:mg "_law_stroke_in"=some (.ref MS))
  (LM:∃d,bZ K "_law_stroke_in" "_law_stroke_in" Bh MS d)
  (Dl:mg "_law_cut_in"=some (.ref MR))
  (LL:∃d,bZ K "_law_cut_in" "_law_cut_in" BJ MR d)
  (Dk:mg "_law_carry_in"=some (.ref MQ))
  (LK:∃d,bZ K "_law_carry_in" "_law_carry_in" A0 MQ d)
  (La:mg "_law_full"=some (.ref MP))
  (LJ:∃d,bZ K "_law_full" "_law_full" B8 MP d)
  (Dj:mg "_law_put_in"=some (.ref MO))
  (LI:∃d,bZ K "_law_put_in" "_law_put_in" BA MO d)
  (K_:mg "_law_end_in"=some (.ref MN))
  (LH:∃d,bZ K "_law_end_in" "_law_end_in" BI MN d)
  (K9:mg "_law_answered"=some (.ref MM))
  (LG:∃d,bZ K "_law_answered" "_law_answered" AQ MM d)
  (K8:mg "_law_pages_of"=some (.ref ML))
  (LF:∃d,bZ K "_law_pages_of" "_law_pages_of" BB ML d)
  (K7:mg "_law_room_of"=some (.ref MK))
  (LD:∃d,bZ K "_law_room_of" "_law_room_of" B5 MK d)
  (Di:mg "_law_done"=some (.ref MJ))
  (LC:∃d,bZ K "_law_done" "_law_done" uK MJ d)
  (K6:mg "_law_by_any"=some (.ref MI))
  (LB:∃d,bZ K "_law_by_any" "_law_by_any" BO MI d)
  (K5:mg "_law_by_hand"=some (.ref MH))
  (LA:∃d,bZ K "_law_by_hand" "_law_by_hand" Bl MH d)
  (K4:mg "_law_count_by"=some (.ref MG))
  (Lz:∃d,bZ K "_law_count_by" "_law_count_by" BK MG d)
  (K3:mg "_law_as_due"=some (.ref MF))
  (Ly:∃d,bZ K "_law_as_due" "_law_as_due" BR MF d)
  (K2:mg "law"=some (.ref ME))
  (Lx:∃d,bZ K "law" "law" qV ME d)
  (Js:PySem.W.plainGet K eu Str.empty=true)
  (JM:PySem.W.hasDictIn K eu=true)
  (Jq:PySem.W.plainOver K eu=true)
  (Jm:findIn K (.ref eu) "__setattr__"=some (some (.builtin "object.__setattr__")))
  (JC:PySem.W.makesIn K eu=true)
  (JF:keepIn K (.ref eu)=true)
  (Gv:findIn K (.ref eu) "pages"=some none)
  (HJ:findIn K (.ref eu) "log"=some none)
  (Jr:PySem.W.plainGet K dG Str.empty=true)
  (JL:PySem.W.hasDictIn K dG=true)
  (Jp:PySem.W.plainOver K dG=true)
  (Jl:findIn K (.ref dG) "__setattr__"=some (some (.builtin "object.__setattr__")))
  (JB:PySem.W.makesIn K dG=true)
  (JE:keepIn K (.ref dG)=true)
  (Ga:findIn K (.ref dG) "cellar"=some none)
  (G0:findIn K (.ref dG) "desk"=some none)
  (GY:findIn K (.ref dG) "room"=some none)
  (F2:findIn K (.ref dG) "strokes"=some none)
  (Gb:findIn K (.ref dG) "begins"=some none)
  (GZ:findIn K (.ref dG) "puts"=some none)
  (F_:findIn K (.ref dG) "takers"=some none)
  (Gu:findIn K (.ref dG) "bound"=some none)
  (Ks:excIn K e4 p4 "ValueError.__new__"=true)
  (Kr:excIn K eT p4 "ValueError.__new__"=true)
  (Kq:excIn K e3 p4 "ValueError.__new__"=true)
  (Kp:excIn K e2 p4 "ValueError.__new__"=true)
  (I9:exmOne K (.ref e4) (.ref e4)=some true)
  (I8:exmOne K (.ref e4) (.ref eT)=some false)
  (I7:exmOne K (.ref e4) (.ref e3)=some false)
  (I6:exmOne K (.ref e4) (.ref e2)=some false)
  (I5:exmOne K (.ref eT) (.ref e4)=some false)
  (I4:exmOne K (.ref eT) (.ref eT)=some true)
  (I3:exmOne K (.ref eT) (.ref e3)=some false)
  (I2:exmOne K (.ref eT) (.ref e2)=some false)
  (I1:exmOne K (.ref e3) (.ref e4)=some false)
  (I0:exmOne K (.ref e3) (.ref eT)=some false)
  (IZ:exmOne K (.ref e3) (.ref e3)=some true)
  (IY:exmOne K (.ref e3) (.ref e2)=some false)
  (IX:exmOne K (.ref e2) (.ref e4)=some false)
  (IW:exmOne K (.ref e2) (.ref eT)=some false)
  (IV:exmOne K (.ref e2) (.ref e3)=some false)
  (IU:exmOne K (.ref e2) (.ref e2)=some true)
  (HS:mg "list"=none)
  (Hb:mg "tuple"=none)
  (Ij:mg "int"=none)
  (Ih:mg "str"=none)
  (HU:mg "bool"=none)
  (FN:mg "isinstance"=none)
  (Ii:mg "len"=none)
  (Hf:mg "range"=none)
  (FY:mg "enumerate"=none)
  (HT:mg "dict"=none)
  (Ig:mg "sum"=none)
  (AK:mg "reversed"=none)
  (FO:mg "ValueError"=none)
  (Ko:exmOne K (.ref e4) (.ref tL)=some true)
  (Kn:exmOne K (.ref eT) (.ref tL)=some true)
  (Km:exmOne K (.ref e3) (.ref tL)=some true)
  (Kl:exmOne K (.ref e2) (.ref tL)=some true)
  (KG:kitOne K (.ref e4) (.type "ValueError")=some true)
  (KD:kitOne K (.ref eT) (.type "ValueError")=some true)
  (KC:kitOne K (.ref e3) (.type "ValueError")=some true)
  (KA:kitOne K (.ref e2) (.type "ValueError")=some true)
  (IP:kitOne K (.ref e4) (.ref eT)=some false)
  (IM:kitOne K (.ref e4) (.ref e3)=some false)
  (IL:kitOne K (.ref e4) (.ref e2)=some false)
  (IK:kitOne K (.ref eT) (.ref e4)=some false)
  (IJ:kitOne K (.ref eT) (.ref e3)=some false)
  (II:kitOne K (.ref eT) (.ref e2)=some false)
  (IG:kitOne K (.ref e3) (.ref e4)=some false)
  (IF:kitOne K (.ref e3) (.ref eT)=some false)
  (IE:kitOne K (.ref e3) (.ref e2)=some false)
  (ID:kitOne K (.ref e2) (.ref e4)=some false)
  (IC:kitOne K (.ref e2) (.ref eT)=some false)
  (IB:kitOne K (.ref e2) (.ref e3)=some false)
  (uS:PySem.W.specialIn K (.builtin "object.__class__") "__get__"=some (some (.builtin "getset_descriptor.__get__")))
  (uR:PySem.W.takesIn K (.builtin "object.__class__")=some true)
  (J2:findIn K (.ref e4) "__getattribute__"=some (some (.builtin "BaseException.__getattribute__")))
  (JU:findIn K (.ref e4) "__getattr__"=some none)
  (J_:PySem.W.mroIn K e4 (.type "BaseException")=some true)
  (J6:PySem.W.hasDictIn K e4=true)
  (Ke:findIn K (.ref e4) "__class__"=some (some (.builtin "object.__class__")))
  (JY:PySem.W.mroIn K e4 (.type "object")=some true)
  (J1:findIn K (.ref eT) "__getattribute__"=some (some (.builtin "BaseException.__getattribute__")))
  (JT:findIn K (.ref eT) "__getattr__"=some none)
  (J9:PySem.W.mroIn K eT (.type "BaseException")=some true)
  (J5:PySem.W.hasDictIn K eT=true)
  (Kd:findIn K (.ref eT) "__class__"=some (some (.builtin "object.__class__")))
  (JX:PySem.W.mroIn K eT (.type "object")=some true)
  (J0:findIn K (.ref e3) "__getattribute__"=some (some (.builtin "BaseException.__getattribute__")))
  (JS:findIn K (.ref e3) "__getattr__"=some none)
  (J8:PySem.W.mroIn K e3 (.type "BaseException")=some true)
  (J4:PySem.W.hasDictIn K e3=true)
  (Kc:findIn K (.ref e3) "__class__"=some (some (.builtin "object.__class__")))
  (JW:PySem.W.mroIn K e3 (.type "object")=some true)
  (JZ:findIn K (.ref e2) "__getattribute__"=some (some (.builtin "BaseException.__getattribute__")))
  (JR:findIn K (.ref e2) "__getattr__"=some none)
  (J7:PySem.W.mroIn K e2 (.type "BaseException")=some true)
  (J3:PySem.W.hasDictIn K e2=true)
  (Ka:findIn K (.ref e2) "__class__"=some (some (.builtin "object.__class__")))
  (JV:PySem.W.mroIn K e2 (.type "object")=some true)
  : ∃fd:FuncData,(∀(s:Shared) (v:Value),BindsTo s fd ⟨[v],[]⟩ [("_law_script",v)])∧∀base:Heap,K.In base→base.Ns mainGlobals mg→a5 P w K mg base b1 10 fO fd yJ (yq K):=by
 cases W5.symm.trans K2
 obtain⟨fX,O0⟩:=cz
 obtain⟨eF,OZ⟩:=cY
 obtain⟨Ai,Fx⟩:=nT
 obtain⟨OO,Fw⟩:=jH
 obtain⟨ON,Fv⟩:=lY
 obtain⟨aaY,Ax⟩:=Ac
 obtain⟨aaX,Ft⟩:=Ov
 obtain⟨aaW,Aw⟩:=Ou
 obtain⟨aaV,Av⟩:=Ot
 obtain⟨aaH,zW⟩:=vr
 obtain⟨aaG,zV⟩:=Mb
 obtain⟨aaF,zU⟩:=Ma
 obtain⟨aaE,N3⟩:=L_
 obtain⟨aaD,EH⟩:=L9
 obtain⟨aaC,N2⟩:=L8
 obtain⟨aaB,N1⟩:=L7
 obtain⟨aaA,EG⟩:=L6
 obtain⟨aaz,v3⟩:=L5
 obtain⟨aay,EF⟩:=L4
 obtain⟨aax,EE⟩:=L3
 obtain⟨aaw,ED⟩:=L1
 obtain⟨aav,EC⟩:=L0
 obtain⟨aau,EB⟩:=LZ
 obtain⟨aat,EA⟩:=LY
 obtain⟨aas,Ez⟩:=LX
 obtain⟨aar,Ey⟩:=LW
 obtain⟨aaq,Ex⟩:=LV
 obtain⟨aap,Ew⟩:=LU
 obtain⟨aao,Eu⟩:=LS
 obtain⟨aan,Et⟩:=LR
 obtain⟨aam,Es⟩:=LQ
 obtain⟨aal,Er⟩:=LP
 obtain⟨aak,Ep⟩:=LO
 obtain⟨aaj,Eo⟩:=LN
 obtain⟨aai,oO⟩:=LM
 obtain⟨aah,vZ⟩:=LL
 obtain⟨aag,vY⟩:=LK
 obtain⟨aaf,En⟩:=LJ
 obtain⟨aae,vX⟩:=LI
 obtain⟨aad,Em⟩:=LH
 obtain⟨aac,El⟩:=LG
 obtain⟨aab,Ek⟩:=LF
 obtain⟨aaa,Ej⟩:=LD
 obtain⟨Z_,vW⟩:=LC
 obtain⟨Z9,Ei⟩:=LB
 obtain⟨Z8,Eh⟩:=LA
 obtain⟨Z7,Eg⟩:=Lz
 obtain⟨Z6,Ef⟩:=Ly
 obtain⟨Xp,NZ⟩:=Lx
 have rB:pv K mg eu:=⟨⟨Js,JM,Jq,Jm⟩,Gv,HJ,  NI⟩
 have Xv:r6 K eu f1:=⟨JC,fq.1,fq.2,JF⟩
 have hH:hn K mg dG:=⟨⟨Jr,JL,Jp,Jl⟩,Ga,G0,GY,F2,Gb,GZ,F_,Gu,  NH⟩
 have NQ:r6 K dG fL:=⟨JB,el.1,el.2,JE⟩
 have wY:rC K mg e4 eT e3 e2:=⟨NG,NF,ND,NC,Ks,Kr,Kq,Kp⟩
 have Am:q8 K mg e4 eT e3 e2:=Te wY I9 I8 I7 I6 I5 I4 I3 I2 I1 I0 IZ IY IX IW IV IU
 have Y0:CX K mg e4 eT e3 e2 tL:=Tf Am.bk NB Ko Kn Km Kl KG KD KC KA IP IM IL IK IJ II IG IF IE ID IC IB ⟨J2,JU,J_,J6,Ke,uS,uR,JY⟩ ⟨J1,JT,J9,J5,Kd,uS,uR,JX⟩ ⟨J0,JS,J8,J4,Kc,uS,uR,JW⟩ ⟨JZ,JR,J7,J3,Ka,uS,uR,JV⟩
 have B:fc mg:=⟨HS,Hb,Ij,Ih,HU,FN,Ii,Hf,FY,HT⟩
 have fz:CZ mg:=⟨Ig,AK⟩
 obtain⟨_,_,_,_,_,_,_,_,_,e,_,_⟩:=NZ.ex
 refine⟨Xp,fun s v=>by rw[e];exact .of_eq rfl,fun base _ _=>?_⟩
 have XT:=R3 (P:=P) (w:=w) (mg:=mg) (base:=base) EA
 have XS:=Q0 (P:=P) (w:=w) (mg:=mg) (base:=base) Ez B
 have XR:=TY (P:=P) (w:=w) (mg:=mg) (base:=base) Ey B
 have XK:=Ri (P:=P) (w:=w) (mg:=mg) (base:=base) Er
 have zS:=P8 (P:=P) (w:=w) (mg:=mg) (base:=base) oO B
 have XM:=Rd (P:=P) (w:=w) (mg:=mg) (base:=base) Es B fz
 have XO:=Q2 (P:=P) (w:=w) (mg:=mg) (base:=base) Eu B
 have XI:=Q5 (P:=P) (w:=w) (mg:=mg) (base:=base) Eo B
 have XE:=Q4 (P:=P) (w:=w) (mg:=mg) (base:=base) Ek B
 have XD:=RX (P:=P) (w:=w) (mg:=mg) (base:=base) Ej B
 have tT:a5 P w K mg base _ _ _ _ _ (Bb eu):=Ra O0 B rB
 have r_:a5 P w K mg base _ _ _ _ _ (Cq eu):=TV OZ rB
 have X1:a5 P w K mg base _ _ _ _ _ (Bu eu dG):=TU N2 B hH rB
 have Ea:a5 P w K mg base _ _ _ _ _ (uv eu dG eT):=T2 zU B hH wY
 have Eb:a5 P w K mg base _ _ _ _ _ (uw eu dG e4):=T4 zV hH wY
 have X2:a5 P w K mg base _ _ _ _ _ (Bv eu dG e3):=T3 N3 hH wY
 have XY:=RZ (P:=P) (w:=w) (mg:=mg) (base:=base) EE B
 have Xy:=Rg (P:=P) (w:=w) (mg:=mg) (base:=base) Ef
 have Xz:=Q_ (P:=P) (w:=w) (mg:=mg) (base:=base) Eg B
 have XQ:=Rh Ex B XS (j6 Ez) Ez.bK Lk
 have XJ:=P9 Ep B XK (dX Er) Er.bK Ld
 have NV:=PF vY B zS (dX oO) oO.bK vo
 have NU:=Q3 vX B zS (dX oO) oO.bK vo
 have XN:=PE Et B XO (dX Eu) Eu.bK Lg
 have zT:a5 P w K mg base _ _ _ _ _ (sL eu dG):=TR v3 hH rB r_ (dX OZ) d_
 have XZ:=R1 EF B XY (j6 EE) EE.bK Lp
 have w7:a5 P w K mg base _ _ _ _ _ (uu eu dG e4 eT e3 e2):=RY Aw hH Ea (dX zU) zj
 have XP:=Q8 Ew B XT (ry EA) EA.bK Ll
 have NW:=Q9 vZ B XJ (p3 Ep) Ep.bK Lc zS (dX oO) oO.bK vo
 have XG:=Q7 Em B fz zS (dX oO) oO.bK vo NU (p3 vX) vX.bK Dj
 have NX:a5 P w K mg base _ _ _ _ _ (yE eu dG):=TQ EG hH zT (dX v3) vp
 have Ec:a5 P w K mg base _ _ _ _ _ (uI eu dG):=SX zW B hH rB zT (dX v3) vp XZ (p3 EF) EF.bK Lq
 have qp:a5 P w K mg base _ _ _ _ _ (ud eu dG eT):=Rb Av hH rB zT (dX v3) vp Ea (dX zU) zj
 have tR:a5 P w K mg base _ _ _ _ _ (uH eu dG e4 eT e3 e2):=SW Ax B hH Eb (dX zV) zk zT (dX v3) vp
 have w9:a5 P w K mg base _ _ _ _ _ (xQ eu dG):=Q6 Fx B hH rB Xv tT (ry O0)
 have XH:=R0 En B XM (j6 Es) Es.bK Le NV (dX vY) vY.bK Dk NW (j6 vZ) vZ.bK Dl
 have X0:a5 P w K mg base _ _ _ _ _ (A_ eu dG):=TS N1 B hH qp (dX Av) Aa Ec (j6 zW) sW
 have w8:a5 P w K mg base _ _ _ _ _ (x6 eu dG e4 eT e3 e2):=R2 Ft B AK hH Eb (dX zV) zk NX (p3 EG) Dm tR (dX Ax) tu
 have XF:=Pn El B XH (dX En) En.bK La XN (ry Et) Et.bK Lf NU (p3 vX) vX.bK Dj XG (dX Em) Em.bK K_ NV (dX vY) vY.bK Dk NW (j6 vZ) vZ.bK Dl
 have NY:a5 P w K mg base _ _ _ _ _ (x7 eu dG e2):=TZ EH hH wY X1 (dX N2) Ls X0 (j6 N1) Lr
 have qq:a5 P w K mg base _ _ _ _ _ (xR eu dG e4 eT e3 e2):=Rf Fw hH NY (dX EH) Dn
 have tS:a5 P w K mg base _ _ _ _ _ (yp eu dG e4 eT e3 e2):=SS Fv hH Eb (dX zV) zk Ea (dX zU) zj X2 (ry N3) Lu NY (dX EH) Dn NX (p3 EG) Dm
 have XU:a5 P w K mg base _ _ _ _ _ (qC eu dG e4 eT e3 e2):=TX EB hH qq (j6 Fw) gG w7 (dX Aw) Ab tS (p3 Fv) h_ tR (dX Ax) tu w8 (dX Ft) ET qp (dX Av) Aa Ec (j6 zW) sW
 have NT:a5 P w K mg base _ _ _ _ _ (qC eu dG e4 eT e3 e2):=R4 vW B hH qq (j6 Fw) gG w7 (dX Aw) Ab tS (p3 Fv) h_ tR (dX Ax) tu w8 (dX Ft) ET qp (dX Av) Aa Ec (j6 zW) sW
 have XW:a5 P w K mg base _ _ _ _ _ (AY eu dG):=Qa EC Am XU (dX EB) EB.bK Lm
 have XA:a5 P w K mg base _ _ _ _ _ (AX eu dG):=P_ Eh Am NT (dX vW) vW.bK Di
 have XC:a5 P w K mg base _ _ _ _ _ (Bc eu dG):=Rc Ei B Am Y0 FO NT (dX vW) vW.bK Di
 have XX:=PG ED hH NQ w9 (ry Fx) XW (dX EC) EC.bK Ln
 exact SV NZ B hH NQ w9 (ry Fx) w7 (dX Aw) Ab XR (dX Ey) Ey.bK Lj Xz (j6 Eg) Eg.bK K4 XD (j6 Ej) Ej.bK K7 XE (dX Ek) Ek.bK K8 XP (dX Ew) Ew.bK Lh XX (ry ED) ED.bK Lo XQ (dX Ex) Ex.bK Li XI (dX Eo) Eo.bK Lb XF (dX El) El.bK K9 XA (dX Eh) Eh.bK K5 XC (dX Ei) Ei.bK K6 Xy (j6 Ef) Ef.bK K3
theorem walk {l:PySem.W.OpenLaw}{q:Program}{loose:List Str}{tK:(Str→Option Value)→Heap→Prop}{ql:World→Heap→Prop}{d:DefRec}{K:Params→PySem.W.Frag}(aN:l.most=some 63) (vG:d.params.defaults=[])
  (EY:∀(w:World) (h:Heap),ql w h→(K w.params).In h)
  (F:∀(w:World) (mg:Str→Option Value) (fO:Addr) (h:Heap),(K w.params).In h→h.Ns mainGlobals mg→mg d.name=some (.ref fO) →
   ∃fd:FuncData,(∀(s:Shared) (u:Value),BindsTo s fd ⟨[u],[]⟩ [("_law_script",u)])∧∀base:Heap,(K w.params).In base→base.Ns mainGlobals mg→a5 l.prog w (K w.params) mg base b1 10 fO fd yJ (yq (K w.params))) :
  PySem.W.WalkO q loose tK ql l.row.toRowW d [] (fun f vs=>PySem.call f vs) :=
 L2.RC (n:=63) (k:=10) (x:="_law_script") (eG:=fun _=>b1) (sp:=fun w=>yq (K w.params)) aN (by decide) vG ⟨rfl,by decide,by decide⟩ EY F (fun _ _ a ns aG wB l0=>⟨a,ns,rfl,l0,aG,fun _=>rfl⟩) fun _ _ _ _ _ z=>z
end D9
open PySem PySem.W PyProof.Rows
namespace PySem.W.Fast
def tw12160466945665585049:=0
def tw17983170366712956929:=0
def tw12792034675067282708:=0
def tw12204672219098009584:=0
def tw3567444447824724010:=0
def tw3356599226988705821:=0
def tw12475548024739967565:=0
def tw2707428976931702154:=0
def tw16682226381652802347:=0
def tw16282235047195614490:=0
def tw14779023311480583657:=0
def tw2306939347282568596:=0
def tw14481142143465854077:=0
def tw2130881308910663612:=0
def tw2982216084408581059:=0
def tw11071105338626004531:=0
def tw8487798848843702738:=0
def tw15602539119152281349:=0
def tw11626710270888164966:=0
def tw12586292277738296345:=0
def tw5751118321615524385:=0
def tw18037161861638397553:=0
def tw8770747391383506427:=0
def tw7729424064478916890:=0
def tw15633219502284610355:=0
def tw11946939253190876592:=0
def tw2551645820093882869:=0
def tw3106601366315773849:=0
def tw5108066219755673503:=0
def tw5740452675909191009:=0
def tw8300513881963671228:=0
def tw2271027957152471115:=0
def tw17091023813748795997:=0
def tw11798245577226523721:=0
def tw7034040757509276761:=0
def tw15378602210152025330:=0
def tw16782508873188977518:=0
def tw14117813503429044500:=0
def tw7106585712370550177:=0
def tw2528824831795556686:=0
def tw16805293978328686032:=0
def tw15879691377124131827:=0
def tw16422808279707551891:=0
def tw14289498343448606282:=0
def tw157404914426517438:=0
def tw9284255914631290528:=0
def tw4499345874950256421:=0
def tw3444370532086820930:=0
def tw7685980087638582131:=0
def tw2824802423876543108:=0
def tw14932387572943379592:=0
def tw8589337381165243645:=0
def tw2130003365494375749:=0
def tw17125596276341906849:=0
def tw6547401467576307257:=0
def tw4037270495388708440:=0
def tw13939733138172961661:=0
def tw6439408453639817043:=0
def tw14103230512520529004:=0
def tw6285503108759572695:=0
def tw3047547728712401275:=0
def tw7352372287360030374:=0
def tw786048728887915399:=0
def tw4251032495101413805:=0
def tw17627706674724706067:=0
def tw10009884523956260880:=0
def tw294200405042934057:=0
def tw12339093543527342124:=0
def tw17433821779867764849:=0
def tw7017906956585551376:=0
def tw3354776566415031419:=0
def tw17811075392552439536:=0
def tw3854432485008220101:=0
def tw16567092622830772820:=0
def tw12655895749505749371:=0
def tw8023556140644268036:=0
def tw11630103006369446343:=0
def tw14777775193888788396:=0
def tw9925807989142673478:=0
def tw3666012803916231850:=0
def tw294269002746256476:=0
def tw3374055509780363321:=0
def tw12498455061508038517:=0
def tw10744378272010470774:=0
def tw5966720837124767507:=0
def tw14511384539390061429:=0
def tw13285601161539792755:=0
def tw6437375438261551687:=0
def tw10741051430807520080:=0
def tw12380972349645954268:=0
def tw44385373759685843:=0
def tw11967984688487306538:=0
def tw341654590707075068:=0
def tw4452287459693927012:=0
def tw10900997651776089458:=0
def tw5165346947559338301:=0
def tw14404173521481951015:=0
def tw225655183151334927:=0
def tw13532270066611991589:=0
def tw10373103952795303898:=0
def tw4652312720393103471:=0
def tw11490902125214782543:=0
def tw3762246436112332627:=0
def tw214844227799644486:=0
def tw498219543570119291:=0
def tw10276341352221190736:=0
def tw11159623957374857080:=0
def tw3536572163271826015:=0
def tw7653647318231963960:=0
def tw14788742892043069192:=0
def tw12599873582066950477:=0
def tw9307912990243484962:=0
def tw8457128264875514054:=0
def tw8810907917784709628:=0
def tw18182601862516373382:=0
def tw10306666815251549280:=0
def tw8503455607026333409:=0
def tw4102780062347583488:=0
def tw11031824971558065087:=0
def tw12085006819278681677:=0
def tw17820818691379122476:=0
def tw5184455918746135986:=0
def tw1601406766889330691:=0
def tw1975088855812367803:=0
def tw4730233975369849074:=0
def tw15959983023478217854:=0
def tw3495069567066737283:=0
def tw7353207423715640332:=0
def tw300346429030573642:=0
def tw18002136142274433924:=0
def tw12476027655067022507:=0
def tw5102194822370851652:=0
def tw6543442106879538890:=0
def tw17109144088635266955:=0
def tw1514745335669480997:=0
def tw16644245934687930180:=0
def tw1529667280551804630:=0
def tw17123859250403074723:=0
def tw9465930474345764477:=0
def tw18083251587687609973:=0
def tw17286608763820023172:=0
def tw6869624110272451676:=0
def tw13541092412884903135:=0
def tw9799997020895719683:=0
def tw7670297557305506607:=0
def tw9159225055368971189:=0
def tw2994282099426535069:=0
def tw5294944464559395769:=0
def tw11138179070229926513:=0
def tw13225586611174998266:=0
def tw11735439774511355133:=0
def tw12925902820303550603:=0
def tw15640898264665847276:=0
def tw17745711815157133418:=0
def tw8873737368591417797:=0
def tw9254397793174723463:=0
def tw11524997913457084801:=0
def tw8073718009522408277:=0
def tw16587788469032450921:=0
def tw18317640063047757423:=0
def tw4080983790504795109:=0
def tw743015362699703593:=0
def tw8709868436312832938:=0
def tw7075108284017284686:=0
def tw10325689583999277619:=0
def tw13596689178340678265:=0
def tw3298626346640759824:=0
def tw593630349227230633:=0
def tw16856581389459861590:=0
def tw11227347390862128402:=0
def tw6890222713613852708:=0
def tw16783342254202356080:=0
def tw15331794725253972021:=0
def tw13130472696602636810:=0
def tw4865376233556149578:=0
def tw5898655480778859054:=0
def tw14705022620721074733:=0
def tw13824699496358666605:=0
def tw9134792982606380066:=0
def tw11235575978606870384:=0
def tw7087823337050961702:=0
def tw1088664741691595303:=0
def tw15028041093790674108:=0
def tw2663814262396807669:=0
def tw15906954009338125660:=0
def tw13547644888816202395:=0
def tw3649733713525151797:=0
def tw3380378883093106508:=0
def tw12157134111123639078:=0
def tw12882915239737776838:=0
def tw2979420827477600654:=0
def tw13325044668245983032:=0
def tw11977090303130161147:=0
def tw3739876180012533933:=0
def tw14223760328307387271:=0
def tw17168390405773439177:=0
def tw5406712761183157532:=0
def tw6122139652733751600:=0
def tw10854487202466742653:=0
def tw7974571531725791675:=0
def tw9148094137618526996:=0
def tw6766359766479438841:=0
def tw8098988611458791109:=0
def tw15161875699390602322:=0
def tw665371048357359369:=0
def tw12601852315019461862:=0
def tw17532965828344232600:=0
def tw15475325065756171207:=0
def tw7095626496102191766:=0
def tw5444961368189117270:=0
def tw17856213510676069515:=0
def tw18382678820310629087:=0
def tw4925803011793618661:=0
def tw6712638249493715996:=0
def tw17893117830450931888:=0
def tw1994554607750994779:=0
def tw7419661989331837274:=0
def tw9702057052265879807:=0
def tw2577342786648422744:=0
def tw10190782850192083804:=0
def tw7025725510488870483:=0
def tw3579088828855342620:=0
def tw932584063196075051:=0
def tw10023937378186512496:=0
def tw6425106910038672616:=0
def tw11806939720226243494:=0
def tw17398597525222037879:=0
def tw12091661460033351526:=0
def tw16459941220365961590:=0
def tw17977679180098052272:=0
def tw12503991766502114150:=0
def tw4496832154992714556:=0
def tw17989873525118724115:=0
def tw11641645032988522701:=0
def tw16634614737996683826:=0
def tw14286915314453013431:=0
def tw6414733132282520822:=0
def tw115722185813679975:=0
def tw12979106560475193679:=0
def tw12611939164134618584:=0
def tw8172617871547478037:=0
def tw4978966140726414536:=0
def tw8923719927316652384:=0
def tw11300395923793804468:=0
def tw11138439700770087359:=0
def tw10000871455861775593:=0
def tw8958114292266604589:=0
def tw1053503329746589850:=0
def tw6716294212261406232:=0
def tw9593151051047472329:=0
def tw3026978594709299138:=0
def tw14714999536484916580:=0
def tw113223516609825134:=0
def tw4156274819983978056:=0
def tw11271532806934635995:=0
def tw2485152200688026690:=0
def tw7451317553602419633:=0
def tw1822233775212941359:=0
def tw4475566542620711373:=0
def tw11620144210953115855:=0
def tw4473082825878690906:=0
def tw2677796590179015365:=0
def tw15436846126883621819:=0
def tw188634413995845274:=0
def tw16184405138784068625:=0
def tw5158808229411863753:=0
def tw16313789986348223817:=0
def tw11084530308254859990:=0
def tw12118321146785060913:=0
def tw2898241924995702671:=0
def tw8055383543969529273:=0
def tw9756616101573345404:=0
def tw263226685455724857:=0
def tw13752190162177132033:=0
def tw13582674960563187652:=0
def tw15716040736901005724:=0
def tw5780977663170875299:=0
def tw2584078504274913067:=0
def tw712195345693401138:=0
def tw5475157258796565515:=0
def tw3506303112673185581:=0
def tw10083608356766907390:=0
def tw1363169688013134110:=0
def tw3415674419428954360:=0
def tw4509144246887156521:=0
def tw15564991443844677623:=0
def tw5892495877840441293:=0
def tw6876986162796144809:=0
def tw13951152263453486047:=0
def tw6528523950438821273:=0
def tw1813042241587554866:=0
def tw8224594973925357360:=0
def tw13272655934059113205:=0
def tw17076708290264202654:=0
def tw10869675478578448670:=0
def tw7225585281391111950:=0
def tw13101058714186371289:=0
def tw970091362107156756:=0
def tw466872905263750984:=0
def tw10468530987584379713:=0
def tw3740484985144009456:=0
def tw13688880562220821182:=0
def tw10098369779648056688:=0
def tw7499173466349237:=0
def tw14247485070040264985:=0
def tw7376341445304451025:=0
def tw17010430425519748852:=0
def tw12899430177130374049:=0
def tw3620212660524855524:=0
def tw9818134117977357448:=0
def tw11707175124701089915:=0
def tw3297318192137791731:=0
def tw15871062394870124378:=0
def tw11108243251201155793:=0
def tw12123773429943010136:=0
def tw17261599774526347519:=0
def tw11367874642053837860:=0
def tw15459779706278694718:=0
def tw14175725289790979171:=0
def tw17361017271039822161:=0
def tw3683858967612975775:=0
def tw13821785381332142113:=0
def tw4752060998021618009:=0
def tw13657390382322578807:=0
def tw16997022926328897459:=0
def tw9731188931258920476:=0
def tw12113831478450332517:=0
def tw3109008284567027194:=0
def tw17015834718479587130:=0
def tw5258954006967038692:=0
def tw9871495520883302169:=0
def tw8805845312960910317:=0
def tw15432478097861576172:=0
def tw16305259122258062309:=0
def tw232133969329747650:=0
def tw11490134924993301426:=0
def tw9907969169437366155:=0
def tw697911085161675133:=0
def tw2371364512694721215:=0
def tw11403131771446884623:=0
def tw8690366706797752316:=0
def tw11749509078490414641:=0
def tw2413412014243759009:=0
def tw2587182124962361279:=0
def tw4375850201867035188:=0
def tw16594401267583526725:=0
def tw2435518920028210796:=0
def tw4331994678099477143:=0
def tw6759995015788194917:=0
def tw7265150670873214482:=0
def tw4210878991908313094:=0
def tw17048596547398301322:=0
def tw6772794321681584388:=0
def tw1219227780428254843:=0
def tw7107969464878008162:=0
def tw12614740332077147428:=0
def tw17945768030939395989:=0
def tw3144478832091797256:=0
def tw7501073871943823356:=0
def tw2507617894329497359:=0
def tw16505261093308732953:=0
def tw6162468070992712457:=0
def tw605594955551335376:=0
def tw14588191502387792919:=0
def tw4480830180870082631:=0
def tw15490342616880841961:=0
def tw10426907296262940053:=0
def tw12432201757549500013:=0
def tw14007630370344658887:=0
def tw14352893580954707892:=0
def tw18157721355970485734:=0
def tw14380972246457839350:=0
def tw17383060309724553072:=0
def tw3324814706910856923:=0
def tw2319341370630348528:=0
def tw5842654586911226935:=0
def tw5573218706750325348:=0
def tw660962509359845068:=0
def tw10906259955779408772:=0
def tw11760328144255561274:=0
def tw2209118861850433309:=0
def tw3027199046453590805:=0
def tw1582407135259986058:=0
def tw2131828512596590890:=0
def tw1053678685044725289:=0
def tw9120725298564138505:=0
def tw15110615598781084002:=0
def tw15523284761118707414:=0
def tw15119132343637050109:=0
def tw4314502766403445461:=0
def tw16908985710752717199:=0
def tw4165931951399394087:=0
def tw10324582137122374955:=0
def tw9428266294749903290:=0
def tw4480734666790758269:=0
def tw7655329549417792894:=0
def tw5478547002291457917:=0
def tw9793356398222439950:=0
def tw8458116490493542809:=0
def tw13049053935450371937:=0
def tw3002188727710441220:=0
def tw140677222045713705:=0
def tw13347081711278512379:=0
def tw13790142809764337684:=0
def tw10664908237778763943:=0
def tw17288255994567549565:=0
def tw8175420209978225866:=0
def tw13261306556388310411:=0
def tw13437360198023232242:=0
def tw5772774720875367178:=0
def tw17177684025458171516:=0
def tw3747027274619544663:=0
def tw1407908736083769424:=0
def tw8853119963785425722:=0
def tw18315871114026804700:=0
def tw17055887937850841831:=0
def tw2624416777650453492:=0
def tw16128563662177967658:=0
def tw7525861075567950374:=0
def tw11393859665488219011:=0
def tw3925864588926485864:=0
def tw13611048647969463386:=0
def tw14338141004215471631:=0
def tw8757524983678976140:=0
def tw1914685037594829999:=0
def tw2540012526356552516:=0
def tw16010528473228048141:=0
def tw692690726514041019:=0
def tw16648266807326070858:=0
def tw3952170686269873433:=0
def tw12261345447191236189:=0
def tw9657288325115083694:=0
def tw15233637043631701809:=0
def tw15889040081532336815:=0
def tw5333669160393432587:=0
def tw2243486007930345972:=0
def tw3167680656279511628:=0
def tw2678455533626156818:=0
def tw13329509023356247344:=0
def tw6454295332630582370:=0
def tw17554926558977557213:=0
def tw11734329698544089075:=0
def tw122323466858404474:=0
def tw5476002134953933551:=0
def tw12369036848051851426:=0
def tw16832416548748215756:=0
def tw15548180250940388237:=0
def tw10838375933540540631:=0
def tw9536712159191596036:=0
def tw1104499448771389214:=0
def tw3962372784618110852:=0
def tw8836825380598458514:=0
def tw4089538955085709280:=0
def tw7591911346761864711:=0
def tw9834707348290881804:=0
def tw4526829239501508369:=0
def tw3831753789224271818:=0
def tw13988583880747961128:=0
def tw11634395897602715743:=0
def tw685291286154069789:=0
def tw8127148967067159923:=0
def tw18265391382450389469:=0
def tw1105538314757315581:=0
def tw17987871340576580704:=0
def tw12926120743954364519:=0
def tw2422617334890989797:=0
def tw6149929038158052708:=0
def tw9970983298813033038:=0
def tw16273167286213540844:=0
def tw778773114640210888:=0
def tw12076265877127539546:=0
def tw17125094234182221717:=0
def tw17271404253506322469:=0
def tw14584902220754560741:=0
def tw8638607830133561588:=0
def tw14785079430442642744:=0
def tw10444437253510108726:=0
def tw14538307967352621126:=0
def tw3077071221956679396:=0
def tw13527980790047356545:=0
def tw6222664397912027621:=0
def tw207641272658411906:=0
end PySem.W.Fast
set_option maxRecDepth 100000 in
set_option maxHeartbeats 0 in
theorem PySem.Challenge.cw_quillhouse_k12_by_hand_holds : PySem.Challenge.rw_quillhouse_k12_by_hand.Holds := by
 w_on;o_law;k_head;(case hw=>w_witness2)
 k_fill
 refine D9.walk (l:=PySem.Challenge.rw_quillhouse_k12_by_hand) rfl rfl (fun w h Y=>PySem.W.kIn_of Y) ?F
 case F =>
  intro w mg fO h m8 G vD
  refine' D9.all_mk vD ?NI ?NH ?NG ?NF ?ND ?NC ?NB ?fq ?cz ?d_ ?cY ?el ?nT ?gG ?jH ?h_ ?lY ?tu ?Ac ?ET ?Ov ?Ab ?Ou ?Aa ?Ot ?sW ?vr ?zk ?Mb ?zj ?Ma ?Lu ?L_ ?Dn ?L9 ?Ls ?L8 ?Lr ?L7 ?Dm ?L6 ?vp ?L5 ?Lq ?L4 ?Lp ?L3 ?Lo ?L1 ?Ln ?L0 ?Lm ?LZ ?Ll ?LY ?Lk ?LX ?Lj ?LW ?Li ?LV ?Lh ?LU ?Lg ?LS ?Lf ?LR ?Le ?LQ ?Ld ?LP ?Lc ?LO ?Lb ?LN ?vo ?LM ?Dl ?LL ?Dk ?LK ?La ?LJ ?Dj ?LI ?K_ ?LH ?K9 ?LG ?K8 ?LF ?K7 ?LD ?Di ?LC ?K6 ?LB ?K5 ?LA ?K4 ?Lz ?K3 ?Ly ?K2 ?Lx ?Js ?JM ?Jq ?Jm ?JC ?JF ?Gv ?HJ ?Jr ?JL ?Jp ?Jl ?JB ?JE ?Ga ?G0 ?GY ?F2 ?Gb ?GZ ?F_ ?Gu ?Ks ?Kr ?Kq ?Kp ?I9 ?I8 ?I7 ?I6 ?I5 ?I4 ?I3 ?I2 ?I1 ?I0 ?IZ ?IY ?IX ?IW ?IV ?IU ?HS ?Hb ?Ij ?Ih ?HU ?FN ?Ii ?Hf ?FY ?HT ?Ig ?AK ?FO ?Ko ?Kn ?Km ?Kl ?KG ?KD ?KC ?KA ?IP ?IM ?IL ?IK ?IJ ?II ?IG ?IF ?IE ?ID ?IC ?IB ?uS ?uR ?J2 ?JU ?J_ ?J6 ?Ke ?JY ?J1 ?JT ?J9 ?J5 ?Kd ?JX ?J0 ?JS ?J8 ?J4 ?Kc ?JW ?JZ ?JR ?J7 ?J3 ?Ka ?JV
  all_goals first | k_is | exact PySem.W.mg_of m8 G (by k_is) | exact PySem.W.mg_none_of m8 G (by k_is) | exact⟨by k_is,by k_is,by k_is⟩ | exact⟨_,L2.Td (by k_is) (by k_is) (by k_is)⟩ | skip
  all_goals first | k_exc | kts_exm | kit_is | skip
