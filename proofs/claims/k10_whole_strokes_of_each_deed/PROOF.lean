import PyProof.Rows.All
import Wide.All
import OpenK.AllK
import Wide.FinOn
import Lean
import PyProof.EqAt
import PyProof.EqKinds
import PyProof.TupleCall
import PyProof.NeKinds
import KE.KTryMore
import PySem.Challenge.RW_quillhouse_k10_whole_strokes_of_each_dee
set_option Elab.async false
set_option linter.all false
set_option maxRecDepth 100000
namespace L2
open PySem PySem.Spec PyProof.Rows
abbrev Key:=Sum Int Str
def keyIs:Key→Value→Bool
 | .inl k,v=>Value.isInt k v
 | .inr x,v=>Value.isStrOf x v
def keyH (w:World):Key→Int
 | .inl k=>hashInt k
 | .inr x=>hashStr w x
theorem z18:∀ {k:Key} {v:Value},keyIs k v=true→(∃ i t,k=Sum.inl i∧v=Value.int i t)∨(∃ x t,k=Sum.inr x∧v=Value.str x t)
 | .inl i,v,h=>by
  obtain ⟨t,e⟩:=Value.isInt_shape (k:=i) (v:=v) h
  exact .inl ⟨i,t,rfl,e⟩
 | .inr x,v,h=>by
  obtain ⟨t,e⟩:=Value.isStrOf_shape (x:=x) (v:=v) h
  exact .inr ⟨x,t,rfl,e⟩
theorem keyIs_int (i:Int) (t:Tok):keyIs (.inl i) (.int i t)=true:=by simp [keyIs,Value.isInt]
theorem keyIs_str (x:Str) (t:Tok):keyIs (.inr x) (.str x t)=true:=by simp [keyIs,Value.isStrOf]
theorem key_ll (a b:Int):decide ((Sum.inl a:Key)=Sum.inl b)=(a == b):=by
 by_cases e:a=b
 ·subst e; simp
 ·have h:¬(Sum.inl a:Key)=Sum.inl b:=fun q=>e (Sum.inl.inj q)
  rw [decide_eq_false h]
  exact (beq_eq_false_iff_ne.mpr e).symm
theorem key_rr (a b:Str):decide ((Sum.inr a:Key)=Sum.inr b)=decide (a=b):=by
 by_cases e:a=b
 ·subst e; simp
 ·have h:¬(Sum.inr a:Key)=Sum.inr b:=fun q=>e (Sum.inr.inj q)
  rw [decide_eq_false h,decide_eq_false e]
theorem key_lr (a:Int) (b:Str):decide ((Sum.inl a:Key)=Sum.inr b)=false:=decide_eq_false (fun q=>nomatch q)
theorem key_rl (a:Str) (b:Int):decide ((Sum.inr a:Key)=Sum.inl b)=false:=decide_eq_false (fun q=>nomatch q)
def z19 (prog:Program) (w:World):PySem.KeyKind prog w Key where
 is:=keyIs
 hash:=keyH w
 inj:=fun v a b ha hb=>by
  rcases z18 ha with ⟨i,t,rfl,rfl⟩ | ⟨x,t,rfl,rfl⟩
  ·rcases z18 hb with ⟨j,u,rfl,e⟩ | ⟨y,u,rfl,e⟩
   ·injection e with e1 _; rw [e1]
   ·exact nomatch e
  ·rcases z18 hb with ⟨j,u,rfl,e⟩ | ⟨y,u,rfl,e⟩
   ·exact nomatch e
   ·injection e with e1 _; rw [e1]
 byValue:=fun k v h=>by
  rcases z18 h with ⟨i,t,rfl,rfl⟩ | ⟨x,t,rfl,rfl⟩ <;> rfl
 pyHash:=fun hv h=>by
  rcases z18 hv with ⟨i,t,rfl,rfl⟩ | ⟨x,t,rfl,rfl⟩
  ·exact wpAny_pyHash_int h
  ·exact wpAny_pyHash_str h
 eqBool:=fun hu hv h=>by
  rcases z18 hu with ⟨i,t,rfl,rfl⟩ | ⟨x,t,rfl,rfl⟩
  ·rcases z18 hv with ⟨j,u,rfl,rfl⟩ | ⟨y,u,rfl,rfl⟩
   ·rw [key_ll] at h; exact wpAny_eqBool_int h
   ·rw [key_lr] at h; exact SeqAt.EqAt.int_str i t y u _ _ _ _ h
  ·rcases z18 hv with ⟨j,u,rfl,rfl⟩ | ⟨y,u,rfl,rfl⟩
   ·rw [key_rl] at h; exact SeqAt.EqAt.str_int x t j u _ _ _ _ h
   ·rw [key_rr] at h; exact wpAny_eqBool_str h
 «strs» := fun k x t v h=>by
  rcases z18 h with ⟨i,u,rfl,e⟩ | ⟨y,u,rfl,e⟩
  ·exact nomatch e
  ·injection e with e1 _
   subst e1
   cases v <;> rfl
theorem mixKind_int (prog:Program) (w:World) (i:Int) (t:Tok):(z19 prog w).is (.inl i) (.int i t)=true:=keyIs_int i t
theorem mixKind_str (prog:Program) (w:World) (x:Str) (t:Tok):(z19 prog w).is (.inr x) (.str x t)=true:=keyIs_str x t
end L2
namespace L2
open PySem PySem.Spec PyProof.Rows
inductive V where
 | non | bl (b:Bool) | int (i:Int) | str (x:Str) | byt (b:Array UInt8) | flt (b:UInt64) | ref (a:Addr) | ty (n:String)
 deriving DecidableEq
def RelV:V→Value→Prop
 | .non,u=>u=Value.none
 | .bl b,u=>u=Value.bool b
 | .int i,u=>∃ t,u=Value.int i t
 | .str x,u=>∃ t,u=Value.str x t
 | .byt b,u=>∃ t,u=Value.bytes b t
 | .flt b,u=>∃ t,u=Value.float b t
 | .ref a,u=>u=Value.ref a
 | .ty n,u=>u=Value.type n
abbrev Vals:List V→List Value→Prop:=Paired RelV
theorem Vals.length {xs:List V} {us:List Value} (r:Vals xs us):xs.length=us.length:=Paired.length r
theorem Vals.get:∀ {xs:List V} {us:List Value} {i:Nat} {x:V},Vals xs us→xs[i]?=some x→∃ u,us[i]?=some u∧RelV x u
 | _,_,_,_,.nil,e=>by simp at e
 | _,_,0,_,.cons r _,e=>by simp at e; subst e; exact ⟨_,rfl,r⟩
 | _,_,i+1,x,.cons _ t,e=>by
  obtain ⟨u,h1,h2⟩:=Vals.get (i:=i) (x:=x) t (by simpa using e)
  exact ⟨u,by simpa using h1,h2⟩
theorem Vals.set {x:V} {u:Value} (r:RelV x u):∀ {xs:List V} {us:List Value} (i:Nat),Vals xs us→Vals (xs.set i x) (us.set i u)
 | _,_,_,.nil=>.nil
 | _,_,0,.cons _ t=>.cons r t
 | _,_,i+1,.cons q t=>.cons q (Vals.set r i t)
theorem Vals.append:∀ {xs ys:List V} {us ws:List Value},Vals xs us→Vals ys ws→Vals (xs++ys) (us++ws)
 | _,_,_,_,.nil,s=>s
 | _,_,_,_,.cons r t,s=>.cons r (Vals.append t s)
theorem Vals.take:∀ {xs:List V} {us:List Value} (n:Nat),Vals xs us→Vals (xs.take n) (us.take n)
 | _,_,0,_=>.nil
 | _,_,_+1,.nil=>.nil
 | _,_,n+1,.cons r t=>.cons r (Vals.take n t)
theorem Vals.drop:∀ {xs:List V} {us:List Value} (n:Nat),Vals xs us→Vals (xs.drop n) (us.drop n)
 | _,_,0,r=>r
 | _,_,_+1,.nil=>.nil
 | _,_,n+1,.cons _ t=>Vals.drop n t
def RelO:Option V→Option Value→Prop
 | some v,some u=>RelV v u
 | none,none=>True
 | _,_=>False
def KV {κ:Type}:List (κ × V)→List (κ × Value)→Prop:=Paired fun (p:κ × V) (q:κ × Value)=>p.1=q.1∧RelV p.2 q.2
def kV:Key→V
 | .inl i=>.int i
 | .inr x=>.str x
inductive HO where
 | lst (xs:List V)
 | tup (xs:List V)
 | dK (kvs:List (Key × V)) | dT (kvs:List (List Key × V))
 | set (S:Int→Bool) (n:Nat)
 | ins (C dx:Addr) (fs:List (Str × V))
 | own (x:Addr)
 | xd (fs:List (Str × V))
 | met (f x:Addr)
 | rng (lo hi:Int)
 | frz (o:Obj) (u:HO)
 | tbl (ps:Array Value)
 | ext (φ:Heap→Prop)
abbrev Hp:=Addr→Option HO
def upd (H:Hp) (a:Addr) (o:HO):Hp:=fun b=>if b=a then some o else H b
theorem z02 {H:Hp} {a:Addr} {o:HO}:upd H a o a=some o:=by unfold upd; rw [if_pos rfl]
theorem z01 {H:Hp} {a b:Addr} {o:HO} (h:b≠a):upd H a o b=H b:=by unfold upd; rw [if_neg h]
theorem upd_upd {H:Hp} {a:Addr} {o u:HO}:upd (upd H a o) a u=upd H a u:=by
 funext b; unfold upd; split <;> rfl
theorem z0x {H:Hp} {a b:Addr} {o u:HO} (h:H a=some o) (h':H b=some u) (d:o≠u):a≠b:=by
 intro e; subst e; rw [h] at h'; exact d (Option.some.inj h')
theorem z07 {H:Hp} {a b:Addr} {o:HO} (h:H a=some o) (h':H b=none):a≠b:=by
 intro e; subst e; rw [h] at h'; cases h'
section
variable (P:Program) (w:World)
def z1n (H:Hp) (h:Heap) (a:Addr):HO→Prop
 | .lst xs=>xs.length≤sizeLine∧∃ (its:List Value) (n:Nat),Vals xs its∧h.get? a=some { cls:=.type "list",data:=.seq its.toArray n }
 | .tup xs=>xs.length≤sizeLine∧∃ its:List Value,Vals xs its∧IsTup h a its.toArray
 | .dK kvs=>kvs.length≤sizeLine∧(a == sysModules)=false∧∃ vs,KV kvs vs∧h.DictOf (z19 P w) a vs
 | .dT kvs=>kvs.length≤sizeLine∧(a == sysModules)=false∧∃ xs:List (List Key × Addr × Value),
   Paired (fun (p:List Key × V) (q:List Key × Addr × Value)=>p.1=q.1∧H q.2.1=some (.tup (p.1.map kV))∧RelV p.2 q.2.2) kvs xs ∧
   ∃ o es ep,h.get? a=some o∧o.ExactDict∧o.data=.dict es ep∧es.toList=xs.map (entryOfKey (tupleKind (z19 P w)))∧(xs.map (·.1)).Nodup
 | .set S n=>h.SetOf (intKind P w) a S n
 | .ins C dx fs=>H dx=some (.own a)∧fs.length≤1000∧dx≠a∧h.get? a=some (PySem.W.instObj C dx) ∧
   ∃ mA,h.Ns1 dx mA∧(∀ f,RelO (fs.lookup f) (mA f))∧PySem.Within mA (fs.map (·.1))
 | .own _=>∃ o,h.get? a=some o
 | .xd fs=>∃ mA,h.Ns1 a mA∧∀ f,RelO (fs.lookup f) (mA f)
 | .rng lo hi=>∃ t u v,h.get? a=some { cls:=.type "range",data:=.fields #[.int lo t,.int hi u,.int 1 v] }
 | .frz o u=>h.get? a=some o∧z1n H h a u
 | .tbl ps=>h.get? a=some { cls:=.none,data:=.fields ps }
 | .met f x=>h.get? a=some (PySem.W.methodObj (.ref f) (.ref x))
 | .ext φ=>φ h∧(∃ o,h.get? a=some o)∧∀ h1 h2:Heap,φ h1→(∀ o,h1.get? a=some o→h2.get? a=some o)→φ h2
def HOk (H:Hp) (h:Heap):Prop:=∀ a o,H a=some o→z1n P w H h a o
end
section
variable {P:Program} {w:World} {H H':Hp} {h h':Heap} {a:Addr} {o:HO}
theorem z1n.lt (x:z1n P w H h a o):a<h.objs.size:=by
 cases o with
 | lst xs=>obtain ⟨_,_,_,_,e⟩:=x; exact Heap.lt_size e
 | tup xs=>obtain ⟨_,_,_,p⟩:=x; exact p.lt
 | dK kvs=>obtain ⟨_,_,_,_,o,_,_,e,_⟩:=x; exact Heap.lt_size e
 | dT kvs=>obtain ⟨_,_,_,_,o,_,_,e,_⟩:=x; exact Heap.lt_size e
 | set S n=>obtain ⟨o,_,_,_,e,_⟩:=x; exact Heap.lt_size e
 | ins C dx fs=>obtain ⟨_,_,_,e,_⟩:=x; exact Heap.lt_size e
 | own y=>obtain ⟨_,e⟩:=x; exact Heap.lt_size e
 | xd fs=>obtain ⟨_,⟨_,_,_,e,_⟩,_⟩:=x; exact Heap.lt_size e
 | rng lo hi=>obtain ⟨_,_,_,e⟩:=x; exact Heap.lt_size e
 | frz ob u=>obtain ⟨e,_⟩:=x; exact Heap.lt_size e
 | tbl ps=>exact Heap.lt_size (show h.get? a=some _ from x)
 | met f y=>exact Heap.lt_size (show h.get? a=some _ from x)
 | ext φ=>obtain ⟨_,⟨_,e⟩,_⟩:=x; exact Heap.lt_size e
theorem Paired.mapP {α β:Type} {F G:α→β→Prop}:∀ {l₁:List α} {l₂:List β},Paired F l₁ l₂→(∀ a b,F a b→G a b)→Paired G l₁ l₂
 | _,_,.nil,_=>.nil
 | _,_,.cons r t,f=>.cons (f _ _ r) (Paired.mapP t f)
theorem z1n.stay (x:z1n P w H h a o) (k:∀ b u,(b=a∨H b=some (.own a))→h.get? b=some u→h'.get? b=some u)
  (ho:∀ b,H b=some (.own a)→H' b=some (.own a)) (ht:∀ b xs,H b=some (.tup xs)→H' b=some (.tup xs)):z1n P w H' h' a o:=by
 induction o with
 | lst xs=>obtain ⟨z,its,n,r,e⟩:=x; exact ⟨z,its,n,r,k _ _ (.inl rfl) e⟩
 | tup xs=>obtain ⟨z,its,r,ob,e,c⟩:=x; exact ⟨z,its,r,ob,k _ _ (.inl rfl) e,c⟩
 | dK kvs=>obtain ⟨z,y,vs,r,ob,es,ep,e,c⟩:=x; exact ⟨z,y,vs,r,ob,es,ep,k _ _ (.inl rfl) e,c⟩
 | dT kvs =>
  obtain ⟨z,y,xs,r,ob,es,ep,e,c⟩:=x
  exact ⟨z,y,xs,Paired.mapP r fun p q z=>⟨z.1,ht _ _ z.2.1,z.2.2⟩,ob,es,ep,k _ _ (.inl rfl) e,c⟩
 | set S n=>obtain ⟨ob,es,ep,t,e,c⟩:=x; exact ⟨ob,es,ep,t,k _ _ (.inl rfl) e,c⟩
 | ins C dx fs =>
  obtain ⟨d,z,ne,e,mA,⟨od,es,ep,e2,c⟩,r⟩:=x
  exact ⟨ho _ d,z,ne,k _ _ (.inl rfl) e,mA,⟨od,es,ep,k _ _ (.inr d) e2,c⟩,r⟩
 | own y=>obtain ⟨ob,e⟩:=x; exact ⟨ob,k _ _ (.inl rfl) e⟩
 | xd fs=>obtain ⟨mA,⟨od,es,ep,e,c⟩,r⟩:=x; exact ⟨mA,⟨od,es,ep,k _ _ (.inl rfl) e,c⟩,r⟩
 | rng lo hi=>obtain ⟨t,u,v,e⟩:=x; exact ⟨t,u,v,k _ _ (.inl rfl) e⟩
 | frz ob u ih=>obtain ⟨e,q⟩:=x; exact ⟨k _ _ (.inl rfl) e,ih q⟩
 | tbl ps =>
  have e:h.get? a=some { cls:=.none,data:=.fields ps }:=x
  show h'.get? a=some { cls:=.none,data:=.fields ps }
  exact k a _ (.inl rfl) e
 | met f y =>
  have e:h.get? a=some (PySem.W.methodObj (.ref f) (.ref y)):=x
  show h'.get? a=some (PySem.W.methodObj (.ref f) (.ref y))
  exact k a _ (.inl rfl) e
 | ext φ=>obtain ⟨p,⟨o,e⟩,st⟩:=x; exact ⟨st _ _ p fun o q=>k _ _ (.inl rfl) q,⟨o,k _ _ (.inl rfl) e⟩,st⟩
theorem HOk.lt (x:HOk P w H h) (e:H a=some o):a<h.objs.size:=(x a o e).lt
theorem HOk.fresh (x:HOk P w H h) (e:h.objs.size≤a):H a=none:=by
 cases q:H a with
 | none=>rfl
 | some u=>exact absurd (Nat.lt_of_lt_of_le (x.lt q) e) (Nat.lt_irrefl _)
theorem HOk.kept (x:HOk P w H h) (k:∀ b u,h.get? b=some u→h'.get? b=some u):HOk P w H h':=fun a o e =>
 (x a o e).stay (fun b u _ q=>k b u q) (fun _ q=>q) fun _ _ q=>q
theorem HOk.laid (x:HOk P w H h) (k:∀ b u,h.get? b=some u→h'.get? b=some u) (hp:h.objs.size≤a) (new:z1n P w (upd H a o) h' a o):HOk P w (upd H a o) h':=fun b u e=>by
 have hn:=x.fresh hp
 by_cases hb:b=a
 ·subst hb; rw [z02] at e; cases e; exact new
 ·rw [z01 hb] at e
  exact (x b u e).stay (fun c v _ q=>k c v q) (fun c q=>by rw [z01 (z07 q hn)]; exact q) fun c xs q=>by rw [z01 (z07 q hn)]; exact q
end
def Rd (H:Hp) (a:Addr) (u:HO):Prop:=H a=some u∨∃ o,H a=some (.frz o u)
theorem Rd.ok {P:Program} {w:World} {H:Hp} {h:Heap} {a:Addr} {u:HO} (r:Rd H a u) (x:HOk P w H h):z1n P w H h a u:=by
 rcases r with r | ⟨o,r⟩
 ·exact x a u r
 ·obtain ⟨_,q⟩:=x a _ r
  exact q
def Mut:Option HO→Prop
 | some (.lst _)=>True
 | some (.dK _)=>True
 | some (.dT _)=>True
 | some (.set _ _)=>True
 | some (.ins _ _ _)=>True
 | some (.ext _)=>True
 | _=>False
section
variable {P:Program} {w:World} {H:Hp} {h h':Heap} {x e:Addr} {o':HO}
theorem HOk.write (ok:HOk P w H h) (mu:Mut (H x)) (he:e=x∨H e=some (.own x)) (k:∀ b u,b≠e→h.get? b=some u→h'.get? b=some u) (heo:∃ u,h'.get? e=some u)
  (new:z1n P w (upd H x o') h' x o'):HOk P w (upd H x o') h':=fun b u q=>by
 have nown:∀ c y,H c=some (.own y)→c≠x:=fun c y r z=>by subst z; rw [r] at mu; exact mu
 have ntup:∀ c xs,H c=some (.tup xs)→c≠x:=fun c xs r z=>by subst z; rw [r] at mu; exact mu
 by_cases hb:b=x
 ·subst hb; rw [z02] at q; cases q; exact new
 ·rw [z01 hb] at q
  by_cases hbe:b=e
  ·have q':H b=some (.own x):=by
    rcases he with z | z
    ·exact absurd (hbe.trans z) hb
    ·rw [hbe]; exact z
   rw [q] at q'; cases q'
   obtain ⟨v,hv⟩:=heo
   exact ⟨v,by rw [hbe]; exact hv⟩
  ·refine (ok b u q).stay (fun c v hc r=>k c v ?_ r) (fun c r=>by rw [z01 (nown c b r)]; exact r) fun c xs r=>by rw [z01 (ntup c xs r)]; exact r
   rcases hc with rfl | hc
   ·exact hbe
   ·rintro rfl
    rcases he with z | z
    ·exact nown c b hc z
    ·rw [hc] at z; cases z; exact hb rfl
end
structure Un (fs ex:List Addr) (H H':Hp) (h h':Heap):Prop where
 keep:∀ b o,h.get? b=some o→H b=none→b∉fs→b∉ex→h'.get? b=some o
 slot:∀ b o,h.get? b=some o→H b=none→b∈fs→b∉ex→∃ sl,h'.get? b=some { o with slots:=sl }
 free:∀ b o,h.get? b=some o→H b=none→b∉ex→H' b=none
 there:∀ b o,h.get? b=some o→b∉ex→∃ o',h'.get? b=some o'
 tups:∀ b xs,H b=some (.tup xs)→H' b=some (.tup xs)
 frzs:∀ b o u,H b=some (.frz o u)→H' b=some (.frz o u)
 tbls:∀ b ps,H b=some (.tbl ps)→∃ more,H' b=some (.tbl (ps++more))
section
variable {fs fs' ex ex':List Addr} {H H1 H2:Hp} {h h1 h2 h':Heap} {a x e:Addr} {o:HO}
theorem Un.any (u:Un fs ex H H1 h h1) {b:Addr} {ob:Obj} (q:h.get? b=some ob) (n:H b=none) (hx:b∉ex):∃ sl,h1.get? b=some { ob with slots:=sl }:=by
 by_cases hb:b∈fs
 ·exact u.slot b ob q n hb hx
 ·exact ⟨ob.slots,u.keep b ob q n hb hx⟩
theorem Un.kept (k:∀ b u,h.get? b=some u→h'.get? b=some u):Un fs ex H H h h' :=
 ⟨fun b ob q _ _ _=>k b ob q,fun b ob q _ _ _=>⟨ob.slots,k b ob q⟩,fun _ _ _ n _=>n,fun b ob q _=>⟨ob,k b ob q⟩,fun _ _ q=>q,fun _ _ _ q=>q,fun _ ps q=>⟨#[],by rw [q]; simp⟩⟩
theorem Un.refl:Un fs ex H H h h:=Un.kept fun _ _ q=>q
theorem Un.laid (k:∀ b u,h.get? b=some u→h'.get? b=some u) (hp:h.objs.size≤a) (hn:H a=none):Un fs ex H (upd H a o) h h' where
 keep:=fun b u q _ _ _=>k b u q
 slot:=fun b u q _ _ _=>⟨u.slots,k b u q⟩
 free:=fun b u q n _=>by rw [z01 (Nat.ne_of_lt (Nat.lt_of_lt_of_le (Heap.lt_size q) hp))]; exact n
 there:=fun b u q _=>⟨u,k b u q⟩
 tups:=fun b xs q=>by rw [z01 (z07 q hn)]; exact q
 frzs:=fun b u xs q=>by rw [z01 (z07 q hn)]; exact q
 tbls:=fun b ps q=>⟨#[],by rw [z01 (z07 q hn),q]; simp⟩
theorem Un.write (mu:Mut (H x)) (he:e=x∨H e=some (.own x)) (k:∀ b u,b≠e→h.get? b=some u→h'.get? b=some u) (heo:∃ u,h'.get? e=some u):Un fs ex H (upd H x o) h h':=by
 have hx:∀ b,H b=none→b≠x:=fun b n z=>by subst z; rw [n] at mu; exact mu
 have hb:∀ b,H b=none→b≠e:=fun b n z=>by
  subst z
  rcases he with r | r
  ·exact hx b n r
  ·rw [n] at r; cases r
 have hm:∀ b u,H b=some u→¬Mut (some u)→b≠x:=fun b u q nm z=>by subst z; rw [q] at mu; exact nm mu
 refine ⟨fun b u q n _ _=>k b u (hb b n) q,fun b u q n _ _=>⟨u.slots,k b u (hb b n) q⟩,fun b u q n _=>by rw [z01 (hx b n)]; exact n,fun b u q _=>?_,
  fun b xs q=>by rw [z01 (hm b _ q fun z=>z)]; exact q,fun b u xs q=>by rw [z01 (hm b _ q fun z=>z)]; exact q,fun b ps q=>⟨#[],by rw [z01 (hm b _ q fun z=>z),q]; simp⟩⟩
 by_cases hbe:b=e
 ·subst hbe; exact heo
 ·exact ⟨u,k b u hbe q⟩
end
def trk (h:Heap) (H:Hp):List Addr:=(List.range h.objs.size).filter fun a=>(H a).isSome
def hidT (h:Heap) (H:Hp):Heap:=PySem.W.hideAll h (trk h H)
theorem hidT_size (h:Heap) (H:Hp):(hidT h H).objs.size=h.objs.size:=PySem.W.hideAll_size _ _
theorem hidT_get {h:Heap} {H:Hp} {b:Addr} {o:Obj} (e:h.get? b=some o) (n:H b=none):(hidT h H).get? b=some o :=
 PySem.W.hideAll_get _ e fun hm=>by
  have q:(H b).isSome=true:=(List.mem_filter.mp hm).2
  rw [n] at q; simp at q
theorem of_hidT {h:Heap} {H:Hp} {b:Addr} {o:Obj} (e:(hidT h H).get? b=some o):h.get? b=some o∧H b=none:=by
 have e':h.get? b=some o:=PySem.W.of_hideAll (trk h H) e
 refine ⟨e',?_⟩
 cases q:H b with
 | none=>rfl
 | some x =>
  have hm:b∈trk h H:=List.mem_filter.mpr ⟨List.mem_range.mpr (Heap.lt_size e'),by simp [q]⟩
  have z:(hidT h H).get? b=none:=PySem.W.hideAll_none (trk h H) hm
  rw [z] at e; cases e
end L2
namespace L2
open PySem PySem.Spec PyProof.Rows
structure Mod (K:PySem.W.Frag) (mg:Str→Option Value) (base:Heap):Prop where
 kin:K.In base
 glob:base.Ns mainGlobals mg
 blt:∃ mb,base.Ns builtinsNs mb∧∀ x:Str,x≠"__name__"→mb x=bootBuiltins x
 nolimit:base.NoLimit
structure Cx where
 prog:Program
 w:World
 K:PySem.W.Frag
 mg:Str→Option Value
 base:Heap
 A:Around
 N:List Str
 s₀:Shared
 H₀:Hp
 env:Env
 outer:List Env
 stack:List Env
 ex:List Addr
 fn:Str→Bool
 calm:Bool
 pn:List (Addr × Obj)
 xe:Value→Shared→Prop
def frs (l:List Env):List Addr:=l.filterMap (·.frame)
abbrev Cx.fs (X:Cx):List Addr:=frs X.outer
def Vis (sc:Scope) (x:Str):Prop:=sc.names.lookup x=some .local∨sc.names.lookup x=some .cell∨sc.names.lookup x=some .free
def Loc (sc:Scope) (x:Str):Prop:=sc.names.lookup x=some .local∨sc.names.lookup x=some .cell
def Look (env:Env) (h:Heap) (m:Str→Option Value) (x:Str) (u:Value):Prop :=
 (env.kindOf x=some .local∧m x=some u)∨((env.kindOf x=some .cell∨env.kindOf x=some .free)∧∃ c,env.cells.lookup x=some c∧h.IsCell c (some u))
structure Cx.Ok (X:Cx):Prop where
 mod:Mod X.K X.mg X.base
 kind:X.env.scope.kind=.function
 glob:X.env.globals=mainGlobals
 blt:X.env.builtins=builtinsNs
 above:X.s₀.heap.objs.size≤X.env.locals
 inj:∀ x y c,X.env.cells.lookup x=some c→X.env.cells.lookup y=some c→x=y
 has:∀ x,(X.env.kindOf x=some .cell∨X.env.kindOf x=some .free)→∃ c,X.env.cells.lookup x=some c
 cab:∀ x c,X.fn x=true→X.env.cells.lookup x=some c→X.s₀.heap.objs.size≤c
 hd:X.calm=true→X.A.handled=none
 frames:X.A.frames=some X.stack
 stk:X.stack=X.outer∨(X.stack=X.env::X.outer∧X.env.frame=some X.env.locals)
 exf:∀ b∈X.ex,b≠X.env.locals∧∀ x c,X.env.cells.lookup x=some c→c≠b
 bs:∀ b o,X.base.get? b=some o→X.s₀.heap.get? b=some o∧X.H₀ b=none
 bsz:X.base.objs.size≤X.s₀.heap.objs.size
 noex:∀ b o,X.base.get? b=some o→b∉X.ex
 exfs:∀ b∈X.ex,b∉X.fs
 funs:X.s₀.heap.FunFrames X.base X.outer
 frf:∀ b∈X.fs,X.H₀ b=none
structure Inv (X:Cx) (pins:List (Addr × Obj)) (σ:List (Option V)) (H:Hp) (s:Shared):Prop where
 ok:X.Ok
 os:s.os=X.s₀.os
 bare:AllBare s.gens
 base:Un X.fs X.ex X.H₀ H X.s₀.heap s.heap
 loc:∃ m,s.heap.Ns X.env.locals m∧∀ (i:Nat) (x:Str) (v:V),X.N[i]?=some x→σ[i]?=some (some v)→Vis X.env.scope x→∃ u,RelV v u∧Look X.env s.heap m x u
 cell:∀ x c,X.env.cells.lookup x=some c→∃ v,s.heap.IsCell c v
 free:H X.env.locals=none
 freeC:∀ x c,X.env.cells.lookup x=some c→H c=none
 pin:∀ p∈X.pn++pins,s.heap.get? p.1=some p.2∧H p.1=none∧p.1≠X.env.locals∧p.1∉X.fs∧∀ v,p.2.data≠.cell v
 hok:HOk X.prog X.w H s.heap
 len:σ.length=X.N.length
section
variable {X:Cx} {pins:List (Addr × Obj)} {σ:List (Option V)} {H H':Hp} {s:Shared} {h':Heap}
theorem Cx.Ok.nofr (ok:X.Ok) {b:Addr} {o:Obj} (e:X.base.get? b=some o):b∉X.fs:=fun hb=>by
 have:=(ok.funs.mem hb).1
 rw [e] at this; cases this
theorem Inv.bs (I:Inv X pins σ H s):∀ b o,X.base.get? b=some o→s.heap.get? b=some o∧H b=none:=fun b o e =>
 ⟨I.base.keep b o (I.ok.bs b o e).1 (I.ok.bs b o e).2 (I.ok.nofr e) (I.ok.noex b o e),I.base.free b o (I.ok.bs b o e).1 (I.ok.bs b o e).2 (I.ok.noex b o e)⟩
theorem Inv.bk (I:Inv X pins σ H s):∀ b o,X.base.get? b=some o→s.heap.get? b=some o:=fun b o e=>(I.bs b o e).1
theorem Inv.mod (I:Inv X pins σ H s):Mod X.K X.mg X.base:=I.ok.mod
theorem Inv.kIn (I:Inv X pins σ H s):X.K.In s.heap:=I.ok.mod.kin.keeps I.bk
theorem Inv.lt (I:Inv X pins σ H s):X.env.locals<s.heap.objs.size:=let ⟨_,hn,_⟩:=I.loc; hn.lt
theorem Inv.sz (I:Inv X pins σ H s):X.s₀.heap.objs.size≤s.heap.objs.size:=Nat.le_trans I.ok.above (Nat.le_of_lt I.lt)
theorem Inv.nofs (I:Inv X pins σ H s) {a:Addr} (h:s.heap.objs.size≤a):a∉X.fs:=fun hb=>by
 obtain ⟨_,o,ho,_⟩:=I.ok.funs.mem hb
 exact absurd (Nat.lt_of_lt_of_le (Heap.lt_size ho) (Nat.le_trans I.sz h)) (Nat.lt_irrefl _)
theorem Inv.cne (I:Inv X pins σ H s):∀ x c,X.env.cells.lookup x=some c→c≠X.env.locals:=fun x c e z=>by
 obtain ⟨v,o,ho,hd⟩:=I.cell x c e
 obtain ⟨m,⟨o',es,ep,ho',hd',_⟩,_⟩:=I.loc
 rw [z,ho'] at ho; cases ho; rw [hd'] at hd; cases hd
theorem Inv.funs (I:Inv X pins σ H s):s.heap.FunFrames X.base X.outer:=by
 have all:∀ (l:List Env),(∀ b∈frs l,b∈X.fs)→X.s₀.heap.FunFrames X.base l→s.heap.FunFrames X.base l:=by
  intro l
  induction l with
  | nil=>intro _ _; trivial
  | cons env r ih =>
   intro hs hl
   obtain ⟨hk,⟨L,o,hf,hn,ho,hd⟩,hr⟩:=hl
   have hL:L∈X.fs:=hs L (by unfold frs; rw [List.filterMap_cons,hf]; exact List.mem_cons_self)
   obtain ⟨sl,e⟩:=I.base.slot L o ho (I.ok.frf L hL) hL fun z=>I.ok.exfs L z hL
   exact ⟨hk,⟨L,_,hf,hn,e,hd⟩,ih (fun b hb=>hs b (by unfold frs; rw [List.filterMap_cons,hf]; exact List.mem_cons_of_mem _ hb)) hr⟩
 exact all X.outer (fun _ hb=>hb) I.ok.funs
theorem Inv.stack (I:Inv X pins σ H s):s.heap.FunFrames X.base X.stack:=by
 rcases I.ok.stk with e | ⟨e,hf⟩
 ·rw [e]; exact I.funs
 ·rw [e]
  obtain ⟨m,hn,_⟩:=I.loc
  refine .cons (by rw [I.ok.kind]; decide) hf hn ?_ I.funs
  exact Heap.get?_none_of_le (Nat.le_trans I.ok.bsz I.ok.above)
theorem Inv.stkSub (I:Inv X pins σ H s):∀ b∈frs X.stack,b∈X.env.locals::X.fs:=fun b hb=>by
 rcases I.ok.stk with e | ⟨e,hf⟩
 ·rw [e] at hb; exact List.mem_cons_of_mem _ hb
 ·rw [e] at hb
  unfold frs at hb
  rw [List.filterMap_cons,hf] at hb
  exact hb
theorem Inv.stkFree (I:Inv X pins σ H s):∀ b∈frs X.stack,H b=none:=fun b hb=>by
 rcases List.mem_cons.mp (I.stkSub b hb) with e | hb
 ·rw [e]; exact I.free
 ·obtain ⟨_,o,ho,_⟩:=I.ok.funs.mem hb
  exact I.base.free b o ho (I.ok.frf b hb) fun z=>I.ok.exfs b z hb
theorem Inv.step {g':Array GenState} {t':Nat} {d':Drawn} {ch:List Addr} (I:Inv X pins σ H s)
  (hch:∀ b∈ch,(b∈X.ex∨X.s₀.heap.objs.size≤b)∧b≠X.env.locals∧(∀ x c,X.env.cells.lookup x=some c→c≠b)∧∀ p∈X.pn++pins,p.1≠b)
  (keep:∀ b o,b≠X.env.locals→b∉X.fs→b∉ch→s.heap.get? b=some o→H b=none→h'.get? b=some o)
  (slot:∀ b o,b≠X.env.locals→b∈X.fs→b∉ch→s.heap.get? b=some o→H b=none→∃ sl,h'.get? b=some { o with slots:=sl }) (free:∀ b o,b∉ch→s.heap.get? b=some o→H b=none→H' b=none)
  (there:∀ b o,b∉ch→s.heap.get? b=some o→∃ o',h'.get? b=some o')
  (tups:∀ b xs,H b=some (.tup xs)→H' b=some (.tup xs)) (frzs:∀ b o u,H b=some (.frz o u)→H' b=some (.frz o u)) (tbls:∀ b ps,H b=some (.tbl ps)→∃ more,H' b=some (.tbl (ps++more)))
  (ns:∀ m,s.heap.Ns X.env.locals m→h'.Ns X.env.locals m) (hok:HOk X.prog X.w H' h') (hg:AllBare g') :
  Inv X pins σ H' { s with heap:=h',gens:=g',drawn:=d',toks:=t' }:=by
 have neL:∀ b o,X.s₀.heap.get? b=some o→b≠X.env.locals:=fun b o e=>Nat.ne_of_lt (Nat.lt_of_lt_of_le (Heap.lt_size e) I.ok.above)
 have neC:∀ b o,X.s₀.heap.get? b=some o→b∉X.ex→b∉ch:=fun b o e hx hb=>by
  rcases (hch b hb).1 with z | z
  ·exact hx z
  ·exact absurd (Nat.lt_of_lt_of_le (Heap.lt_size e) z) (Nat.lt_irrefl _)
 have cellK:∀ x c,X.env.cells.lookup x=some c→∀ v,s.heap.IsCell c v→h'.IsCell c v:=fun x c e v ⟨o,ho,hd⟩=>by
  have nch:c∉ch:=fun z=>(hch c z).2.2.1 x c e rfl
  by_cases hc:c∈X.fs
  ·obtain ⟨sl,q⟩:=slot c o (I.cne x c e) hc nch ho (I.freeC x c e)
   exact ⟨_,q,hd⟩
  ·exact ⟨o,keep c o (I.cne x c e) hc nch ho (I.freeC x c e),hd⟩
 refine ⟨I.ok,I.os,hg,⟨fun b o e n hb hx=>?_,fun b o e n hb hx=>?_,fun b o e n hx=>?_,fun b o e hx=>?_,fun b xs e=>tups b xs (I.base.tups b xs e),fun b o xs e=>frzs b o xs (I.base.frzs b o xs e),fun b ps e=>?_⟩,?_,fun x c e=>?_,?_,fun x c e=>?_,fun p hp=>?_,hok,I.len⟩
 ·exact keep b o (neL b o e) hb (neC b o e hx) (I.base.keep b o e n hb hx) (I.base.free b o e n hx)
 ·obtain ⟨sl,e1⟩:=I.base.slot b o e n hb hx
  obtain ⟨sl',e2⟩:=slot b _ (neL b o e) hb (neC b o e hx) e1 (I.base.free b o e n hx)
  exact ⟨sl',e2⟩
 ·obtain ⟨o',e1⟩:=I.base.there b o e hx
  exact free b o' (neC b o e hx) e1 (I.base.free b o e n hx)
 ·obtain ⟨o',e1⟩:=I.base.there b o e hx
  exact there b o' (neC b o e hx) e1
 ·obtain ⟨m1,e1⟩:=I.base.tbls b ps e
  obtain ⟨m2,e2⟩:=tbls b _ e1
  exact ⟨m1++m2,by rw [e2,Array.append_assoc]⟩
 ·obtain ⟨m,hn,hl⟩:=I.loc
  refine ⟨m,ns m hn,fun i x v e1 e2 e3=>?_⟩
  obtain ⟨u,r,l⟩:=hl i x v e1 e2 e3
  refine ⟨u,r,?_⟩
  rcases l with l | ⟨k,c,e,z⟩
  ·exact .inl l
  ·exact .inr ⟨k,c,e,cellK x c e _ z⟩
 ·obtain ⟨v,z⟩:=I.cell x c e
  exact ⟨v,cellK x c e v z⟩
 ·obtain ⟨m,⟨o,_,_,ho,_⟩,_⟩:=I.loc
  exact free _ o (fun z=>(hch _ z).2.1 rfl) ho I.free
 ·obtain ⟨v,o,ho,hd⟩:=I.cell x c e
  exact free c o (fun z=>(hch c z).2.2.1 x c e rfl) ho (I.freeC x c e)
 ·obtain ⟨e,n,ne,nf,d⟩:=I.pin p hp
  have nch:p.1∉ch:=fun z=>(hch p.1 z).2.2.2 p hp rfl
  exact ⟨keep p.1 p.2 ne nf nch e n,free p.1 p.2 nch e n,ne,nf,d⟩
theorem Inv.un {t':Nat} (I:Inv X pins σ H s) (u:Un X.fs [] H H' s.heap h') (hok:HOk X.prog X.w H' h'):Inv X pins σ H' { s with heap:=h',toks:=t' }:=by
 obtain ⟨m,⟨o,es,ep,ho,r⟩,_⟩:=id I.loc
 obtain ⟨sl,hL⟩:=u.any ho I.free (by simp)
 exact I.step (g':=s.gens) (d':=s.drawn) (ch:=[]) (fun _ z=>nomatch z) (fun b o _ hb _ e n=>u.keep b o e n hb (by simp)) (fun b o _ hb _ e n=>u.slot b o e n hb (by simp)) (fun b o _ e n=>u.free b o e n (by simp)) (fun b o _ e=>u.there b o e (by simp)) u.tups u.frzs u.tbls (fun m' hm=>by
  obtain ⟨o',es',ep',ho',r'⟩:=hm
  rw [ho] at ho'; cases ho'
  exact ⟨_,es',ep',hL,r'⟩) hok I.bare
theorem Inv.call {g':Array GenState} {t':Nat} {d':Drawn} {ch:List Addr} (I:Inv X pins σ H s) (u:Un (frs X.stack) ch H H' s.heap h') (hok:HOk X.prog X.w H' h') (hg:AllBare g')
  (hch:∀ b∈ch,(b∈X.ex∨X.s₀.heap.objs.size≤b)∧b≠X.env.locals∧(∀ x c,X.env.cells.lookup x=some c→c≠b)∧∀ p∈X.pn++pins,p.1≠b) :
  Inv X pins σ H' { s with heap:=h',gens:=g',drawn:=d',toks:=t' }:=by
 obtain ⟨m,⟨o,es,ep,ho,r⟩,_⟩:=id I.loc
 obtain ⟨sl,hL⟩:=u.any ho I.free fun z=>(hch _ z).2.1 rfl
 exact I.step (ch:=ch) hch (fun b o hL hb hc e n=>u.keep b o e n (fun z=>(List.mem_cons.mp (I.stkSub b z)).elim hL hb) hc) (fun b o _ _ hc e n=>u.any e n hc) (fun b o hc e n=>u.free b o e n hc) (fun b o hc e=>u.there b o e hc) u.tups u.frzs u.tbls (fun m' hm=>by
  obtain ⟨o',es',ep',ho',r'⟩:=hm
  rw [ho] at ho'; cases ho'
  exact ⟨_,es',ep',hL,r'⟩) hok hg
theorem Inv.turned {t':Nat} {it:Addr} (I:Inv X pins σ H s) (k:∀ b o,b≠it→s.heap.get? b=some o→h'.get? b=some o) (hn:H it=none) (hL:it≠X.env.locals)
  (h1:it∈X.ex∨X.s₀.heap.objs.size≤it) (h2:∀ x c,X.env.cells.lookup x=some c→c≠it) (h3:∀ p∈X.pn++pins,p.1≠it):Inv X pins σ H { s with heap:=h',toks:=t' }:=by
 have nit:∀ b u,H b=some u→b≠it:=fun b u e z=>by rw [z,hn] at e; cases e
 refine I.step (g':=s.gens) (d':=s.drawn) (ch:=[it]) (fun b hb=>?_) (fun b o _ _ hc e _=>k b o (fun z=>hc (by simp [z])) e) (fun b o _ _ hc e _=>⟨o.slots,k b o (fun z=>hc (by simp [z])) e⟩) (fun _ _ _ _ n=>n)
  (fun b o hc e=>⟨o,k b o (fun z=>hc (by simp [z])) e⟩) (fun _ _ e=>e) (fun _ _ _ e=>e) (fun b ps e=>⟨#[],by rw [e]; simp⟩) (fun m hm=>?_) (fun b u e=>?_) I.bare
 ·have e:b=it:=by simpa using hb
  subst e
  exact ⟨h1,hL,h2,h3⟩
 ·obtain ⟨o,es,ep,ho,r⟩:=hm
  exact ⟨o,es,ep,k _ o (Ne.symm hL) ho,r⟩
 ·refine (I.hok b u e).stay (fun c v hc q=>k c v ?_ q) (fun _ q=>q) fun _ _ q=>q
  rcases hc with z | z
  ·rw [z]; exact nit b u e
  ·exact nit c _ z
theorem Inv.tok (I:Inv X pins σ H s) (t:Nat):Inv X pins σ H { s with toks:=t }:=I.un (h':=s.heap) (t':=t) Un.refl I.hok
theorem Inv.kept {t':Nat} (I:Inv X pins σ H s) (k:∀ b u,s.heap.get? b=some u→h'.get? b=some u):Inv X pins σ H { s with heap:=h',toks:=t' }:=I.un (Un.kept k) (I.hok.kept k)
theorem Inv.laid {a:Addr} {o:HO} {t':Nat} (I:Inv X pins σ H s) (k:∀ b u,s.heap.get? b=some u→h'.get? b=some u) (hp:s.heap.objs.size≤a) (new:z1n X.prog X.w (upd H a o) h' a o) :
  Inv X pins σ (upd H a o) { s with heap:=h',toks:=t' }:=I.un (Un.laid k hp (I.hok.fresh hp)) (I.hok.laid k hp new)
theorem Inv.write {x e:Addr} {o:HO} {t':Nat} (I:Inv X pins σ H s) (mu:Mut (H x)) (he:e=x∨H e=some (.own x)) (k:∀ b u,b≠e→s.heap.get? b=some u→h'.get? b=some u) (heo:∃ u,h'.get? e=some u)
  (new:z1n X.prog X.w (upd H x o) h' x o):Inv X pins σ (upd H x o) { s with heap:=h',toks:=t' }:=I.un (Un.write mu he k heo) (I.hok.write mu he k heo new)
theorem Inv.pins_of {pins':List (Addr × Obj)} (I:Inv X pins σ H s) (h:∀ p∈pins',s.heap.get? p.1=some p.2∧H p.1=none∧p.1≠X.env.locals∧p.1∉X.fs∧∀ v,p.2.data≠.cell v):Inv X pins' σ H s :=
 ⟨I.ok,I.os,I.bare,I.base,I.loc,I.cell,I.free,I.freeC,fun p hp=>(List.mem_append.mp hp).elim (fun z=>I.pin p (List.mem_append_left _ z)) (h p),I.hok,I.len⟩
theorem nodup_ix {N:List Str} (hN:N.Nodup) {i j:Nat} {x:Str} (a:N[i]?=some x) (b:N[j]?=some x):i=j:=by
 obtain ⟨h1,e1⟩:=List.getElem?_eq_some_iff.mp a
 obtain ⟨h2,e2⟩:=List.getElem?_eq_some_iff.mp b
 exact (List.getElem_inj hN).mp (e1.trans e2.symm)
theorem store_ok2 {M:Model} {A:Around} {E:Value→Shared→Prop} {i:Nat} {x:Str} {v:V} {u:Value} {Q:Unit→Shared→Prop} (I:Inv X pins σ H s) (hN:X.N.Nodup) (hi:X.N[i]?=some x) (hx:Loc X.env.scope x) (r:RelV v u)
  (h:∀ s',Inv X pins (σ.set i (some v)) H s'→(∃ a,Heap.SameBut a s.heap s'.heap∧(a=X.env.locals∨X.env.cells.lookup x=some a))→Q () s') (hf:X.fn x=true∨X.env.scope.names.lookup x=some .local:=by first | exact .inl rfl | exact .inr rfl | assumption):wpAny M A (storeName X.env x u) Q E s:=by
 obtain ⟨m,hn,hl⟩:=id I.loc
 have hcls:(X.env.scope.kind == .class || (X.env.scope.kind == .module && X.env.locals != X.env.globals))=false:=by rw [I.ok.kind]; rfl
 have hiσ:i<σ.length:=by rw [I.len]; exact (List.getElem?_eq_some_iff.mp hi).1
 have cne:=I.cne
 have tracked:∀ {a:Addr} {h':Heap},(∃ o,s.heap.get? a=some o∧H a=none)→Heap.SameBut a s.heap h'→HOk X.prog X.w H h':=fun {a h'} ha hs b ob e=>by
  obtain ⟨_,_,hfree⟩:=ha
  refine (I.hok b ob e).stay (fun c w' hc q=>(hs.2 c ?_).trans q) (fun _ q=>q) fun _ _ q=>q
  rintro rfl
  rcases hc with rfl | hc
  ·rw [hfree] at e; cases e
  ·rw [hfree] at hc; cases hc
 rcases hx with hk | hk
 ·refine wpAny_storeName_local hk hn (fun h' hn' hs=>?_) hcls
  obtain ⟨oL,_,_,hoL,_⟩:=id hn
  refine h _ ⟨I.ok,I.os,I.bare,⟨fun b o e n hb hx=>?_,fun b o e n hb hx=>?_,I.base.free,fun b o e hx=>?_,I.base.tups,I.base.frzs,I.base.tbls⟩,⟨_,hn',fun j y v' e1 e2 e3=>?_⟩,fun y c e=>?_,I.free,I.freeC,fun p hp=>?_,tracked ⟨oL,hoL,I.free⟩ hs,by simpa using I.len⟩ ⟨_,hs,.inl rfl⟩
  ·exact (hs.2 b (Nat.ne_of_lt (Nat.lt_of_lt_of_le (Heap.lt_size e) I.ok.above))).trans (I.base.keep b o e n hb hx)
  ·obtain ⟨sl,e1⟩:=I.base.slot b o e n hb hx
   exact ⟨sl,(hs.2 b (Nat.ne_of_lt (Nat.lt_of_lt_of_le (Heap.lt_size e) I.ok.above))).trans e1⟩
  ·obtain ⟨o',e1⟩:=I.base.there b o e hx
   exact ⟨o',(hs.2 b (Nat.ne_of_lt (Nat.lt_of_lt_of_le (Heap.lt_size e) I.ok.above))).trans e1⟩
  ·by_cases hj:j=i
   ·subst hj
    rw [hi] at e1; cases e1
    rw [List.getElem?_set_self hiσ] at e2
    cases e2
    exact ⟨u,r,.inl ⟨hk,by simp⟩⟩
   ·rw [List.getElem?_set_ne (Ne.symm hj)] at e2
    obtain ⟨u',r',q⟩:=hl j y v' e1 e2 e3
    refine ⟨u',r',?_⟩
    rcases q with ⟨k,e⟩ | ⟨k,c,e,z⟩
    ·refine .inl ⟨k,?_⟩
     have:y≠x:=fun e=>hj (nodup_ix hN e1 (e ▸ hi))
     simp [this,e]
    ·exact .inr ⟨k,c,e,z.sameBut hs (cne y c e)⟩
  ·obtain ⟨w',z⟩:=I.cell y c e
   exact ⟨w',z.sameBut hs (cne y c e)⟩
  ·obtain ⟨e,n,ne,nf,d⟩:=I.pin p hp
   exact ⟨(hs.2 p.1 ne).trans e,n,ne,nf,d⟩
 ·have hfn:X.fn x=true:=by
   rcases hf with z | z
   ·exact z
   ·rw [z] at hk; cases hk
  obtain ⟨c,hc⟩:=I.ok.has x (.inl hk)
  obtain ⟨w',z⟩:=I.cell x c hc
  refine wpAny_storeName_cell I.ok.kind hk hc z (fun h' hc' hs=>?_)
  obtain ⟨oc,hoc,hocd⟩:=id z
  refine h { s with heap:=h' } ⟨I.ok,I.os,I.bare,⟨fun b o e n hb hx=>?_,fun b o e n hb hx=>?_,I.base.free,fun b o e hx=>?_,I.base.tups,I.base.frzs,I.base.tbls⟩,⟨m,hn.sameBut hs (Ne.symm (cne x c hc)),fun j y v' e1 e2 e3=>?_⟩,fun y c' e=>?_,I.free,I.freeC,fun p hp=>?_,tracked ⟨oc,hoc,I.freeC x c hc⟩ hs,by simpa using I.len⟩ ⟨c,hs,.inr hc⟩
  ·exact (hs.2 b (Nat.ne_of_lt (Nat.lt_of_lt_of_le (Heap.lt_size e) (I.ok.cab x c hfn hc)))).trans (I.base.keep b o e n hb hx)
  ·obtain ⟨sl,e1⟩:=I.base.slot b o e n hb hx
   exact ⟨sl,(hs.2 b (Nat.ne_of_lt (Nat.lt_of_lt_of_le (Heap.lt_size e) (I.ok.cab x c hfn hc)))).trans e1⟩
  ·obtain ⟨o',e1⟩:=I.base.there b o e hx
   exact ⟨o',(hs.2 b (Nat.ne_of_lt (Nat.lt_of_lt_of_le (Heap.lt_size e) (I.ok.cab x c hfn hc)))).trans e1⟩
  ·by_cases hj:j=i
   ·subst hj
    rw [hi] at e1; cases e1
    rw [List.getElem?_set_self hiσ] at e2
    cases e2
    exact ⟨u,r,.inr ⟨.inl hk,c,hc,hc'⟩⟩
   ·rw [List.getElem?_set_ne (Ne.symm hj)] at e2
    obtain ⟨u',r',q⟩:=hl j y v' e1 e2 e3
    refine ⟨u',r',?_⟩
    rcases q with q | ⟨k,c',e,z'⟩
    ·exact .inl q
    ·refine .inr ⟨k,c',e,z'.sameBut hs ?_⟩
     rintro rfl
     exact hj (nodup_ix hN e1 (I.ok.inj _ _ _ e hc ▸ hi))
  ·by_cases hcc:c'=c
   ·subst hcc; exact ⟨_,hc'⟩
   ·obtain ⟨w2,z2⟩:=I.cell y c' e
    exact ⟨w2,z2.sameBut hs hcc⟩
  ·obtain ⟨e,n,ne,nf,d⟩:=I.pin p hp
   refine ⟨(hs.2 p.1 ?_).trans e,n,ne,nf,d⟩
   intro q
   rw [q,hoc] at e
   have q':oc=p.2:=Option.some.inj e
   exact d w' (by rw [← q']; exact hocd)
theorem store_ok {M:Model} {A:Around} {E:Value→Shared→Prop} {i:Nat} {x:Str} {v:V} {u:Value} {Q:Unit→Shared→Prop} (I:Inv X pins σ H s) (hN:X.N.Nodup) (hi:X.N[i]?=some x) (hx:Loc X.env.scope x) (r:RelV v u)
  (h:∀ s',Inv X pins (σ.set i (some v)) H s'→Q () s') (hf:X.fn x=true∨X.env.scope.names.lookup x=some .local:=by first | exact .inl rfl | exact .inr rfl | assumption):wpAny M A (storeName X.env x u) Q E s :=
 store_ok2 I hN hi hx r (fun s' I' _=>h s' I') hf
theorem Inv.call' {s':Shared} {ch:List Addr} (I:Inv X pins σ H s) (ho:s'.os=s.os) (u:Un (frs X.stack) ch H H' s.heap s'.heap) (hok:HOk X.prog X.w H' s'.heap) (hg:AllBare s'.gens)
  (hch:∀ b∈ch,(b∈X.ex∨X.s₀.heap.objs.size≤b)∧b≠X.env.locals∧(∀ x c,X.env.cells.lookup x=some c→c≠b)∧∀ p∈X.pn++pins,p.1≠b):Inv X pins σ H' s':=by
 obtain ⟨h',g',d',t',o'⟩:=s'
 have e:o'=s.os:=ho
 subst e
 exact I.call (g':=g') (t':=t') (d':=d') u hok hg hch
end
abbrev XK:=Value→Option Addr→Hp→Prop
abbrev St:=List (Option V)
abbrev VK:=V→Hp→Prop
abbrev TE:=St→Hp→VK→Prop
abbrev TT:=St→Hp→(Bool→Hp→Prop)→Prop
abbrev TA:=St→Hp→(List V→Hp→Prop)→Prop
structure Ends where
 nx:St→Hp→Prop
 rt:VK
 bk:St→Hp→Prop:=fun _ _=>False
 ct:St→Hp→Prop:=fun _ _=>False
abbrev TS:=Ends→St→Hp→Prop
def EP (X:Cx) (pins:List (Addr × Obj)) (σ:St) (Q:VK) (u:Value) (s':Shared):Prop:=∃ v H',Inv X pins σ H' s'∧RelV v u∧Q v H'
def TP (X:Cx) (pins:List (Addr × Obj)) (σ:St) (Q:Bool→Hp→Prop) (b:Bool) (s':Shared):Prop:=∃ H',Inv X pins σ H' s'∧Q b H'
def AP (X:Cx) (pins:List (Addr × Obj)) (σ:St) (Q:List V→Hp→Prop) (us:List Value) (s':Shared):Prop:=∃ vs H',Inv X pins σ H' s'∧Vals vs us∧Q vs H'
def SP (X:Cx) (pins:List (Addr × Obj)) (D:Ends) (f:Flow) (s':Shared):Prop :=
 match f with
 | .next=>∃ σ' H',Inv X pins σ' H' s'∧D.nx σ' H'
 | .brk=>∃ σ' H',Inv X pins σ' H' s'∧D.bk σ' H'
 | .cont=>∃ σ' H',Inv X pins σ' H' s'∧D.ct σ' H'
 | .ret u=>∃ v σ' H',Inv X pins σ' H' s'∧RelV v u∧D.rt v H'
def PE (X:Cx) (e:Expr) (t:TE):Prop :=
 ∀ (pins:List (Addr × Obj)) (s:Shared) (σ:St) (H:Hp) (Q:VK),Inv X pins σ H s→t σ H Q→wpAny (model X.prog X.w) X.A (eval e X.env) (EP X pins σ Q) X.xe s
def PT (X:Cx) (e:Expr) (t:TT):Prop :=
 ∀ (pins:List (Addr × Obj)) (s:Shared) (σ:St) (H:Hp) (Q:Bool→Hp→Prop),Inv X pins σ H s→t σ H Q→wpAny (model X.prog X.w) X.A (isTrue e X.env (eval e X.env)) (TP X pins σ Q) X.xe s
def PW (X:Cx) (e:Expr) (t:TT):Prop :=
 ∀ (whole:Sem Value) (pins:List (Addr × Obj)) (s:Shared) (σ:St) (H:Hp) (Q:Bool→Hp→Prop),Inv X pins σ H s→t σ H Q→wpAny (model X.prog X.w) X.A (isTrue e X.env whole) (TP X pins σ Q) X.xe s
theorem PW.pt {X:Cx} {e:Expr} {t:TT} (h:PW X e t):PT X e t:=h _
def PA (X:Cx) (es:List Expr) (t:TA):Prop :=
 ∀ (pos:Pos) (pins:List (Addr × Obj)) (s:Shared) (σ:St) (H:Hp) (Q:List V→Hp→Prop),Inv X pins σ H s→t σ H Q→wpAny (model X.prog X.w) X.A (spliced (backTo pos (starEach es X.env))) (AP X pins σ Q) X.xe s
def PS (X:Cx) (st:Stmt) (t:TS):Prop :=
 ∀ (pins:List (Addr × Obj)) (s:Shared) (σ:St) (H:Hp) (D:Ends),Inv X pins σ H s→t D σ H→wpAny (model X.prog X.w) X.A (exec st X.env) (SP X pins D) X.xe s
def PSs (X:Cx) (st:List Stmt) (t:TS):Prop :=
 ∀ (pins:List (Addr × Obj)) (s:Shared) (σ:St) (H:Hp) (D:Ends),Inv X pins σ H s→t D σ H→wpAny (model X.prog X.w) X.A (execs st X.env) (SP X pins D) X.xe s
theorem thn {α:Type} {t:Sem α} {Q Q':α→Shared→Prop} {M:Model} {A:Around} {E:Value→Shared→Prop} {s:Shared} (h:wpAny M A t Q E s) (hQ:∀ a s,Q a s→Q' a s):wpAny M A t Q' E s:=wpAny_mono h hQ fun _ _ x=>x
end L2
namespace L2
open PySem PySem.Spec PyProof.Rows
section
variable {X:Cx}
theorem bin {a b:Expr} {ta tb:TE} (ha:PE X a ta) (hb:PE X b tb) {pins:List (Addr × Obj)} {s:Shared} {σ:St} {H:Hp} {R:V→V→Hp→Prop} (I:Inv X pins σ H s) (h:ta σ H fun x H1=>tb σ H1 fun y H2=>R x y H2)
  {α:Type} {Q:α→Shared→Prop} {f:Value→Value→Sem α}
  (hf:∀ v u s2 x y H2,Inv X pins σ H2 s2→RelV x v→RelV y u→R x y H2→wpAny (model X.prog X.w) X.A (f v u) Q X.xe s2) :
  wpAny (model X.prog X.w) X.A (eval a X.env) (fun v s₁=>wpAny (model X.prog X.w) X.A (eval b X.env) (fun u s₂=>wpAny (model X.prog X.w) X.A (f v u) Q X.xe s₂) X.xe s₁) X.xe s:=by
 refine thn (ha pins s σ H _ I h) fun v s1 ⟨x,H1,I1,r1,q1⟩=>?_
 refine thn (hb pins s1 σ H1 _ I1 q1) fun u s2 ⟨y,H2,I2,r2,q2⟩=>?_
 exact hf v u s2 x y H2 I2 r1 r2 q2
def tVar (i:Nat):TE:=fun σ H Q=>∃ v,σ[i]?=some (some v)∧Q v H
def tC (v:V):TE:=fun _ H Q=>Q v H
theorem pe_var {i:Nat} {x:Str} {pos:Pos} (hN:X.N[i]?=some x) (hv:Vis X.env.scope x) (hd:(x == ("__debug__":Str))=false:=by decide) (hcd:(x == ("__classdict__":Str))=false:=by decide):PE X (.Name x pos) (tVar i):=by
 intro pins s σ H Q I h
 obtain ⟨v,e,h⟩:=h
 obtain ⟨m,hn,hl⟩:=I.loc
 obtain ⟨u,r,l⟩:=hl i x v hN e hv
 have fin:EP X pins σ Q u s:=⟨v,H,I,r,h⟩
 rcases l with ⟨hk,hm⟩ | ⟨hk,c,hc,hcell⟩
 ·exact wpAny_Name (wpAny_loadName_local I.ok.kind hk hn hm fin) hd
 ·rcases hk with hk | hk
  ·exact wpAny_Name (wpAny_loadName_cell I.ok.kind hk hc hcell fin) hd
  ·exact wpAny_Name (wpAny_loadName_free I.ok.kind hk hc hcell fin hcd) hd
theorem z08 {i j pos}:PE X (.Constant (.int i) j pos) (tC (.int i)):=fun _ _ _ H _ I h=>wpAny_Constant_int ⟨.int i,H,I.tok _,⟨_,rfl⟩,h⟩
theorem pe_bl {b j pos}:PE X (.Constant (.bool b) j pos) (tC (.bl b)):=fun _ _ _ H _ I h=>Constant_bool ⟨.bl b,H,I,rfl,h⟩
theorem z0a {x j pos}:PE X (.Constant (.str x) j pos) (tC (.str x)):=fun _ _ _ H _ I h=>Calls.Constant_str ⟨.str x,H,I.tok _,⟨_,rfl⟩,h⟩
def Gl (X:Cx) (x:Str):Prop:=X.env.kindOf x=some .globalImplicit
theorem ld_glob {E:Value→Shared→Prop} {pins:List (Addr × Obj)} {s:Shared} {σ:St} {H:Hp} {x:Str} {u:Value} {pos:Pos} {Q:Value→Shared→Prop} (I:Inv X pins σ H s) (hg:Gl X x) (hm:X.mg x=some u) (h:Q u s)
  (hd:(x == ("__debug__":Str))=false:=by decide):wpAny (model X.prog X.w) X.A (eval (.Name x pos) X.env) Q E s :=
 Calls.Name_function_global I.ok.kind hg (Calls.loadGlobal_global (by rw [I.ok.glob]; exact I.mod.glob.keeps I.bk) hm h) hd
theorem ld_blt {E:Value→Shared→Prop} {pins:List (Addr × Obj)} {s:Shared} {σ:St} {H:Hp} {x:Str} {u:Value} {pos:Pos} {Q:Value→Shared→Prop} (I:Inv X pins σ H s) (hg:Gl X x) (hm:X.mg x=none) (hv:bootBuiltins x=some u) (h:Q u s)
  (hn:x≠"__name__":=by decide) (hd:(x == ("__debug__":Str))=false:=by decide):wpAny (model X.prog X.w) X.A (eval (.Name x pos) X.env) Q E s:=by
 obtain ⟨mb,h1,h2⟩:=I.mod.blt
 exact Calls.Name_function_global I.ok.kind hg (Calls.loadGlobal_builtin (by rw [I.ok.glob]; exact I.mod.glob.keeps I.bk) hm (by rw [I.ok.blt]; exact h1.keeps I.bk) ((h2 x hn).trans hv) h) hd
theorem z2l {x:Str} {v:V} {u:Value} {pos:Pos} (hg:Gl X x) (hm:X.mg x=none) (hv:bootBuiltins x=some u) (r:RelV v u) (hn:x≠"__name__":=by decide) (hd:(x == ("__debug__":Str))=false:=by decide):PE X (.Name x pos) (tC v) :=
 fun _ _ _ H _ I h=>ld_blt I hg hm hv ⟨v,H,I,r,h⟩ hn hd
variable {a b:Expr} {ta tb:TE} {pos:Pos}
def PC (X:Cx) (op:CmpOp) (a b:Expr) (t:TE):Prop :=
 ∀ (pins:List (Addr × Obj)) (s:Shared) (σ:St) (H:Hp) (Q:VK),Inv X pins σ H s→t σ H Q →
  wpAny (model X.prog X.w) X.A (eval a X.env) (fun v s₁=>wpAny (model X.prog X.w) X.A (eval b X.env) (fun u s₂=>wpAny (model X.prog X.w) X.A (compareOp op v u) (EP X pins σ Q) X.xe s₂) X.xe s₁) X.xe s
def tB (t:TE):TT:=fun σ H Q=>t σ H fun x H1=>∃ c,x=.bl c∧Q c H1
theorem pt_cmp {op:CmpOp} {t:TE} (h:PC X op a b t) (h1:behindInMarks op b=false:=by first | exact nobehind _ (by decide) (by decide) | rfl):PT X (.Compare a [op] [b] pos) (tB t):=by
 intro pins s σ H Q I hw
 refine wpAny_isTrue_Compare1 (thn (h pins s σ H _ I hw) fun v s1 h1=>thn h1 fun u s2 h2=>thn h2 fun c s3 ⟨x,H1,I1,r1,q1⟩=>?_) h1
 obtain ⟨d,rfl,q⟩:=q1
 cases r1
 exact wpAny_truthy_bool ⟨H1,I1,q⟩
theorem pt_val {e:Expr} {t:TE} (h:PE X e t) (he:∀ whole,isTrue e X.env whole=(do let v ← whole; standAt e.pos; holding [v] (truthy v)):=by intro _; rfl):PT X e (tB t):=by
 intro pins s σ H Q I hw
 refine isTrue_plain (thn (h pins s σ H _ I hw) fun v s1 ⟨x,H1,I1,r1,q1⟩=>?_) (he _)
 obtain ⟨d,rfl,q⟩:=q1
 cases r1
 exact wpAny_truthy_bool ⟨H1,I1,q⟩
variable {tA tB':TT} {rest:List Expr}
def tAnd (t u:TT):TT:=fun σ H Q=>t σ H fun c H1=>if c=true then u σ H1 Q else Q false H1
def tOr (t u:TT):TT:=fun σ H Q=>t σ H fun c H1=>if c=true then Q true H1 else u σ H1 Q
def tNot (t:TT):TT:=fun σ H Q=>t σ H fun c H1=>Q (!c) H1
theorem pw_and1 (ha:PT X a tA):PW X (.BoolOp .And [a] pos) tA:=by
 intro wh pins s σ H Q I h
 refine isTrue_and (thn (ha pins s σ H Q I h) fun c s1 e=>?_)
 cases c with
 | true=>exact isTrue_and_nil e
 | false=>exact e
theorem pw_or1 (ha:PT X a tA):PW X (.BoolOp .Or [a] pos) tA:=by
 intro wh pins s σ H Q I h
 refine isTrue_or (thn (ha pins s σ H Q I h) fun c s1 e=>?_)
 cases c with
 | false=>exact isTrue_or_nil e
 | true=>exact e
theorem pw_and (ha:PT X a tA) (hb:PW X (.BoolOp .And (b::rest) pos) tB'):PW X (.BoolOp .And (a::b::rest) pos) (tAnd tA tB'):=by
 intro wh pins s σ H Q I h
 refine isTrue_and (thn (ha pins s σ H _ I h) fun c s1 ⟨H1,I1,q1⟩=>?_)
 cases c with
 | true=>exact hb wh pins s1 σ H1 Q I1 q1
 | false=>exact ⟨H1,I1,q1⟩
theorem pw_or (ha:PT X a tA) (hb:PW X (.BoolOp .Or (b::rest) pos) tB'):PW X (.BoolOp .Or (a::b::rest) pos) (tOr tA tB'):=by
 intro wh pins s σ H Q I h
 refine isTrue_or (thn (ha pins s σ H _ I h) fun c s1 ⟨H1,I1,q1⟩=>?_)
 cases c with
 | true=>exact ⟨H1,I1,q1⟩
 | false=>exact hb wh pins s1 σ H1 Q I1 q1
theorem pt_not (ha:PT X a tA):PT X (.UnaryOp .Not a pos) (tNot tA):=by
 intro pins s σ H Q I h
 exact isTrue_not (ha pins s σ H (fun c H1=>Q (!c) H1) I h)
def tAndV (ta tb:TE):TE:=fun σ H Q=>ta σ H fun x H1=>∃ c,x=.bl c∧if c=true then tb σ H1 Q else Q (.bl false) H1
def tNotV (ta:TE):TE:=fun σ H Q=>ta σ H fun x H1=>∃ c,x=.bl c∧Q (.bl (!c)) H1
theorem pe_one {op} {t:TE} (h:PE X a t):PE X (.BoolOp op [a] pos) t:=fun pins s σ H Q I hw=>BoolOp_one (h pins s σ H Q I hw)
theorem pe_and (ha:PE X a ta) (hb:PE X (.BoolOp .And (b::rest) pos) tb):PE X (.BoolOp .And (a::b::rest) pos) (tAndV ta tb):=by
 intro pins s σ H Q I h
 refine BoolOp_and (thn (ha pins s σ H _ I h) fun v s1 ⟨x,H1,I1,r1,q1⟩=>?_)
 obtain ⟨c,rfl,q1⟩:=q1
 cases r1
 refine wpAny_truthy_bool ?_
 cases c with
 | true=>exact hb pins s1 σ H1 Q I1 q1
 | false=>exact ⟨.bl false,H1,I1,rfl,q1⟩
theorem pe_not (ha:PE X a ta):PE X (.UnaryOp .Not a pos) (tNotV ta):=by
 intro pins s σ H Q I h
 refine UnaryOp_ (thn (ha pins s σ H _ I h) fun v s1 ⟨x,H1,I1,r1,q1⟩=>?_)
 obtain ⟨c,rfl,q1⟩:=q1
 cases r1
 exact not_of (wpAny_truthy_bool ⟨.bl (!c),H1,I1,rfl,q1⟩)
end
end L2
namespace L2
open PySem PySem.Spec PyProof.Rows
def SqL (K:PySem.W.Frag) (H:Hp) (a:Addr) (xs:List V):Prop :=
 Rd H a (.lst xs) ∨
  ∃ (o:Obj) (its:Array Value) (n:Nat),K.lookup a=some o∧o.cls=.type "list"∧o.dict=none∧o.data=.seq its n∧its.size≤sizeLine∧Vals xs its.toList
def SqT (K:PySem.W.Frag) (H:Hp) (a:Addr) (xs:List V):Prop :=
 Rd H a (.tup xs) ∨
  ∃ (o:Obj) (its:Array Value) (n:Nat),K.lookup a=some o∧o.cls=.type "tuple"∧o.data=.seq its n∧its.size≤sizeLine∧Vals xs its.toList
def absV:Value→Option V
 | .none=>some .non
 | .bool b=>some (.bl b)
 | .int i _=>some (.int i)
 | .str x _=>some (.str x)
 | .bytes b _=>some (.byt b)
 | .float b _=>some (.flt b)
 | .ref a=>some (.ref a)
 | .type n=>some (.ty n)
 | _=>none
theorem RelV.abs {x:V} {u:Value} (r:RelV x u):absV u=some x:=by
 cases x with
 | non=>cases r; rfl
 | bl _=>cases r; rfl
 | int _=>obtain ⟨t,rfl⟩:=r; rfl
 | str _=>obtain ⟨t,rfl⟩:=r; rfl
 | byt _=>obtain ⟨t,rfl⟩:=r; rfl
 | flt _=>obtain ⟨t,rfl⟩:=r; rfl
 | ref _=>cases r; rfl
 | ty _=>cases r; rfl
theorem RelV.inj {x y:V} {u:Value} (r:RelV x u) (q:RelV y u):x=y:=Option.some.inj (r.abs.symm.trans q.abs)
theorem Vals.inj:∀ {xs ys:List V} {us:List Value},Vals xs us→Vals ys us→xs=ys
 | _,_,_,.nil,.nil=>rfl
 | _,_,_,.cons r t,.cons r' t'=>by rw [r.inj r',Vals.inj t t']
section
variable {X:Cx} {pins:List (Addr × Obj)} {σ:St} {H:Hp} {s:Shared} {a:Addr} {xs ys:List V}
theorem SqL.of {K:PySem.W.Frag} (h:H a=some (.lst xs)):SqL K H a xs:=.inl (.inl h)
theorem SqT.of {K:PySem.W.Frag} (h:H a=some (.tup xs)):SqT K H a xs:=.inl (.inl h)
theorem Inv.list (I:Inv X pins σ H s) (h:SqL X.K H a xs):∃ its:List Value,Vals xs its∧PlainL s.heap a its.toArray∧xs.length≤sizeLine:=by
 rcases h with h | ⟨o,its,n,hk,hc,hd,hs,hz,r⟩
 ·obtain ⟨z,its,n,r,e⟩:=h.ok I.hok
  exact ⟨its,r,⟨_,n,e,rfl,rfl,rfl⟩,z⟩
 ·refine ⟨its.toList,r,⟨o,n,I.kIn a o hk,hc,hd,by simpa using hs⟩,?_⟩
  have e:=r.length
  simp only [Array.length_toList] at e
  omega
theorem Inv.tuple (I:Inv X pins σ H s) (h:SqT X.K H a xs):∃ its:List Value,Vals xs its∧IsTup s.heap a its.toArray∧xs.length≤sizeLine:=by
 rcases h with h | ⟨o,its,n,hk,hc,hs,hz,r⟩
 ·obtain ⟨z,its,r,p⟩:=h.ok I.hok
  exact ⟨its,r,p,z⟩
 ·refine ⟨its.toList,r,⟨o,I.kIn a o hk,hc,n,by simpa using hs⟩,?_⟩
  have e:=r.length
  simp only [Array.length_toList] at e
  omega
theorem Inv.list_inj (I:Inv X pins σ H s) (h:SqL X.K H a xs) (h':SqL X.K H a ys):xs=ys:=by
 obtain ⟨its,r,⟨o,n,e,_,_,d⟩,_⟩:=I.list h
 obtain ⟨its',r',⟨o',n',e',_,_,d'⟩,_⟩:=I.list h'
 rw [e] at e'; cases e'
 rw [d] at d'
 injection d' with d1 _
 have:its=its':=by simpa using congrArg Array.toList d1
 subst this
 exact r.inj r'
end
abbrev Cx.wish (X:Cx) (E:Value→Shared→Prop):Cx:={ X with xe:=E }
abbrev Cx.nox (X:Cx):Cx:=X.wish fun _ _=>False
theorem Cx.Ok.wish {X:Cx} (ok:X.Ok) (E:Value→Shared→Prop):(X.wish E).Ok :=
 ⟨ok.mod,ok.kind,ok.glob,ok.blt,ok.above,ok.inj,ok.has,ok.cab,ok.hd,ok.frames,ok.stk,ok.exf,ok.bs,ok.bsz,ok.noex,ok.exfs,ok.funs,ok.frf⟩
theorem Cx.Ok.unwish {X:Cx} {E:Value→Shared→Prop} (ok:(X.wish E).Ok):X.Ok :=
 ⟨ok.mod,ok.kind,ok.glob,ok.blt,ok.above,ok.inj,ok.has,ok.cab,ok.hd,ok.frames,ok.stk,ok.exf,ok.bs,ok.bsz,ok.noex,ok.exfs,ok.funs,ok.frf⟩
section
variable {X:Cx} {pins:List (Addr × Obj)} {σ:St} {H:Hp} {s:Shared} {E:Value→Shared→Prop}
theorem Inv.wish (I:Inv X pins σ H s) (E:Value→Shared→Prop):Inv (X.wish E) pins σ H s:=⟨I.ok.wish E,I.os,I.bare,I.base,I.loc,I.cell,I.free,I.freeC,I.pin,I.hok,I.len⟩
theorem Inv.unwish (I:Inv (X.wish E) pins σ H s):Inv X pins σ H s:=⟨I.ok.unwish,I.os,I.bare,I.base,I.loc,I.cell,I.free,I.freeC,I.pin,I.hok,I.len⟩
theorem SP.unwish {D:Ends} {f:Flow} {s':Shared} (h:SP (X.wish E) pins D f s'):SP X pins D f s':=by
 cases f with
 | next=>obtain ⟨σ',H',I,q⟩:=h; exact ⟨σ',H',I.unwish,q⟩
 | brk=>obtain ⟨σ',H',I,q⟩:=h; exact ⟨σ',H',I.unwish,q⟩
 | cont=>obtain ⟨σ',H',I,q⟩:=h; exact ⟨σ',H',I.unwish,q⟩
 | ret u=>obtain ⟨v,σ',H',I,r,q⟩:=h; exact ⟨v,σ',H',I.unwish,r,q⟩
theorem PSs.nox {st:List Stmt} {t:TS} (h:PSs X.nox st t):PSs X st t:=fun pins s σ H D I hw =>
 wpAny_mono (h pins s σ H D (I.wish _) hw) (fun _ _ q=>q.unwish) fun _ _ z=>False.elim z
end
section
variable {X:Cx} {st:Stmt} {rest:List Stmt} {t u:TS} {e:Expr} {te:TE} {pos:Pos}
def tNext:TS:=fun D σ H=>D.nx σ H
def tSeq (t u:TS):TS:=fun D σ H=>t { D with nx:=u D } σ H
theorem z0l:PSs X [] tNext:=fun _ _ σ H _ I h=>wpAny_execs_nil ⟨σ,H,I,h⟩
theorem z03 (h1:PS X st t) (h2:PSs X rest u):PSs X (st::rest) (tSeq t u):=by
 intro pins s σ H D I h
 refine wpAny_execs_cons (thn (h1 pins s σ H { D with nx:=u D } I h) fun f s1 q=>?_)
 cases f with
 | next =>
  obtain ⟨σ',H',I',q⟩:=q
  exact h2 pins s1 σ' H' D I' q
 | ret v=>exact q
 | brk=>exact q
 | cont=>exact q
theorem z04 (h1:PS X st t):PSs X [st] t:=by
 intro pins s σ H D I h
 refine wpAny_execs_cons (thn (h1 pins s σ H D I h) fun f s1 q=>?_)
 cases f with
 | next=>exact wpAny_execs_nil q
 | ret v=>exact q
 | brk=>exact q
 | cont=>exact q
theorem Inv.quiet {pins:List (Addr × Obj)} {σ:St} {H:Hp} {s:Shared} (I:Inv X pins σ H s):interactive X.env=false:=by simp [interactive,I.ok.kind]
def tDrop (te:TE):TS:=fun D σ H=>te σ H fun _ H1=>D.nx σ H1
theorem z0d (he:PE X e te) (hs:swapsWith e none pos.line X.env=pure false:=by rfl):PS X (.Expr e pos) (tDrop te):=by
 intro pins s σ H D I h
 exact wpAny_Expr_any (thn (he pins s σ H _ I h) fun v s1 ⟨x,H1,I1,r1,q1⟩=>⟨σ,H1,I1,q1⟩) I.quiet hs
def tRet (te:TE):TS:=fun D σ H=>te σ H D.rt
theorem z0q (he:PE X e te):PS X (.Return (some e) pos) (tRet te):=by
 intro pins s σ H D I h
 exact wpAny_Return_some (thn (he pins s σ H _ I h) fun v s1 ⟨x,H1,I1,r1,q1⟩=>⟨x,σ,H1,I1,r1,q1⟩)
def tIfS (c:TT) (t u:TS):TS:=fun D σ H=>c σ H fun b H1=>if b=true then t D σ H1 else u D σ H1
theorem z0u {c:Expr} {a b:List Stmt} {tc:TT} (hc:PT X c tc) (ha:PSs X a t) (hb:PSs X b u):PS X (.If c a b pos) (tIfS tc t u):=by
 intro pins s σ H D I h
 refine wpAny_If (thn (hc pins s σ H _ I h) fun d s1 ⟨H1,I1,q1⟩=>?_)
 cases d with
 | true=>exact ha pins s1 σ H1 D I1 q1
 | false=>exact hb pins s1 σ H1 D I1 q1
end
abbrev TG:=V→St→Hp→(St→Hp→Prop)→Prop
abbrev TGs:=List V→St→Hp→(St→Hp→Prop)→Prop
def PG (X:Cx) (target:Expr) (t:TG):Prop :=
 ∀ (pins:List (Addr × Obj)) (s:Shared) (σ:St) (H:Hp) (v:V) (u:Value) (Q:St→Hp→Prop),Inv X pins σ H s→RelV v u→t v σ H Q →
  wpAny (model X.prog X.w) X.A (assign target X.env u) (fun _ s'=>∃ σ' H',Inv X pins σ' H' s'∧Q σ' H') X.xe s
def PGs (X:Cx) (ts:List Expr) (t:TGs):Prop :=
 ∀ (pins:List (Addr × Obj)) (s:Shared) (σ:St) (H:Hp) (vs:List V) (us:List Value) (Q:St→Hp→Prop),Inv X pins σ H s→Vals vs us→t vs σ H Q →
  wpAny (model X.prog X.w) X.A (assignInOrder ((assignEach ts X.env).map (·.2)) us) (fun _ s'=>∃ σ' H',Inv X pins σ' H' s'∧Q σ' H') X.xe s
abbrev TSet:=V→V→V→Hp→(Hp→Prop)→Prop
def PSet (X:Cx) (t:TSet):Prop :=
 ∀ (pins:List (Addr × Obj)) (s:Shared) (σ:St) (H:Hp) (o i v:V) (ov iv u:Value) (Q:Hp→Prop),Inv X pins σ H s→RelV o ov→RelV i iv→RelV v u→t o i v H Q →
  wpAny (model X.prog X.w) X.A (setItem ov iv u) (fun _ s'=>∃ H',Inv X pins σ H' s'∧Q H') X.xe s
section
variable {X:Cx} {pos:Pos}
def gName (i:Nat):TG:=fun v σ H Q=>Q (σ.set i (some v)) H
theorem z1e {i:Nat} {x:Str} (hN:X.N.Nodup) (hi:X.N[i]?=some x) (hx:Loc X.env.scope x) (hf:X.fn x=true∨X.env.scope.names.lookup x=some .local:=by first | exact .inl rfl | exact .inr rfl | assumption):PG X (.Name x pos) (gName i):=by
 intro pins s σ H v u Q I r h
 exact wpAny_assign_Name (store_ok I hN hi hx r (fun s' I'=>⟨_,H,I',h⟩) hf)
def gNil:TGs:=fun vs σ H Q=>vs=[]∧Q σ H
def gCons (t:TG) (u:TGs):TGs:=fun vs σ H Q=>∃ v r,vs=v::r∧t v σ H fun σ' H'=>u r σ' H' Q
theorem pgs_nil:PGs X [] gNil:=by
 intro pins s σ H vs us Q I r h
 obtain ⟨e,h⟩:=h
 subst e
 cases r
 exact assignInOrder_nil ⟨σ,H,I,h⟩
theorem z2o {e:Expr} {es:List Expr} {t:TG} {u:TGs} (h1:PG X e t) (h2:PGs X es u)
  (hs:(assignEach (e::es) X.env).map (·.2)=assign e X.env::(assignEach es X.env).map (·.2):=by rfl):PGs X (e::es) (gCons t u):=by
 intro pins s σ H vs us Q I r h
 obtain ⟨v,vr,e1,h⟩:=h
 subst e1
 cases r with
 | cons r rr =>
  rw [hs]
  refine assignInOrder_cons (thn (h1 pins s σ H _ _ _ I r h) fun _ s1 ⟨σ1,H1,I1,q1⟩=>?_)
  exact h2 pins s1 σ1 H1 _ _ Q I1 rr q1
def gTup (K:PySem.W.Frag) (n:Nat) (t:TGs):TG:=fun v σ H Q=>∃ a xs,v=.ref a∧SqT K H a xs∧xs.length=n∧t xs σ H Q
theorem pg_tup {es:List Expr} {k:Nat} {t:TGs} {n:Nat} (hc:X.calm=true) (h:PGs X es t)
  (hn:(assignEach es X.env).length=n:=by rfl) (hst:(assignEach es X.env).findIdx? (·.1)=none:=by rfl):PG X (.Tuple es k pos) (gTup X.K n t):=by
 intro pins s σ H v u Q I r hw
 obtain ⟨a,xs,e1,hq,hl,hw⟩:=hw
 subst e1
 cases r
 obtain ⟨its,rv,ht,hz⟩:=I.tuple hq
 refine assign_Tuple_tuple (I.ok.hd hc) ht (by simp [hn,← hl,rv.length]) hst fun h' hx=>?_
 have I1:Inv X pins σ H { s with heap:=h' }:=I.kept (t':=s.toks) fun b o e=>hx b o (Nat.ne_of_lt (Heap.lt_size e)) e
 exact h pins _ σ H xs _ Q I1 (by simpa using rv) hw
def gSub (to ti:TE) (t:TSet):TG:=fun v σ H Q=>to σ H fun o H1=>ti σ H1 fun i H2=>t o i v H2 fun H3=>Q σ H3
theorem pg_sub {o i:Expr} {to ti:TE} {t:TSet} (ho:PE X o to) (hi:PE X i ti) (hs:PSet X t)
  (ha:∀ v,assign (.Subscript o i pos) X.env v=(do
   let ov ← holding [v] (eval o X.env)
   let iv ← holding [v,ov] (eval i X.env)
   standAt pos
   holding [v,ov,iv] (setItem ov iv v)
   release [v,ov,iv] []):=by intro _; rfl):PG X (.Subscript o i pos) (gSub to ti t):=by
 intro pins s σ H v u Q I r h
 rw [ha]
 refine wpAny_bind (wpAny_holding (thn (ho pins s σ H _ I h) fun ov s1 ⟨x,H1,I1,r1,q1⟩=>?_))
 refine wpAny_bind (wpAny_holding (thn (hi pins s1 σ H1 _ I1 q1) fun iv s2 ⟨y,H2,I2,r2,q2⟩=>?_))
 refine wpAny_bind (wpAny_standAt (wpAny_bind (wpAny_holding (thn (hs pins s2 σ H2 x y v ov iv u _ I2 r1 r2 r q2) fun _ s3 ⟨H3,I3,q3⟩=>?_))))
 exact wpAny_release ⟨σ,H3,I3,q3⟩
def tAsg (te:TE) (g:TG):TS:=fun D σ H=>te σ H fun x H1=>g x σ H1 D.nx
theorem ps_asg {tg e:Expr} {te:TE} {g:TG} (he:PE X e te) (hg:PG X tg g) (hs:swapsWithSole [tg] e pos.line X.env=pure false:=by rfl) (hw:swappedStores [tg] e X.env=pure none:=by rfl)
  (h1:(assignEach [tg] X.env).map (·.2)=[assign tg X.env]:=by rfl):PS X (.Assign [tg] e pos) (tAsg te g):=by
 intro pins s σ H D I h
 refine wpAny_Assign_stores (thn (he pins s σ H _ I h) fun v s1 ⟨x,H1,I1,r1,q1⟩=>?_) hs hw
 rw [h1]
 exact thn (hg pins s1 σ H1 x v _ I1 r1 q1) fun _ s2 q=>q
theorem z0n {i:Nat} {x:Str} {e:Expr} {te:TE} {pos':Pos} (hN:X.N.Nodup) (hi:X.N[i]?=some x) (hx:Loc X.env.scope x) (he:PE X e te) (hs:swapsWith e (some (.Name x pos')) pos.line X.env=pure false:=by rfl) (hf:X.fn x=true∨X.env.scope.names.lookup x=some .local:=by first | exact .inl rfl | exact .inr rfl | assumption) :
  PS X (.Assign [.Name x pos'] e pos) (tAsg te (gName i)):=by
 intro pins s σ H D I h
 refine wpAny_Assign_Name (thn (he pins s σ H _ I h) fun v s1 ⟨y,H1,I1,r1,q1⟩=>?_) hs
 exact store_ok I1 hN hi hx r1 (fun s2 I2=>⟨_,H1,I2,q1⟩) hf
end
section
variable {X:Cx} {pos:Pos}
def tWhile (c:TT) (tb:TS):TS:=fun D σ H=>∃ W:Nat→St→Hp→Prop,(∃ m,W m σ H)∧∀ m σ H,W m σ H →
 c σ H fun b H1=>if b=true then ∃ N:St→Hp→Prop,(∀ σ' H',N σ' H'→∃ m',m'<m∧W m' σ' H')∧tb { D with nx:=N,ct:=N,bk:=D.nx } σ H1 else D.nx σ H1
theorem ps_while {c:Expr} {body:List Stmt} {tc:TT} {tb:TS} (hp:PassesOwn (model X.prog X.w) X.A X.env X.xe) (hc:PT X c tc) (hb:PSs X body tb):PS X (.While c body [] pos) (tWhile tc tb):=by
 intro pins s σ H D I h
 obtain ⟨W,⟨m0,w0⟩,turn⟩:=h
 refine wpAny_While (codeAny_whileLoop (fun n s'=>∃ σ' H',Inv X pins σ' H' s'∧W n σ' H') ?_ m0 ⟨σ,H,I,w0⟩)
 rintro n s1 ⟨σ1,H1,I1,w1⟩
 refine wpAny_passesOwn hp (thn (hc pins s1 σ1 H1 _ I1 (turn n σ1 H1 w1)) fun b s2 ⟨H2,I2,q2⟩=>?_)
 cases b with
 | true =>
  obtain ⟨N,hN,q2⟩:=q2
  rw [if_pos rfl]
  refine wpAny_passesOwn hp (thn (hb pins s2 σ1 H2 _ I2 q2) fun f s3 q3=>?_)
  cases f with
  | next =>
   obtain ⟨σ3,H3,I3,n3⟩:=q3
   obtain ⟨m',hm,w3⟩:=hN σ3 H3 n3
   exact ⟨m',hm,σ3,H3,I3,w3⟩
  | cont =>
   obtain ⟨σ3,H3,I3,n3⟩:=q3
   obtain ⟨m',hm,w3⟩:=hN σ3 H3 n3
   exact ⟨m',hm,σ3,H3,I3,w3⟩
  | brk=>exact q3
  | ret v=>exact q3
 | false =>
  rw [if_neg Bool.false_ne_true]
  exact wpAny_execs_nil ⟨σ1,H2,I2,q2⟩
end
structure It where
 go:Nat→Hp→Prop
 yld:Nat→Hp→V→Hp→Prop
 stop:Nat→Hp→Prop
def FpOk (X:Cx) (pins:List (Addr × Obj)) (H:Hp) (b:Addr):Prop :=
 H b=none∧b≠X.env.locals∧b∉X.fs∧(b∈X.ex∨X.s₀.heap.objs.size≤b)∧(∀ x c,X.env.cells.lookup x=some c→c≠b)∧∀ p∈X.pn++pins,p.1≠b
theorem Inv.fpOk {X:Cx} {pins:List (Addr × Obj)} {σ:St} {H H':Hp} {s:Shared} {b:Addr} (I:Inv X pins σ H s) (hb:s.heap.objs.size≤b) (hn:H' b=none):FpOk X pins H' b:=by
 refine ⟨hn,Nat.ne_of_gt (Nat.lt_of_lt_of_le I.lt hb),I.nofs hb,.inr (Nat.le_trans I.sz hb),fun x c e z=>?_,fun p hp z=>?_⟩
 ·obtain ⟨v,q⟩:=I.cell x c e
  exact absurd (Nat.lt_of_lt_of_le q.lt (by rw [z]; exact hb)) (Nat.lt_irrefl _)
 ·exact absurd (Nat.lt_of_lt_of_le (Heap.lt_size (I.pin p hp).1) (by rw [z]; exact hb)) (Nat.lt_irrefl _)
structure Turn (P:Program) (w:World) (K:PySem.W.Frag) (tg:Expr) (J:It) (fp:List Addr) (it:Addr) (tn:Nat→Heap→Prop):Prop where
 mem:it∈fp
 obj:∀ i h,tn i h→∀ b∈fp,∃ o,h.get? b=some o∧∀ v,o.data≠.cell v
 keep:∀ i h h',tn i h→(∀ b∈fp,∀ o,h.get? b=some o→h'.get? b=some o)→tn i h'
 item:∀ (X:Cx),X.prog=P→X.w=w→X.K=K→X.calm=true→∀ (i:Nat) (pins:List (Addr × Obj)) (s:Shared) (σ:St) (H:Hp) (E:Value→Shared→Prop),Inv X pins σ H s→(∀ b∈fp,FpOk X pins H b)→tn i s.heap→J.go i H →
  wpAny (model P w) X.A (pyNext (.ref it)) (fun r s1=>∃ u,r=some u ∧
   wpAny (model P w) X.A (letOwnedTupleGo tg (.ref it) u) (fun _ s2=>∃ x H',Inv X pins σ H' s2∧RelV x u∧J.yld i H x H'∧tn (i+1) s2.heap∧∀ b∈fp,H' b=none) E s1) E s
 done:∀ (X:Cx),X.prog=P→X.w=w→X.K=K→X.calm=true→∀ (i:Nat) (pins:List (Addr × Obj)) (s:Shared) (σ:St) (H:Hp) (E:Value→Shared→Prop),Inv X pins σ H s→(∀ b∈fp,FpOk X pins H b)→tn i s.heap→J.stop i H →
  wpAny (model P w) X.A (pyNext (.ref it)) (fun r s1=>r=none∧Inv X pins σ H s1) E s
 self:∀ (A:Around) (i:Nat) (s:Shared) (Q:Value→Shared→Prop) (E:Value→Shared→Prop),tn i s.heap→Q (.ref it) s→wpAny (model P w) A (pyIter (.ref it)) Q E s
abbrev TI:=St→Hp→(It→Hp→Prop)→Prop
def PIE (X:Cx) (pins:List (Addr × Obj)) (σ:St) (tg:Expr) (R:It→Hp→Prop) (itv:Value) (s2:Shared):Prop :=
 ∃ (it:Addr) (fp:List Addr) (tn:Nat→Heap→Prop) (J:It) (H':Hp),itv=.ref it∧Inv X pins σ H' s2∧Turn X.prog X.w X.K tg J fp it tn∧tn 0 s2.heap∧(∀ b∈fp,FpOk X pins H' b)∧R J H'
def PI (X:Cx) (tg iter:Expr) (wi:TI):Prop :=
 ∀ (pins:List (Addr × Obj)) (s:Shared) (σ:St) (H:Hp) (R:It→Hp→Prop),Inv X pins σ H s→wi σ H R →
  wpAny (model X.prog X.w) X.A (eval iter X.env) (fun v s1=>wpAny (model X.prog X.w) X.A (pyIter v) (PIE X pins σ tg R) X.xe s1) X.xe s
theorem go_of {M:Model} {A:Around} {E:Value→Shared→Prop} {s:Shared} {tg:Expr} {it:Addr} {u:Value} {o:Obj} {n:String} {vs:Array Value} {Q:Unit→Shared→Prop} (ho:s.heap.get? it=some o) (hc:o.cls=.type n) (hd:o.data=.fields vs)
  (hn:["enumerate","zip","dict_itemiterator","dict_reverseitemiterator","odict_iterator","itertools.zip_longest","itertools.pairwise"].contains n=false) (hQ:Q () s):wpAny M A (letOwnedTupleGo tg (.ref it) u) Q E s:=by
 unfold letOwnedTupleGo
 cases tg <;> first
  | exact wpAny_pure hQ
  | (cases u <;> first
    | exact wpAny_pure hQ
    | (refine wpAny_bind (wpAny_load ho ?_); rw [hc,hd]; show wpAny M A (if (["enumerate","zip","dict_itemiterator","dict_reverseitemiterator","odict_iterator","itertools.zip_longest","itertools.pairwise"].contains n && vs[0]? == some (rawInt _))=true then _ else _) Q E s; rw [if_neg (by intro h; rw [hn,Bool.false_and] at h; cases h)]; exact wpAny_pure hQ))
def Itl (K:PySem.W.Frag) (a:Addr):It :=
 ⟨fun i H=>∃ xs x,SqL K H a xs∧xs[i]?=some x,fun i H x H'=>H'=H∧∀ xs,SqL K H a xs→xs[i]?=some x,fun i H=>∃ xs,SqL K H a xs∧xs.length≤i⟩
def Itr (lo:Int) (n:Nat):It:=⟨fun i _=>i<n,fun i H x H'=>H'=H∧x=.int (lo+i),fun i _=>n≤i⟩
theorem turn_list {P:Program} {w:World} {K:PySem.W.Frag} {tg:Expr} (a it:Addr):Turn P w K tg (Itl K a) [it] it (fun i h=>h.IsListIter it a i) where
 mem:=by simp
 obj:=fun i h st b hb=>by
  have e:b=it:=by simpa using hb
  subst e
  obtain ⟨o,e,c,d⟩:=st
  exact ⟨o,e,fun v z=>by rw [d] at z; cases z⟩
 keep:=fun i h h' st k=>st.at fun o e=>k it (by simp) o e
 item:=by
  intro X hP hw hK hc i pins s σ H E I hf st hg
  subst hP hw hK
  obtain ⟨xs,x,hq,hx⟩:=hg
  obtain ⟨its,rv,p,hz⟩:=I.list hq
  obtain ⟨u,hu,ru⟩:=rv.get hx
  obtain ⟨f0,f1,f2,f3,f4,f5⟩:=hf it (by simp)
  refine wpAny_pyNext_list_item st p.isList (x:=u) (by simpa using hu) fun h' st' sb=>?_
  have I1:Inv X pins σ H { s with heap:=h' }:=I.turned (t':=s.toks) (fun b o hb e=>(sb.2 b hb).trans e) f0 f1 f3 f4 f5
  obtain ⟨o,e,c,d⟩:=id st'
  exact ⟨u,rfl,go_of (s:={ s with heap:=h' }) e c d (by decide) ⟨x,H,I1,ru,⟨rfl,fun ys hy=>by rw [I.list_inj hy hq]; exact hx⟩,st',fun b hb=>(hf b hb).1⟩⟩
 done:=by
  intro X hP hw hK hc i pins s σ H E I hf st hg
  subst hP hw hK
  obtain ⟨xs,hq,hx⟩:=hg
  obtain ⟨its,rv,p,hz⟩:=I.list hq
  obtain ⟨f0,f1,f2,f3,f4,f5⟩:=hf it (by simp)
  have hl:=rv.length
  exact wpAny_pyNext_list_end (I.ok.hd hc) st p.isList (by simp; omega) fun h' eb=>⟨rfl,I.turned (t':=s.toks) (fun b o hb e=>eb b o hb e) f0 f1 f3 f4 f5⟩
 self:=fun _ _ _ _ _ st h=>wpAny_pyIter_listiter st h
theorem turn_range {P:Program} {w:World} {K:PySem.W.Frag} {tg:Expr} (it:Addr) (lo:Int) (n:Nat):Turn P w K tg (Itr lo n) [it] it (fun i h=>IsRangeIter h it (lo+(i:Nat) * 1) ((n:Int) - (i:Nat)) 1) where
 mem:=by simp
 obj:=fun i h st b hb=>by
  have e:b=it:=by simpa using hb
  subst e
  exact ⟨_,st,fun v z=>by
   have z':Data.fields _=Data.cell v:=z
   cases z'⟩
 keep:=fun i h h' st k=>k it (by simp) _ st
 item:=by
  intro X hP hw hK hc i pins s σ H E I hf st hg
  subst hP hw hK
  obtain ⟨f0,f1,f2,f3,f4,f5⟩:=hf it (by simp)
  have W:=Walks.range (prog:=X.prog) (w:=X.w) (I.ok.hd hc) it lo 1 n
  refine W.item i s _ _ hg st fun v h' tk hv st' kk=>?_
  obtain ⟨t,rfl⟩:=hv
  have I1:Inv X pins σ H { s with heap:=h',toks:=tk }:=I.turned (fun b o hb e=>kk b o (by simpa using hb) e) f0 f1 f3 f4 f5
  refine ⟨_,rfl,go_of (s:={ s with heap:=h',toks:=tk }) (n:="range_iterator") st' rfl rfl (by decide) ⟨.int (lo+i),H,I1,⟨t,?_⟩,⟨rfl,rfl⟩,st',fun b hb=>(hf b hb).1⟩⟩
  rw [Int.mul_one]
 done:=by
  intro X hP hw hK hc i pins s σ H E I hf st hg
  subst hP hw hK
  obtain ⟨f0,f1,f2,f3,f4,f5⟩:=hf it (by simp)
  exact wpAny_pyNext_range_end (I.ok.hd hc) st (by have:n≤i:=hg; omega) fun h' eb=>⟨rfl,I.turned (t':=s.toks) (fun b o hb e=>eb b o hb e) f0 f1 f3 f4 f5⟩
 self:=fun _ _ _ _ _ st h=>wpAny_pyIter_rangeiter st h
end L2
namespace L2
open PySem PySem.Spec PyProof.Rows
section
variable {X:Cx} {tg:Expr}
def iList (K:PySem.W.Frag) (tl:TE):TI:=fun σ H R=>tl σ H fun x H1=>∃ a,x=.ref a∧(∃ xs,SqL K H1 a xs)∧R (Itl K a) H1
theorem z36 {l:Expr} {tl:TE} (hl:PE X l tl):PI X tg l (iList X.K tl):=by
 intro pins s σ H R I h
 refine thn (hl pins s σ H _ I h) fun v s1 ⟨x,H1,I1,r1,q1⟩=>?_
 obtain ⟨a,e,⟨xs,hq⟩,q⟩:=q1
 subst e
 cases r1
 obtain ⟨its,rv,p,hz⟩:=I1.list hq
 refine wpAny_pyIter_list p.isList ?_
 refine ⟨s1.heap.objs.size,[s1.heap.objs.size],_,_,H1,rfl,I1.kept (t':=s1.toks) fun b o e=>Heap.get?_push_of_some _ e,turn_list a _,⟨_,Heap.get?_push_size _ rfl,rfl,rfl⟩,fun b hb=>?_,q⟩
 have e:b=s1.heap.objs.size:=by simpa using hb
 subst e
 exact I1.fpOk (Nat.le_refl _) (I1.hok.fresh (Nat.le_refl _))
theorem range_it {pins:List (Addr × Obj)} {σ:St} {H:Hp} {s:Shared} {R:It→Hp→Prop} {E:Value→Shared→Prop} {lo hi:Int} {t u v:Tok} {tk:Nat} (I:Inv X pins σ H s) (h1 : -(2 ^ 62)≤lo) (h2:lo<2 ^ 62) (h3 : -(2 ^ 62)≤hi) (h4:hi<2 ^ 62)
  (q:R (Itr lo (hi - lo).toNat) H):wpAny (model X.prog X.w) X.A (pyIter (.ref s.heap.objs.size)) (PIE X pins σ tg R) E { s with heap:=s.heap.push { cls:=.type "range",data:=.fields #[.int lo t,.int hi u,.int 1 v] },toks:=tk }:=by
 refine wpAny_pyIter_range (IsRange.new ..) (small_one h1 h2 h3 h4) ?_
 have I1:Inv X pins σ H { s with heap:=s.heap.push { cls:=.type "range",data:=.fields #[.int lo t,.int hi u,.int 1 v] },toks:=tk }:=I.kept fun b o e=>Heap.get?_push_of_some _ e
 refine ⟨(s.heap.push { cls:=.type "range",data:=.fields #[.int lo t,.int hi u,.int 1 v] }).objs.size,[(s.heap.push { cls:=.type "range",data:=.fields #[.int lo t,.int hi u,.int 1 v] }).objs.size],_,_,H,rfl,
  I1.kept (t':=tk) fun b o e=>Heap.get?_push_of_some _ e,turn_range _ lo (hi - lo).toNat,?_,fun b hb=>?_,q⟩
 ·have e1:lo+((0:Nat):Int) * 1=lo:=by simp
  have e2:(((hi - lo).toNat:Nat):Int) - ((0:Nat):Int)=Builtin.Range.rangeSize lo hi 1:=by rw [rangeSize_one]; split <;> omega
  show IsRangeIter _ _ (lo+((0:Nat):Int) * 1) ((((hi - lo).toNat:Nat):Int) - ((0:Nat):Int)) 1
  rw [e1,e2]
  exact Heap.get?_push_size _ rfl
 ·have e:b=(s.heap.push { cls:=.type "range",data:=.fields #[.int lo t,.int hi u,.int 1 v] }).objs.size:=by simpa using hb
  subst e
  exact I1.fpOk (Nat.le_refl _) (I1.hok.fresh (Nat.le_refl _))
def iRng1 (ta:TA):TI:=fun σ H R=>ta σ H fun vs H1=>∃ j:Int,vs=[.int j] ∧ -(2 ^ 62)≤j∧j<2 ^ 62∧R (Itr 0 j.toNat) H1
theorem pi_range1 {a:Expr} {ta:TA} {p pos:Pos} (hg:Gl X "range") (hm:X.mg "range"=none) (ha:PA X [a] ta) (hs:starEach [a] X.env=[(false,eval a X.env)]:=by rfl):PI X tg (.Call (.Name "range" p) [a] [] pos) (iRng1 ta):=by
 intro pins s σ H R I h
 refine Call_ (ld_blt I hg hm boot_range (PyProof.Rows.callWith_type1 (thn (ha pos pins s σ H _ I h) fun us s1 ⟨vs,H1,I1,r1,q1⟩=>?_) hs rfl))
 obtain ⟨j,e,q1,q2,q⟩:=q1
 subst e
 cases r1 with
 | cons r rr =>
  cases rr
  obtain ⟨t,rfl⟩:=r
  exact call_range_1 (range_it I1 (by omega) (by omega) q1 q2 (by simpa using q))
def tFor (wi:TI) (g:TG) (tb:TS):TS:=fun D σ H=>wi σ H fun J H1=>∃ W:Nat→Nat→St→Hp→Prop,(∃ m,W 0 m σ H1)∧∀ i m σ H,W i m σ H →
 (J.stop i H∧D.nx σ H)∨(J.go i H∧∃ N:St→Hp→Prop,(∀ σ' H',N σ' H'→∃ m',m'<m∧W (i+1) m' σ' H')∧∀ x H',J.yld i H x H'→g x σ H' fun σ2 H2=>tb { D with nx:=N,ct:=N,bk:=D.nx } σ2 H2)
def pinsAt (fp:List Addr) (h:Heap):List (Addr × Obj):=fp.filterMap fun b=>(h.get? b).map fun o=>(b,o)
theorem z2i {fp:List Addr} {h:Heap} {b:Addr} {o:Obj} (hb:b∈fp) (e:h.get? b=some o):(b,o)∈pinsAt fp h:=List.mem_filterMap.mpr ⟨b,hb,by rw [e]; rfl⟩
theorem of_pinsAt {fp:List Addr} {h:Heap} {p:Addr × Obj} (hp:p∈pinsAt fp h):p.1∈fp∧h.get? p.1=some p.2:=by
 obtain ⟨b,hb,e⟩:=List.mem_filterMap.mp hp
 cases q:h.get? b with
 | none=>rw [q] at e; cases e
 | some o =>
  rw [q] at e
  have e':(b,o)=p:=Option.some.inj e
  subst e'
  exact ⟨hb,q⟩
theorem Inv.pinned {pins:List (Addr × Obj)} {σ:St} {H:Hp} {s:Shared} {fp:List Addr} (I:Inv X pins σ H s) (hf:∀ b∈fp,FpOk X pins H b) (ho:∀ b∈fp,∃ o,s.heap.get? b=some o∧∀ v,o.data≠.cell v):Inv X (pins++pinsAt fp s.heap) σ H s :=
 I.pins_of fun p hp=>(List.mem_append.mp hp).elim (fun z=>I.pin p (List.mem_append_right _ z)) fun z=>by
  obtain ⟨hb,e⟩:=of_pinsAt z
  obtain ⟨f0,f1,f2,_⟩:=hf p.1 hb
  obtain ⟨o,e',d⟩:=ho p.1 hb
  rw [e] at e'; cases e'
  exact ⟨e,f0,f1,f2,d⟩
theorem Inv.unpinned {pins pl:List (Addr × Obj)} {σ:St} {H:Hp} {s:Shared} (I:Inv X (pins++pl) σ H s):Inv X pins σ H s:=I.pins_of fun p hp=>I.pin p (List.mem_append_right _ (List.mem_append_left _ hp))
theorem z2v {iter:Expr} {body:List Stmt} {wi:TI} {g:TG} {tb:TS} {pos:Pos} (hp:PassesOwn (model X.prog X.w) X.A X.env X.xe) (hc:X.calm=true) (hi:PI X tg iter wi) (hg:PG X tg g) (hb:PSs X body tb)
  (hs:∀ x,foldedSetIterable iter X.env x=pure x:=by intro _; rfl):PS X (.For tg iter body [] pos) (tFor wi g tb):=by
 intro pins s σ H D I h
 refine wpAny_For (thn (hi pins s σ H _ I h) fun v s1 h1=>thn h1 fun itv s2 h2=>?_) hs
 obtain ⟨it,fp,tn,J,H2,e,I2,T,st2,f2,W,⟨m0,w0⟩,turn⟩:=h2
 subst e
 have stat:∀ {H':Hp},(∀ b∈fp,H' b=none)→∀ b∈fp,FpOk X pins H' b:=fun hn b hb=>⟨hn b hb,(f2 b hb).2⟩
 refine codeAny_forLoop_any (fun n s'=>∃ i σ' H',Inv X pins σ' H' s'∧tn i s'.heap∧(∀ b∈fp,H' b=none)∧W i n σ' H') ?_ m0 ⟨0,σ,H2,I2,st2,fun b hb=>(f2 b hb).1,w0⟩
 rintro n s3 ⟨i,σ3,H3,I3,st3,fr3,w3⟩
 rcases turn i n σ3 H3 w3 with ⟨stop,qn⟩ | ⟨go,N,hN,step⟩
 ·refine wpAny_passesOwn hp (thn (T.done X rfl rfl rfl hc i pins s3 σ3 H3 X.xe I3 (stat fr3) st3 stop) fun r s4 ⟨hr,I4⟩=>?_)
  subst hr
  exact wpAny_execs_nil ⟨σ3,H3,I4,qn⟩
 ·refine wpAny_passesOwn hp (thn (T.item X rfl rfl rfl hc i pins s3 σ3 H3 X.xe I3 (stat fr3) st3 go) fun r s4 ⟨u,hr,h4⟩=>?_)
  subst hr
  refine wpAny_passesOwn hp (thn h4 fun _ s5 ⟨x,H5,I5,r5,y5,st5,fr5⟩=>?_)
  have I5':=I5.pinned (stat fr5) (T.obj _ _ st5)
  refine wpAny_passesOwn hp (thn (hg _ s5 σ3 H5 x u _ I5' r5 (step x H5 y5)) fun _ s6 ⟨σ6,H6,I6,q6⟩=>?_)
  refine wpAny_passesOwn hp (thn (hb _ s6 σ6 H6 _ I6 q6) fun f s7 q7=>?_)
  have again:∀ {σ7:St} {H7:Hp},Inv X (pins++pinsAt fp s5.heap) σ7 H7 s7→N σ7 H7→∃ m,m<n∧∃ i σ' H',Inv X pins σ' H' s7∧tn i s7.heap∧(∀ b∈fp,H' b=none)∧W i m σ' H':=fun {σ7 H7} I7 n7=>by
   obtain ⟨m',hm,w7⟩:=hN σ7 H7 n7
   refine ⟨m',hm,i+1,σ7,H7,I7.unpinned,T.keep _ _ _ st5 fun b hb o e=>(I7.pin (b,o) (List.mem_append_right _ (List.mem_append_right _ (z2i hb e)))).1,fun b hb=>?_,w7⟩
   obtain ⟨o,e,d⟩:=T.obj _ _ st5 b hb
   exact (I7.pin (b,o) (List.mem_append_right _ (List.mem_append_right _ (z2i hb e)))).2.1
  cases f with
  | next=>obtain ⟨σ7,H7,I7,n7⟩:=q7; exact again I7 n7
  | cont=>obtain ⟨σ7,H7,I7,n7⟩:=q7; exact again I7 n7
  | brk=>obtain ⟨σ7,H7,I7,q7⟩:=q7; exact ⟨σ7,H7,I7.unpinned,q7⟩
  | ret v=>obtain ⟨x7,σ7,H7,I7,r7,q7⟩:=q7; exact ⟨x7,σ7,H7,I7.unpinned,r7,q7⟩
end
theorem for_list {K:PySem.W.Frag} {a:Addr} {xs:List V} {g:TG} {tb:TS} {D:Ends} {σ:St} {H:Hp} (Pv:Nat→St→Hp→Prop) (h0:Pv 0 σ H) (hl:∀ i σ H,i≤xs.length→Pv i σ H→SqL K H a xs)
  (hs:∀ i x σ H,xs[i]?=some x→Pv i σ H→g x σ H fun σ2 H2=>tb { D with nx:=Pv (i+1),ct:=Pv (i+1),bk:=D.nx } σ2 H2) (hd:∀ σ H,Pv xs.length σ H→D.nx σ H) :
  ∃ W:Nat→Nat→St→Hp→Prop,(∃ m,W 0 m σ H)∧∀ i m σ H,W i m σ H →
   ((Itl K a).stop i H∧D.nx σ H)∨((Itl K a).go i H∧∃ N:St→Hp→Prop,(∀ σ' H',N σ' H'→∃ m',m'<m∧W (i+1) m' σ' H')∧∀ x H',(Itl K a).yld i H x H'→g x σ H' fun σ2 H2=>tb { D with nx:=N,ct:=N,bk:=D.nx } σ2 H2):=by
 refine ⟨fun i m σ H=>m=xs.length - i∧i≤xs.length∧Pv i σ H,⟨xs.length,by simp,Nat.zero_le _,h0⟩,?_⟩
 rintro i m σ H ⟨rfl,hi,p⟩
 have q:=hl i σ H hi p
 by_cases hlt:i<xs.length
 ·refine .inr ⟨⟨xs,xs[i],q,by simp [hlt]⟩,Pv (i+1),fun σ' H' p'=>⟨xs.length - (i+1),by omega,rfl,hlt,p'⟩,fun x H' y=>?_⟩
  obtain ⟨e,y⟩:=y
  subst e
  exact hs i x σ _ (y xs q) p
 ·have e:i=xs.length:=by omega
  subst e
  exact .inl ⟨⟨xs,q,Nat.le_refl _⟩,hd σ H p⟩
theorem for_range {lo:Int} {n:Nat} {g:TG} {tb:TS} {D:Ends} {σ:St} {H:Hp} (Pv:Nat→St→Hp→Prop) (h0:Pv 0 σ H)
  (hs:∀ i σ H,i<n→Pv i σ H→g (.int (lo+i)) σ H fun σ2 H2=>tb { D with nx:=Pv (i+1),ct:=Pv (i+1),bk:=D.nx } σ2 H2) (hd:∀ σ H,Pv n σ H→D.nx σ H) :
  ∃ W:Nat→Nat→St→Hp→Prop,(∃ m,W 0 m σ H)∧∀ i m σ H,W i m σ H →
   ((Itr lo n).stop i H∧D.nx σ H)∨((Itr lo n).go i H∧∃ N:St→Hp→Prop,(∀ σ' H',N σ' H'→∃ m',m'<m∧W (i+1) m' σ' H')∧∀ x H',(Itr lo n).yld i H x H'→g x σ H' fun σ2 H2=>tb { D with nx:=N,ct:=N,bk:=D.nx } σ2 H2):=by
 refine ⟨fun i m σ H=>m=n - i∧i≤n∧Pv i σ H,⟨n,by simp,Nat.zero_le _,h0⟩,?_⟩
 rintro i m σ H ⟨rfl,hi,p⟩
 by_cases hlt:i<n
 ·refine .inr ⟨hlt,Pv (i+1),fun σ' H' p'=>⟨n - (i+1),by omega,rfl,hlt,p'⟩,fun x H' y=>?_⟩
  obtain ⟨e,y⟩:=y
  subst e y
  exact hs i σ _ hlt p
 ·have e:i=n:=by omega
  subst e
  exact .inl ⟨Nat.le_refl _,hd σ H p⟩
end L2
namespace L2
open PySem PySem.Spec PyProof.Rows
abbrev R2:=V→V→Hp→VK→Prop
def OpR (X:Cx) (f:Value→Value→Sem Value) (r:R2):Prop :=
 ∀ (pins:List (Addr × Obj)) (s:Shared) (σ:St) (H:Hp) (x y:V) (v u:Value) (Q:VK),Inv X pins σ H s→RelV x v→RelV y u→r x y H Q →
  wpAny (model X.prog X.w) X.A (f v u) (EP X pins σ Q) X.xe s
def UnR (X:Cx) (f:Value→Sem Value) (r:V→Hp→VK→Prop):Prop :=
 ∀ (pins:List (Addr × Obj)) (s:Shared) (σ:St) (H:Hp) (x:V) (v:Value) (Q:VK),Inv X pins σ H s→RelV x v→r x H Q →
  wpAny (model X.prog X.w) X.A (f v) (EP X pins σ Q) X.xe s
def CallR (X:Cx) (f:Value) (r:List V→Hp→VK→Prop):Prop :=
 ∀ (pins:List (Addr × Obj)) (s:Shared) (σ:St) (H:Hp) (xs:List V) (us:List Value) (Q:VK),Inv X pins σ H s→Vals xs us→r xs H Q →
  wpAny (model X.prog X.w) X.A (call f us) (EP X pins σ Q) X.xe s
def tOp (r:R2) (ta tb:TE):TE:=fun σ H Q=>ta σ H fun x H1=>tb σ H1 fun y H2=>r x y H2 Q
def tUn (r:V→Hp→VK→Prop) (ta:TE):TE:=fun σ H Q=>ta σ H fun x H1=>r x H1 Q
def rI (C:Int→Int→Prop) (g:Int→Int→V):R2:=fun x y H Q=>∃ i j,x=.int i∧y=.int j∧C i j∧Q (g i j) H
def rI0 (g:Int→Int→V):R2:=fun x y H Q=>∃ i j,x=.int i∧y=.int j∧Q (g i j) H
def rU (g:Int→V):V→Hp→VK→Prop:=fun x H Q=>∃ i,x=.int i∧Q (g i) H
section
variable {X:Cx} {a b c:Expr} {ta tb tc:TE} {pos:Pos}
theorem binT (ha:PE X a ta) (hb:PE X b tb) {pins:List (Addr × Obj)} {s:Shared} {σ:St} {H:Hp} {R:V→V→Hp→Prop} (I:Inv X pins σ H s)
  (h:ta σ H fun x H1=>tb σ H1 fun y H2=>R x y H2) {Q:Value→Shared→Prop} {f:Value→Value→Sem Value}
  (hf:∀ v u s2 x y H2,Inv X pins σ H2 s2→RelV x v→RelV y u→R x y H2→wpAny (model X.prog X.w) X.A (f v u) Q X.xe s2) :
  wpAny (model X.prog X.w) X.A (eval a X.env) (fun v s₁=>wpAny (model X.prog X.w) X.A (eval b X.env) (fun u s₂=>wpAny (model X.prog X.w) X.A (f v u) Q X.xe s₂) X.xe s₁) X.xe s:=by
 refine thn (ha pins s σ H _ I h) fun v s1 ⟨x,H1,I1,r1,q1⟩=>?_
 refine thn (hb pins s1 σ H1 _ I1 q1) fun u s2 ⟨y,H2,I2,r2,q2⟩=>?_
 exact hf v u s2 x y H2 I2 r1 r2 q2
theorem z0v {op:Operator} {r:R2} (ho:OpR X (binaryOp op) r) (ha:PE X a ta) (hb:PE X b tb):PE X (.BinOp a op b pos) (tOp r ta tb):=by
 intro pins s σ H Q I h
 exact wpAny_BinOp (binT ha hb I h fun v u s2 x y H2 I2 rx ry q=>ho pins s2 σ H2 x y v u Q I2 rx ry q)
theorem pe_un {op:UnaryOp} {r:V→Hp→VK→Prop} (ho:UnR X (unaryOp op) r) (ha:PE X a ta):PE X (.UnaryOp op a pos) (tUn r ta):=by
 intro pins s σ H Q I h
 exact UnaryOp_ (thn (ha pins s σ H _ I h) fun v s1 ⟨x,H1,I1,r1,q1⟩=>ho pins s1 σ H1 x v Q I1 r1 q1)
theorem opI {f:Value→Value→Sem Value} {C:Int→Int→Prop} {g:Int→Int→Int}
  (rule:∀ (i j:Int) (t u:Tok) (s:Shared) (Q:Value→Shared→Prop) (E:Value→Shared→Prop),C i j→Q (.int (g i j) s.toks) { s with toks:=s.toks+1 }→wpAny (model X.prog X.w) X.A (f (.int i t) (.int j u)) Q E s) :
  OpR X f (rI C fun i j=>.int (g i j)):=by
 intro pins s σ H x y v u Q I rx ry h
 obtain ⟨i,j,rfl,rfl,hc,q⟩:=h
 obtain ⟨t,rfl⟩:=rx
 obtain ⟨t',rfl⟩:=ry
 exact rule i j t t' s _ _ hc ⟨.int (g i j),H,I.tok _,⟨_,rfl⟩,q⟩
theorem opI0 {f:Value→Value→Sem Value} {g:Int→Int→Int}
  (rule:∀ (i j:Int) (t u:Tok) (s:Shared) (Q:Value→Shared→Prop) (E:Value→Shared→Prop),Q (.int (g i j) s.toks) { s with toks:=s.toks+1 }→wpAny (model X.prog X.w) X.A (f (.int i t) (.int j u)) Q E s) :
  OpR X f (rI0 fun i j=>.int (g i j)):=by
 intro pins s σ H x y v u Q I rx ry h
 obtain ⟨i,j,rfl,rfl,q⟩:=h
 obtain ⟨t,rfl⟩:=rx
 obtain ⟨t',rfl⟩:=ry
 exact rule i j t t' s _ _ ⟨.int (g i j),H,I.tok _,⟨_,rfl⟩,q⟩
theorem opB0 {f:Value→Value→Sem Value} {g:Int→Int→Bool}
  (rule:∀ (i j:Int) (t u:Tok) (s:Shared) (Q:Value→Shared→Prop) (E:Value→Shared→Prop),Q (.bool (g i j)) s→wpAny (model X.prog X.w) X.A (f (.int i t) (.int j u)) Q E s) :
  OpR X f (rI0 fun i j=>.bl (g i j)):=by
 intro pins s σ H x y v u Q I rx ry h
 obtain ⟨i,j,rfl,rfl,q⟩:=h
 obtain ⟨t,rfl⟩:=rx
 obtain ⟨t',rfl⟩:=ry
 exact rule i j t t' s _ _ ⟨.bl (g i j),H,I,rfl,q⟩
def CDiv (i j:Int):Prop:=0<j∧j<1073741824
def CPow (i j:Int):Prop:=0≤j∧j≤1000000∧i.natAbs<2 ^ 64
def CMul (i j:Int):Prop:=(-(2 ^ 64)<i∧i<2 ^ 64)∨(-(2 ^ 64)<j∧j<2 ^ 64)
theorem CMul.ok {i j:Int} (h:CMul i j):IntMulOk i j:=by
 rcases h with ⟨h1,h2⟩ | ⟨h1,h2⟩
 ·exact .of_left (intBits_le_64 h1 h2)
 ·exact .of_right (intBits_le_64 h1 h2)
theorem z20:OpR X (binaryOp .Add) (rI0 fun i j=>.int (i+j)):=opI0 fun _ _ _ _ _ _ _ q=>add_int q
theorem op_sub:OpR X (binaryOp .Sub) (rI0 fun i j=>.int (i - j)):=opI0 fun _ _ _ _ _ _ _ q=>sub_int q
theorem op_mul:OpR X (binaryOp .Mult) (rI CMul fun i j=>.int (i * j)):=opI fun _ _ _ _ _ _ _ hc q=>mul_int q hc.ok
theorem op_fdiv:OpR X (binaryOp .FloorDiv) (rI CDiv fun i j=>.int (i / j)):=opI fun i j _ _ _ _ _ hc q=>by
 have h1:(0:Int)<j:=hc.1
 have h2:j<1073741824:=hc.2
 exact floordiv_int (by omega) (by rw [Int.fdiv_eq_ediv_of_nonneg i (by omega)]; exact q) (.inl (PyProof.noPylong_small (by omega)))
theorem z2f:OpR X (binaryOp .Mod) (rI (fun _ j=>0<j) fun i j=>.int (i % j)):=opI fun i j _ _ _ _ _ hc q=>by
 have h1:(0:Int)<j:=hc
 exact mod_int' (by omega) (by rw [Int.fmod_eq_emod_of_nonneg i (by omega)]; exact q)
theorem op_pow:OpR X (binaryOp .Pow) (rI CPow fun i j=>.int (i ^ j.toNat)):=opI fun _ _ _ _ _ _ _ hc q=>pow_int_small hc.1 hc.2.1 hc.2.2 q
theorem unI {f:Value→Sem Value} {g:Int→Int}
  (rule:∀ (i:Int) (t:Tok) (s:Shared) (Q:Value→Shared→Prop) (E:Value→Shared→Prop),Q (.int (g i) s.toks) { s with toks:=s.toks+1 }→wpAny (model X.prog X.w) X.A (f (.int i t)) Q E s) :
  UnR X f (rU fun i=>.int (g i)):=by
 intro pins s σ H x v Q I rx h
 obtain ⟨i,rfl,q⟩:=h
 obtain ⟨t,rfl⟩:=rx
 exact rule i t s _ _ ⟨.int (g i),H,I.tok _,⟨_,rfl⟩,q⟩
theorem un_neg:UnR X (unaryOp .USub) (rU fun i=>.int (-i)):=unI fun _ _ _ _ _ q=>neg_int q
end
def scal:V→V→Bool
 | .non,.non=>true | .non,.int _=>true | .int _,.non=>true | .non,.bl _=>true | .bl _,.non=>true | .non,.str _=>true | .str _,.non=>true
 | .int _,.int _=>true | .bl _,.bl _=>true | .str _,.str _=>true | .byt _,.byt _=>true
 | .int _,.str _=>true | .str _,.int _=>true | .bl _,.str _=>true | .str _,.bl _=>true
 | _,_=>false
def rEq:R2:=fun x y H Q=>scal x y=true∧Q (.bl (decide (x=y))) H
def rNe:R2:=fun x y H Q=>scal x y=true∧Q (.bl (!decide (x=y))) H
theorem dec_int {i j:Int}:decide (V.int i=V.int j)=(i == j):=by
 rw [Bool.eq_iff_iff]
 simp
theorem dec_bl {i j:Bool}:decide (V.bl i=V.bl j)=(i == j):=by
 rw [Bool.eq_iff_iff]
 simp
theorem dec_str {i j:Str}:decide (V.str i=V.str j)=(i == j):=by
 rw [Bool.eq_iff_iff]
 simp
theorem dec_byt {i j:Array UInt8}:decide (V.byt i=V.byt j)=(i.toList == j.toList):=by
 rw [Bool.eq_iff_iff]
 cases i
 cases j
 simp
section
variable {X:Cx} {a b c:Expr} {ta tb tc:TE} {pos:Pos}
theorem z15 {pins:List (Addr × Obj)} {σ:St} {H:Hp} {s:Shared} {Q:VK} {k k':Bool} (I:Inv X pins σ H s) (q:Q (.bl k) H) (e:k=k'):EP X pins σ Q (.bool k') s:=by
 subst e
 exact ⟨.bl k,H,I,rfl,q⟩
theorem z1f:OpR X (compareOp .Eq) rEq:=by
 intro pins s σ H x y v u Q I rx ry h
 obtain ⟨hs,q⟩:=h
 cases x with
 | non =>
  cases rx
  cases y with
  | non=>cases ry; exact PySem.EqNone.eq_none_none (z15 I q (by simp))
  | bl j=>cases ry; exact PySem.EqNone.eq_none_bool (z15 I q (by simp))
  | int j=>obtain ⟨t',rfl⟩:=ry; exact PySem.EqNone.eq_none_int (z15 I q (by simp))
  | str j=>obtain ⟨t',rfl⟩:=ry; exact PySem.EqNone.eq_none_str (z15 I q (by simp))
  | _=>exact absurd (show false=true from hs) Bool.false_ne_true
 | bl i =>
  cases rx
  cases y with
  | non=>cases ry; exact PySem.EqNone.eq_bool_none (z15 I q (by simp))
  | bl j=>cases ry; exact eq_bool (z15 I q dec_bl)
  | str j=>obtain ⟨t',rfl⟩:=ry; exact PySem.EqMixed.eq_bool_str (z15 I q (by simp))
  | _=>exact absurd (show false=true from hs) Bool.false_ne_true
 | int i =>
  obtain ⟨t,rfl⟩:=rx
  cases y with
  | non=>cases ry; exact PySem.EqNone.eq_int_none (z15 I q (by simp))
  | int j=>obtain ⟨t',rfl⟩:=ry; exact eq_int (z15 I q dec_int)
  | str j=>obtain ⟨t',rfl⟩:=ry; exact PySem.EqMixed.eq_int_str (z15 I q (by simp))
  | _=>exact absurd (show false=true from hs) Bool.false_ne_true
 | str i =>
  obtain ⟨t,rfl⟩:=rx
  cases y with
  | non=>cases ry; exact PySem.EqNone.eq_str_none (z15 I q (by simp))
  | bl j=>cases ry; exact PySem.EqMixed.eq_str_bool (z15 I q (by simp))
  | int j=>obtain ⟨t',rfl⟩:=ry; exact PySem.EqMixed.eq_str_int (z15 I q (by simp))
  | str j=>obtain ⟨t',rfl⟩:=ry; exact eq_str (z15 I q dec_str)
  | _=>exact absurd (show false=true from hs) Bool.false_ne_true
 | byt i =>
  obtain ⟨t,rfl⟩:=rx
  cases y with
  | byt j=>obtain ⟨t',rfl⟩:=ry; exact PySem.W.eq_bytes (z15 I q dec_byt)
  | _=>exact absurd (show false=true from hs) Bool.false_ne_true
 | _=>cases y <;> exact absurd (show false=true from hs) Bool.false_ne_true
theorem op_ne:OpR X (compareOp .NotEq) rNe:=by
 intro pins s σ H x y v u Q I rx ry h
 obtain ⟨hs,q⟩:=h
 cases x with
 | non =>
  cases rx
  cases y with
  | non=>cases ry; exact PySem.EqNone.ne_none_none (z15 I q (by simp))
  | bl j=>cases ry; exact PySem.EqNone.ne_none_bool (z15 I q (by simp))
  | int j=>obtain ⟨t',rfl⟩:=ry; exact PySem.EqNone.ne_none_int (z15 I q (by simp))
  | str j=>obtain ⟨t',rfl⟩:=ry; exact PySem.EqNone.ne_none_str (z15 I q (by simp))
  | _=>exact absurd (show false=true from hs) Bool.false_ne_true
 | bl i =>
  cases rx
  cases y with
  | non=>cases ry; exact PySem.EqNone.ne_bool_none (z15 I q (by simp))
  | bl j=>cases ry; exact ne_bool (z15 I q (congrArg not dec_bl))
  | str j=>obtain ⟨t',rfl⟩:=ry; exact PySem.EqMixed.ne_bool_str (z15 I q (by simp))
  | _=>exact absurd (show false=true from hs) Bool.false_ne_true
 | int i =>
  obtain ⟨t,rfl⟩:=rx
  cases y with
  | non=>cases ry; exact PySem.EqNone.ne_int_none (z15 I q (by simp))
  | int j=>obtain ⟨t',rfl⟩:=ry; exact ne_int (z15 I q (congrArg not dec_int))
  | str j=>obtain ⟨t',rfl⟩:=ry; exact PySem.EqMixed.ne_int_str (z15 I q (by simp))
  | _=>exact absurd (show false=true from hs) Bool.false_ne_true
 | str i =>
  obtain ⟨t,rfl⟩:=rx
  cases y with
  | non=>cases ry; exact PySem.EqNone.ne_str_none (z15 I q (by simp))
  | bl j=>cases ry; exact PySem.EqMixed.ne_str_bool (z15 I q (by simp))
  | int j=>obtain ⟨t',rfl⟩:=ry; exact PySem.EqMixed.ne_str_int (z15 I q (by simp))
  | str j=>obtain ⟨t',rfl⟩:=ry; exact ne_str (z15 I q (congrArg not dec_str))
  | _=>exact absurd (show false=true from hs) Bool.false_ne_true
 | byt i =>
  obtain ⟨t,rfl⟩:=rx
  cases y with
  | byt j=>obtain ⟨t',rfl⟩:=ry; exact PySem.W.ne_bytes (z15 I q (congrArg not dec_byt))
  | _=>exact absurd (show false=true from hs) Bool.false_ne_true
 | _=>cases y <;> exact absurd (show false=true from hs) Bool.false_ne_true
theorem op_lt:OpR X (compareOp .Lt) (rI0 fun i j=>.bl (decide (i<j))):=opB0 fun _ _ _ _ _ _ _ q=>lt_int q
theorem op_le:OpR X (compareOp .LtE) (rI0 fun i j=>.bl (decide (i≤j))):=opB0 fun _ _ _ _ _ _ _ q=>le_int q
theorem op_gt:OpR X (compareOp .Gt) (rI0 fun i j=>.bl (decide (j<i))):=opB0 fun _ _ _ _ _ _ _ q=>gt_int q
theorem op_ge:OpR X (compareOp .GtE) (rI0 fun i j=>.bl (decide (j≤i))):=opB0 fun _ _ _ _ _ _ _ q=>ge_int q
theorem z0i (b:Expr) {op:CmpOp} (h:op≠.In:=by decide) (h2:op≠.NotIn:=by decide):behindInMarks op b=false:=by
 have e1:(op == CmpOp.In)=false:=by cases op <;> first | rfl | exact absurd rfl h
 have e2:(op == CmpOp.NotIn)=false:=by cases op <;> first | rfl | exact absurd rfl h2
 cases b <;> simp [behindInMarks,e1,e2]
theorem pe_cmpR {op:CmpOp} {r:R2} (ho:OpR X (compareOp op) r) (ha:PE X a ta) (hb:PE X b tb) (hm:behindInMarks op b=false):PE X (.Compare a [op] [b] pos) (tOp r ta tb):=by
 intro pins s σ H Q I h
 exact wpAny_Compare1 (binT ha hb I h fun v u s2 x y H2 I2 rx ry q=>ho pins s2 σ H2 x y v u Q I2 rx ry q) hm
def tTest (t:TE):TT:=fun σ H Q=>t σ H fun x H'=>∃ k,x=.bl k∧Q k H'
theorem z0b {op:CmpOp} {r:R2} (ho:OpR X (compareOp op) r) (ha:PE X a ta) (hb:PE X b tb) (hm:behindInMarks op b=false):PT X (.Compare a [op] [b] pos) (tTest (tOp r ta tb)):=by
 intro pins s σ H Q I h
 refine wpAny_isTrue_Compare1 (thn (ha pins s σ H _ I h) fun v s1 ⟨x,H1,I1,r1,q1⟩=>thn (hb pins s1 σ H1 _ I1 q1) fun u s2 ⟨y,H2,I2,r2,q2⟩ =>
  thn (ho pins s2 σ H2 x y v u _ I2 r1 r2 q2) fun c s3 ⟨z,H3,I3,r3,k,e,q3⟩=>?_) hm
 subst e
 cases r3
 exact wpAny_truthy_bool ⟨H3,I3,q3⟩
theorem line63:(sizeLine:Nat)<2 ^ 63:=by rw [sizeLine_eq]; decide
theorem vals1 {x:V} {us:List Value} (r:Vals [x] us):∃ u,us=[u]∧RelV x u:=by
 cases r with
 | cons r1 r2=>cases r2; exact ⟨_,rfl,r1⟩
theorem call_int1:CallR X (.type "int") (fun xs H Q=>(∃ i,xs=[.int i]∧Q (.int i) H)∨∃ k,xs=[.bl k]∧Q (.int (if k then 1 else 0)) H):=by
 intro pins s σ H xs us Q I r h
 rcases h with ⟨i,rfl,q⟩ | ⟨k,rfl,q⟩
 ·obtain ⟨u,rfl,t,rfl⟩:=vals1 r
  exact call_int_int ⟨.int i,H,I,⟨_,rfl⟩,q⟩
 ·obtain ⟨u,rfl,r1⟩:=vals1 r
  cases r1
  exact call_int_bool ⟨.int (if k then 1 else 0),H,I.tok _,⟨_,rfl⟩,q⟩
end
end L2
namespace L2
open PySem PySem.Spec PyProof.Rows
structure ObjM (h:Heap) (x dx C:Addr) (mA:Str→Option Value):Prop where
 obj:h.get? x=some (PySem.W.instObj C dx)
 ns:h.Ns1 dx mA
 ne:dx≠x
theorem lookIn_ns {h:Heap} {dx:Addr} {mA:Str→Option Value} (n:h.Ns1 dx mA):∃ od,h.get? dx=some od∧∀ name,PySem.W.lookIn name od=some (mA name):=by
 obtain ⟨o,es,ep,ho,hd,hk,_,hm⟩:=n
 refine ⟨o,ho,fun name=>?_⟩
 have e:=hm name
 unfold nsFind findBy at e
 rw [← Array.find?_toList] at e
 unfold PySem.W.lookIn
 rw [hd]
 dsimp only
 split
 ·rename_i y q
  rw [q] at e
  exact congrArg some e
 ·rename_i q
  rw [q] at e
  have a:es.toList.any (·.refKey)=false:=by
   rw [List.any_eq_false]
   intro y hy
   obtain ⟨z,t,hkey⟩:=hk y (Array.mem_toList_iff.mp hy)
   simp [DictEntry.refKey,hkey]
  have a':¬es.toList.any (·.refKey)=true:=by rw [a]; exact Bool.false_ne_true
  rw [if_neg a']
  exact congrArg some e
theorem ObjM.look {h:Heap} {x dx C:Addr} {mA:Str→Option Value} (I:ObjM h x dx C mA):∃ od,PySem.W.InstAt h x (PySem.W.instObj C dx) C (some od)∧∀ name,PySem.W.lookIn name od=some (mA name) :=
 let ⟨od,ho,hl⟩:=lookIn_ns I.ns
 ⟨od,⟨I.obj,rfl,rfl,ho⟩,hl⟩
section
variable {prog:Program} {w:World} {A:Around} {E:Value→Shared→Prop} {s:Shared} {K:PySem.W.Frag} {x dx C f:Addr} {mA:Str→Option Value} {name:Str} {v:Value}
theorem get_map {expr:Bool} {Q:Value→Shared→Prop} (X:K.In s.heap) (I:ObjM s.heap x dx C mA) (hg:PySem.W.plainGet K C name=true) (hh:PySem.W.hasDictIn K C=true)
  (ha:PySem.W.findIn K (.ref C) name=some none) (hv:mA name=some v) (hv':PySem.W.handedIn v=true) (h:Q v { s with toks:=s.toks+1 }) :
  wpAny (model prog w) A (getAttr (.ref x) name expr) Q E s:=by
 obtain ⟨od,J,hl⟩:=I.look
 exact PySem.W.get_value X J (PySem.W.plainGet_of hg).1 (PySem.W.findObj_own hh ha rfl (by rw [hl,hv])) hv' h
theorem get_meth {pl:Sem Bool} {Q:Value × List Value→Shared→Prop} (X:K.In s.heap) (I:ObjM s.heap x dx C mA) (hg:PySem.W.plainGet K C name=true)
  (hf:PySem.W.findIn K (.ref C) name=some (some (.ref f))) (ht:PySem.W.isFn K (.ref f)=true) (hv:mA name=none) (h:Q (.ref f,[.ref x]) s) :
  wpAny (model prog w) A (getMethod (.ref x) name pl) Q E s:=by
 obtain ⟨od,J,hl⟩:=I.look
 exact PySem.W.method_fn X J (PySem.W.plainGet_of hg).1 (PySem.W.plainGet_of hg).2 hf (beq_iff_eq.mp ht) (by show (PySem.W.lookIn name od).map (·.isSome)=some false; rw [hl,hv]; rfl) h
theorem set_map {ns:List Str} {Q:Unit→Shared→Prop} (X:K.In s.heap) (I:ObjM s.heap x dx C mA)
  (hs:PySem.W.findIn K (.ref C) "__setattr__"=some (some (.builtin "object.__setattr__"))) (hp:PySem.W.plainOver K C=true) (ht:PySem.W.takerIn K C name=some none) (hh:PySem.W.hasDictIn K C=true)
  (hw:PySem.Within mA ns) (hsz:ns.length≤sizeLine)
  (h:∀ h',ObjM h' x dx C (fun y=>if y=name then some v else mA y)→Heap.SameBut dx s.heap h'→Q () { s with heap:=h',toks:=s.toks+2 }) :
  wpAny (model prog w) A (setAttr (.ref x) name v) Q E s:=by
 obtain ⟨od,J,hl⟩:=I.look
 refine PySem.W.set_plain X J hs (PySem.W.osa_open (s:={ s with toks:=s.toks+1 }) (r:=none) X J hp ht fun b=>?_)
 obtain ⟨cd,hc,hd'⟩:=PySem.W.any_some hh
 have hx:s.heap.get? x=some ⟨.ref C,some dx,.plain, #[]⟩:=I.obj
 refine wpAny_bind (wpAny_pure (wpAny_bind (wpAny_bind (wpAny_loadPart hx (wpAny_bind (PySem.W.Looks.here (s:={ s with toks:=s.toks+1 }) (PySem.W.looks_clsIn X hc) ?_))))))
 rw [hd']
 refine wpAny_pure (a:=some dx) (wpAny_bind (wpAny_pure (wpAny_bind ?_)))
 refine wpAny_nsSet1 (s:={ s with toks:=s.toks+1 }) I.ns fun h' hn2 hs2=>?_
 obtain ⟨oD,esD,epD,hoD,hdD,hcD⟩:=hn2.count (PySem.Within.cons name v hw)
 refine wpAny_bind (wpAny_lookBehind hoD (by rw [hdD]; exact pastItsLine_dict (Nat.le_trans hcD (by rw [List.length_cons]; omega))) ?_)
 exact wpAny_pure (h _ ⟨(hs2.2 _ (Ne.symm I.ne)).trans I.obj,hn2,I.ne⟩ hs2)
theorem make_map {R:Result→Shared→Prop} {vs:List Value} {kw:List (Str × Value)} (X:K.In s.heap) (hm:PySem.W.makesIn K C=true)
  (hi:PySem.W.findIn K (.ref C) "__init__"=some (some (.ref f))) (hf:PySem.W.typeIn K (.ref f)=some (.type "function"))
  (h:codeAny (model prog w) (A.under (.builtin "type.__call__" ⟨.ref C::vs,kw⟩)) (.call (.ref f) ⟨.ref (s.heap.objs.size+1)::vs,kw⟩) (PySem.W.InitBack (s.heap.objs.size+1) R)
   { s with heap:=(s.heap.push PySem.W.emptyDict).push (PySem.W.instObj C s.heap.objs.size) }) :
  codeAny (model prog w) A (.call (.ref C) ⟨vs,kw⟩) R s:=by
 obtain ⟨hh,g,d,t,os⟩:=s
 exact PySem.W.make_core (PySem.W.makes_of X hm) (PySem.W.looks_findIn X hi) (fun self=>PySem.W.bind_fn X self hf) (.inl rfl) h
end
def putF (f:Str) (v:V):List (Str × V)→List (Str × V)
 | []=>[(f,v)]
 | (g,x)::r=>if g=f then (g,v)::r else (g,x)::putF f v r
theorem z1t (f g:Str) (v:V):∀ fs:List (Str × V),(putF f v fs).lookup g=if g=f then some v else fs.lookup g
 | []=>by
  show List.lookup g [(f,v)]=_
  by_cases h:g=f
  ·have hb:(g == f)=true:=beq_iff_eq.mpr h
   simp only [List.lookup,hb,if_pos h]
  ·have hb:(g == f)=false:=beq_eq_false_iff_ne.mpr h
   simp only [List.lookup,hb,if_neg h]
 | (k,x)::r=>by
  have ih:=z1t f g v r
  rw [show putF f v ((k,x)::r)=(if k=f then (k,v)::r else (k,x)::putF f v r) from rfl]
  by_cases hk:k=f
  ·rw [if_pos hk]
   by_cases h:g=k
   ·have hb:(g == k)=true:=beq_iff_eq.mpr h
    simp only [List.lookup,hb,if_pos (h.trans hk)]
   ·have hb:(g == k)=false:=beq_eq_false_iff_ne.mpr h
    simp only [List.lookup,hb,if_neg (fun e:g=f=>h (e.trans hk.symm))]
  ·rw [if_neg hk]
   by_cases h:g=k
   ·have hb:(g == k)=true:=beq_iff_eq.mpr h
    simp only [List.lookup,hb,if_neg (fun e:g=f=>hk (h.symm.trans e))]
   ·have hb:(g == k)=false:=beq_eq_false_iff_ne.mpr h
    simp only [List.lookup,hb]
    exact ih
theorem keys_putF (f:Str) (v:V):∀ fs:List (Str × V),f∈(putF f v fs).map (·.1)∧∀ g,g∈fs.map (·.1)→g∈(putF f v fs).map (·.1)
 | []=>⟨by simp [putF],fun g h=>by simp at h⟩
 | (k,x)::r=>by
  obtain ⟨i1,i2⟩:=keys_putF f v r
  rw [show putF f v ((k,x)::r)=(if k=f then (k,v)::r else (k,x)::putF f v r) from rfl]
  by_cases hk:k=f
  ·rw [if_pos hk]
   subst hk
   exact ⟨by simp,fun g h=>by simpa using h⟩
  ·rw [if_neg hk]
   refine ⟨?_,fun g h=>?_⟩
   ·rw [List.map_cons]
    exact List.mem_cons_of_mem _ i1
   ·rw [List.map_cons] at h ⊢
    rcases List.mem_cons.mp h with e | e
    ·exact List.mem_cons.mpr (.inl e)
    ·exact List.mem_cons_of_mem _ (i2 g e)
theorem length_putF (f:Str) (v:V):∀ fs:List (Str × V),(putF f v fs).length≤fs.length+1
 | []=>by simp [putF]
 | (k,x)::r=>by
  have ih:=length_putF f v r
  rw [show putF f v ((k,x)::r)=(if k=f then (k,v)::r else (k,x)::putF f v r) from rfl]
  by_cases hk:k=f
  ·rw [if_pos hk,List.length_cons,List.length_cons]; omega
  ·rw [if_neg hk,List.length_cons,List.length_cons]; omega
theorem RelO.some_of {v:V} {o:Option Value} (r:RelO (some v) o):∃ u,o=some u∧RelV v u:=by
 cases o with
 | none=>exact (show False from r).elim
 | some u=>exact ⟨u,rfl,r⟩
theorem RelO.none_of {o:Option Value} (r:RelO none o):o=none:=by
 cases o with
 | none=>rfl
 | some u=>exact (show False from r).elim
theorem handed_of {v:V} {u:Value} (r:RelV v u):PySem.W.handedIn u=true:=by
 cases v with
 | non=>cases (show u=Value.none from r); rfl
 | bl b=>cases (show u=Value.bool b from r); rfl
 | int i=>obtain ⟨t,e⟩:=(show ∃ t,u=Value.int i t from r); cases e; rfl
 | str x=>obtain ⟨t,e⟩:=(show ∃ t,u=Value.str x t from r); cases e; rfl
 | byt b=>obtain ⟨t,e⟩:=(show ∃ t,u=Value.bytes b t from r); cases e; rfl
 | flt b=>obtain ⟨t,e⟩:=(show ∃ t,u=Value.float b t from r); cases e; rfl
 | ref a=>cases (show u=Value.ref a from r); rfl
 | ty n=>cases (show u=Value.type n from r); rfl
section
variable {P:Program} {w:World} {H H':Hp} {h h':Heap} {a C dx:Addr} {fs fs':List (Str × V)}
theorem ins_get (hok:HOk P w H h) (e:H a=some (.ins C dx fs)):∃ mA,ObjM h a dx C mA∧(∀ f,RelO (fs.lookup f) (mA f))∧PySem.Within mA (fs.map (·.1))∧fs.length≤1000∧H dx=some (.own a):=by
 obtain ⟨d,z,ne,ob,mA,n,r,q⟩:=(show z1n P w H h a (.ins C dx fs) from hok a _ e)
 exact ⟨mA,⟨ob,n,ne⟩,r,q,z,d⟩
end
structure Cls (K:PySem.W.Frag) (C:Addr):Prop where
 pg:PySem.W.plainGet K C Str.empty=true
 hd:PySem.W.hasDictIn K C=true
 po:PySem.W.plainOver K C=true
 sa:PySem.W.findIn K (.ref C) "__setattr__"=some (some (.builtin "object.__setattr__"))
theorem Cls.get {K:PySem.W.Frag} {C:Addr} (c:Cls K C) (f:Str):PySem.W.plainGet K C f=true:=c.pg
def z2b (K:PySem.W.Frag) (C:Addr) (f:Str):Prop:=PySem.W.findIn K (.ref C) f=some none
theorem z2b.taker {K:PySem.W.Frag} {C:Addr} {f:Str} (n:z2b K C f):PySem.W.takerIn K C f=some none:=by
 unfold PySem.W.takerIn
 rw [show PySem.W.findIn K (.ref C) f=some none from n]
 rfl
structure Con (K:PySem.W.Frag) (C:Addr) (f:Str) (v:V) (u:Value):Prop where
 at_:PySem.W.findIn K (.ref C) f=some (some u)
 rel:RelV v u
 get:PySem.W.specialIn K u "__get__"=some none
 cp:PySem.W.copiedNames.contains f=false
structure Meth (K:PySem.W.Frag) (C:Addr) (m:Str) (f:Addr):Prop where
 at_:PySem.W.findIn K (.ref C) m=some (some (.ref f))
 fn:PySem.W.isFn K (.ref f)=true
 kp:PySem.W.keepIn K (.ref f)=true
section
variable {X:Cx} {pins:List (Addr × Obj)} {σ:St} {H:Hp} {s:Shared} {a C dx:Addr} {fs:List (Str × V)} {f:Str} {v:V} {A:Around} {E:Value→Shared→Prop}
theorem getattr_ok {b:Bool} {Q:Value→Shared→Prop} (I:Inv X pins σ H s) (e:H a=some (.ins C dx fs)) (c:Cls X.K C) (n:z2b X.K C f) (l:fs.lookup f=some v)
  (h:∀ u s',Inv X pins σ H s'→RelV v u→Q u s'):wpAny (model X.prog X.w) A (getAttr (.ref a) f b) Q E s:=by
 obtain ⟨mA,O,r,_,_,_⟩:=ins_get I.hok e
 obtain ⟨u,hu,ru⟩:=RelO.some_of (v:=v) (o:=mA f) (by rw [← l]; exact r f)
 exact get_map I.kIn O (c.get f) c.hd n hu (handed_of ru) (h u _ (I.tok _) ru)
theorem getmeth_ok {m:Str} {g:Addr} {pl:Sem Bool} {Q:Value × List Value→Shared→Prop} (I:Inv X pins σ H s) (e:H a=some (.ins C dx fs)) (c:Cls X.K C) (k:Meth X.K C m g) (l:fs.lookup m=none)
  (h:Q (.ref g,[.ref a]) s):wpAny (model X.prog X.w) A (getMethod (.ref a) m pl) Q E s:=by
 obtain ⟨mA,O,r,_,_,_⟩:=ins_get I.hok e
 have hn:mA m=none:=RelO.none_of (by rw [← l]; exact r m)
 exact get_meth I.kIn O (c.get m) k.at_ k.fn hn h
theorem setattr_ok {y:V} {u:Value} {Q:Unit→Shared→Prop} (I:Inv X pins σ H s) (e:H a=some (.ins C dx fs)) (c:Cls X.K C) (n:z2b X.K C f) (hl:fs.length<1000) (ry:RelV y u)
  (h:∀ s',Inv X pins σ (upd H a (.ins C dx (putF f y fs))) s'→Q () s'):wpAny (model X.prog X.w) A (setAttr (.ref a) f u) Q E s:=by
 obtain ⟨mA,O,r,wi,_,ho⟩:=ins_get I.hok e
 have hz:(fs.map (·.1)).length≤sizeLine:=by rw [List.length_map,sizeLine_eq]; omega
 refine set_map I.kIn O c.sa c.po n.taker c.hd wi hz fun h' O' sb=>h _ ?_
 have hd:∃ o,h'.get? dx=some o:=let ⟨o,_,_,e',_⟩:=O'.ns; ⟨o,e'⟩
 refine I.write (x:=a) (e:=dx) (by rw [e]; exact True.intro) (.inr ho) (fun b q hb z=>(sb.2 b hb).trans z) hd ?_
 refine ⟨by rw [z01 O.ne]; exact ho,?_,O.ne,O'.obj,_,O'.ns,fun g=>?_,fun g hg=>?_⟩
 ·have:=length_putF f y fs; omega
 ·show RelO ((putF f y fs).lookup g) (if g=f then some u else mA g)
  rw [z1t]
  by_cases q:g=f
  ·rw [if_pos q,if_pos q]; exact ry
  ·rw [if_neg q,if_neg q]; exact r g
 ·by_cases q:g=f
  ·rw [q]; exact (keys_putF f y fs).1
  ·refine (keys_putF f y fs).2 g (wi g fun z=>hg ?_)
   show (if g=f then some u else mA g)=none
   rw [if_neg q]; exact z
theorem Inv.made (I:Inv X pins σ H s):Inv X pins σ (upd (upd H s.heap.objs.size (.own (s.heap.objs.size+1))) (s.heap.objs.size+1) (.ins C s.heap.objs.size []))
  { s with heap:=(s.heap.push PySem.W.emptyDict).push (PySem.W.instObj C s.heap.objs.size) }:=by
 have e1:(s.heap.push PySem.W.emptyDict).get? s.heap.objs.size=some PySem.W.emptyDict:=Heap.get?_push_size s.heap rfl
 have e2:((s.heap.push PySem.W.emptyDict).push (PySem.W.instObj C s.heap.objs.size)).get? (s.heap.objs.size+1)=some (PySem.W.instObj C s.heap.objs.size):=by
  have:=Heap.get?_push_size (s.heap.push PySem.W.emptyDict) (o:=PySem.W.instObj C s.heap.objs.size) rfl
  rwa [Heap.size_push] at this
 have e3:(s.heap.push PySem.W.emptyDict).Ns s.heap.objs.size (fun _=>none):=⟨PySem.W.emptyDict, #[],_,e1,rfl,(fun e he=>absurd he (by simp)),fun _=>rfl⟩
 have I1:=I.laid (a:=s.heap.objs.size) (o:=.own (s.heap.objs.size+1)) (h':=s.heap.push PySem.W.emptyDict) (t':=s.toks) (fun b u q=>Heap.get?_push_of_some _ q) (Nat.le_refl _) ⟨_,e1⟩
 refine I1.laid (a:=s.heap.objs.size+1) (o:=.ins C s.heap.objs.size []) (t':=s.toks) (fun b u q=>Heap.get?_push_of_some _ q) (Nat.le_of_eq (Heap.size_push _ _)) ?_
 have ne:s.heap.objs.size≠s.heap.objs.size+1:=Nat.ne_of_lt (Nat.lt_succ_self _)
 refine ⟨by rw [z01 ne,z02],Nat.zero_le _,ne,e2,fun _=>none,(Heap.Ns1.of_empty e3).at fun o q=>Heap.get?_push_of_some _ q,fun _=>True.intro,fun y hy=>absurd rfl hy⟩
theorem attr_of {prog:Program} {w:World} {env:Env} {e:Expr} {f:Str} {pos:Pos} {s:Shared} {Q:Value→Shared→Prop} (hb:attributeBase e f env (eval e env)=eval e env)
  (h:wpAny (model prog w) A (eval e env) (fun o s₁=>wpAny (model prog w) A (getAttr o f true) Q E s₁) E s):wpAny (model prog w) A (eval (.Attribute e f pos) env) Q E s :=
 Attribute_any_ h (by rw [arm_eval_Attribute,hb])
end
def tFld (K:PySem.W.Frag) (ta:TE) (f:Str):TE:=fun σ H Q=>ta σ H fun x H1=>∃ a C dx fs v,x=.ref a∧H1 a=some (.ins C dx fs)∧Cls K C∧z2b K C f∧fs.lookup f=some v∧Q v H1
def sFld (K:PySem.W.Frag) (ta tv:TE) (f:Str):TS:=fun D σ H=>tv σ H fun y H1=>ta σ H1 fun x H2=>∃ a C dx fs,x=.ref a∧H2 a=some (.ins C dx fs)∧Cls K C∧z2b K C f∧fs.length<1000 ∧
 D.nx σ (upd H2 a (.ins C dx (putF f y fs)))
def InOp (X:Cx) (op:Operator) (rd:V→V→Hp→VK→Prop):Prop :=
 ∀ (pins:List (Addr × Obj)) (s:Shared) (σ:St) (H:Hp) (x y:V) (u v:Value) (Q:VK),Inv X pins σ H s→RelV x u→RelV y v→rd x y H Q→wpAny (model X.prog X.w) X.A (inplaceOp op u v) (EP X pins σ Q) X.xe s
def sFldAug (K:PySem.W.Frag) (ta tv:TE) (rd:V→V→Hp→VK→Prop) (f:Str):TS:=fun D σ H=>ta σ H fun x H1=>∃ a C dx fs v,x=.ref a∧H1 a=some (.ins C dx fs)∧Cls K C∧z2b K C f∧fs.lookup f=some v ∧
 tv σ H1 fun y H2=>rd v y H2 fun z H3=>∃ dx' fs',H3 a=some (.ins C dx' fs')∧fs'.length<1000∧D.nx σ (upd H3 a (.ins C dx' (putF f z fs')))
section
variable {X:Cx} {o e value:Expr} {f:Str} {pos pos' tpos:Pos} {ta tv:TE}
theorem z10 (he:PE X e ta) (hb:attributeBase e f X.env (eval e X.env)=eval e X.env):PE X (.Attribute e f pos) (tFld X.K ta f):=by
 intro pins s σ H Q I h
 refine attr_of hb (thn (he pins s σ H _ I h) fun u s1 ⟨x,H1,I1,rx,a,C,dx,fs,v,ex,ea,c,n,l,q⟩=>?_)
 subst ex
 obtain rfl:u=Value.ref a:=rx
 exact getattr_ok I1 ea c n l fun u' s2 I2 ru=>⟨v,H1,I2,ru,q⟩
theorem ps_fld (ha:PE X o ta) (hv:PE X value tv) (hs:swapsWith value (some (.Attribute o f pos')) pos.line X.env=pure false):PS X (.Assign [.Attribute o f pos'] value pos) (sFld X.K ta tv f):=by
 intro pins s σ H D I h
 refine plainObj_wpAny_Assign_Attribute (thn (hv pins s σ H _ I h) fun u s1 ⟨y,H1,I1,ry,q⟩=>thn (ha pins s1 σ H1 _ I1 q) fun ov s2 ⟨x,H2,I2,rx,a,C,dx,fs,ex,ea,c,n,l,q2⟩=>?_) hs
 subst ex
 obtain rfl:ov=Value.ref a:=rx
 exact setattr_ok I2 ea c n l ry fun s3 I3=>⟨σ,_,I3,q2⟩
theorem ps_fldaug {op:Operator} {rd:V→V→Hp→VK→Prop} (ha:PE X o ta) (hv:PE X value tv) (hop:InOp X op rd):PS X (.AugAssign (.Attribute o f tpos) op value pos) (sFldAug X.K ta tv rd f):=by
 intro pins s σ H D I h
 refine wpAny_AugAssign_AttributeAny (thn (ha pins s σ H _ I h) fun ov s1 ⟨x,H1,I1,rx,a,C,dx,fs,v,ex,ea,c,n,l,q⟩=>?_)
 subst ex
 obtain rfl:ov=Value.ref a:=rx
 refine getattr_ok I1 ea c n l fun u s2 I2 ru=>thn (hv pins s2 σ H1 _ I2 q) fun w3 s3 ⟨y,H2,I3,ry,q3⟩=>thn (hop pins s3 σ H2 v y u w3 _ I3 ru ry q3) fun w4 s4 ⟨z,H3,I4,rz,dx',fs',ea',l',q4⟩=>?_
 exact setattr_ok I4 ea' c n l' rz fun s5 I5=>⟨σ,_,I5,q4⟩
def rAdd:V→V→Hp→VK→Prop:=fun x y H Q=>∃ i j,x=.int i∧y=.int j∧Q (.int (i+j)) H
def rSub:V→V→Hp→VK→Prop:=fun x y H Q=>∃ i j,x=.int i∧y=.int j∧Q (.int (i - j)) H
theorem in_add:InOp X .Add rAdd:=by
 rintro pins s σ H x y u v Q I rx ry ⟨i,j,rfl,rfl,q⟩
 obtain ⟨t,rfl⟩:=(show ∃ t,u=Value.int i t from rx)
 obtain ⟨t',rfl⟩:=(show ∃ t',v=Value.int j t' from ry)
 exact PyProof.Rows.iadd_int ⟨.int (i+j),H,I.tok _,⟨_,rfl⟩,q⟩
theorem in_sub:InOp X .Sub rSub:=by
 rintro pins s σ H x y u v Q I rx ry ⟨i,j,rfl,rfl,q⟩
 obtain ⟨t,rfl⟩:=(show ∃ t,u=Value.int i t from rx)
 obtain ⟨t',rfl⟩:=(show ∃ t',v=Value.int j t' from ry)
 exact PyProof.Rows.isub_int ⟨.int (i - j),H,I.tok _,⟨_,rfl⟩,q⟩
theorem methcall_of {pl:Sem Bool} {m:Str} {apos:Pos} {args:List Expr} {pins:List (Addr × Obj)} {s:Shared} {σ:St} {H:Hp} {Q:Value→Shared→Prop} {te:TE} (he:PE X e te) (I:Inv X pins σ H s)
  (h:te σ H fun x H1=>∃ a C dx fs g,x=.ref a∧H1 a=some (.ins C dx fs)∧Cls X.K C∧Meth X.K C m g∧fs.lookup m=none ∧
   ∀ s1,Inv X pins σ H1 s1→wpAny (model X.prog X.w) X.A (callWith pos (.ref g) [.ref a] (backTo pos (starEach args X.env)) (backToKw pos (keywordEach [] X.env))) Q X.xe s1)
  (ht:eval (.Call (.Attribute e m apos) args [] pos) X.env=(do
   let ov ← eval e X.env
   standAt apos.atName
   let (f,first) ← holding [ov] (getMethod ov m pl)
   callWith pos f first (backTo pos (starEach args X.env)) (backToKw pos (keywordEach [] X.env)))) :
  wpAny (model X.prog X.w) X.A (eval (.Call (.Attribute e m apos) args [] pos) X.env) Q X.xe s:=by
 refine PySem.W.methodCall_KW (pl:=pl) (thn (he pins s σ H _ I h) fun u s1 ⟨x,H1,I1,rx,a,C,dx,fs,g,ex,ea,c,k,l,q⟩=>?_) ht
 subst ex
 obtain rfl:u=Value.ref a:=rx
 exact getmeth_ok I1 ea c k l (q s1 I1)
end
section
variable {X:Cx} {pins:List (Addr × Obj)} {σ:St} {H:Hp} {s:Shared} {A:Around} {E:Value→Shared→Prop} {Q:Value→Shared→Prop} {c:Value} {b:Bool}
inductive TyOf (K:PySem.W.Frag) (H:Hp):V→Value→Prop where
 | non:TyOf K H .non (.type "NoneType")
 | bl (x:Bool):TyOf K H (.bl x) (.type "bool")
 | int (i:Int):TyOf K H (.int i) (.type "int")
 | str (x:Str):TyOf K H (.str x) (.type "str")
 | flt (x:UInt64):TyOf K H (.flt x) (.type "float")
 | lst {a:Addr} {xs:List V} (e:H a=some (.lst xs)):TyOf K H (.ref a) (.type "list")
 | frz {a:Addr} {o:Obj} {xs:List V} (e:H a=some (.frz o (.lst xs))):TyOf K H (.ref a) (.type "list")
 | tup {a:Addr} {xs:List V} (e:H a=some (.tup xs)):TyOf K H (.ref a) (.type "tuple")
 | dK {a:Addr} {kvs:List (Key × V)} (e:H a=some (.dK kvs)):TyOf K H (.ref a) (.type "dict")
 | dT {a:Addr} {kvs:List (List Key × V)} (e:H a=some (.dT kvs)):TyOf K H (.ref a) (.type "dict")
 | ins {a C dx:Addr} {fs:List (Str × V)} (e:H a=some (.ins C dx fs)) (cl:Cls K C) (ha:PySem.W.findIn K (.ref C) "__class__"=some (some (.builtin "object.__class__")))
   (hn:PySem.W.specialIn K (.builtin "object.__class__") "__get__"=some (some (.builtin "getset_descriptor.__get__"))) (htk:PySem.W.takesIn K (.builtin "object.__class__")=some true)
   (hm:PySem.W.mroIn K C (.type "object")=some true):TyOf K H (.ref a) (.ref C)
theorem isinst_ok {x:V} {u t:Value} (I:Inv X pins σ H s) (rx:RelV x u) (ty:TyOf X.K H x t) (e:PySem.W.kitOne X.K t c=some b) (h:∀ tk,Q (.bool b) { s with toks:=tk }) :
  wpAny (model X.prog X.w) A (call (.builtin "isinstance") [u,c]) Q E s:=by
 cases ty with
 | non=>cases (show u=Value.none from rx); exact PySem.W.kia_one PySem.W.kitx_none I.kIn True.intro e (fun z=>nomatch z) h
 | bl y=>cases (show u=Value.bool y from rx); exact PySem.W.kia_one PySem.W.kitx_bool I.kIn True.intro e (fun z=>nomatch z) h
 | int i=>obtain ⟨t,q⟩:=(show ∃ t,u=Value.int i t from rx); cases q; exact PySem.W.kia_one PySem.W.kitx_int I.kIn True.intro e (fun z=>nomatch z) h
 | str y=>obtain ⟨t,q⟩:=(show ∃ t,u=Value.str y t from rx); cases q; exact PySem.W.kia_one PySem.W.kitx_str I.kIn True.intro e (fun z=>nomatch z) h
 | flt y=>obtain ⟨t,q⟩:=(show ∃ t,u=Value.float y t from rx); cases q; exact PySem.W.kia_one PySem.W.kitx_float I.kIn True.intro e (fun z=>nomatch z) h
 | @lst a xs ea =>
  cases (show u=Value.ref a from rx)
  obtain ⟨_,_,n,_,h1⟩:=(show z1n X.prog X.w H s.heap a (.lst xs) from I.hok a _ ea)
  exact PySem.W.kia_one PySem.W.kitx_list I.kIn ⟨_,h1,rfl⟩ e (fun z=>nomatch z) h
 | @frz a ob xs ea =>
  cases (show u=Value.ref a from rx)
  obtain ⟨_,_,_,n,_,h1⟩:=(show z1n X.prog X.w H s.heap a (.frz ob (.lst xs)) from I.hok a _ ea)
  exact PySem.W.kia_one PySem.W.kitx_list I.kIn ⟨_,h1,rfl⟩ e (fun z=>nomatch z) h
 | @tup a xs ea =>
  cases (show u=Value.ref a from rx)
  obtain ⟨_,_,_,p⟩:=(show z1n X.prog X.w H s.heap a (.tup xs) from I.hok a _ ea)
  obtain ⟨o,h1,h2,_⟩:=p
  exact PySem.W.kia_one PySem.W.kitx_tuple I.kIn ⟨o,h1,h2⟩ e (fun z=>nomatch z) h
 | @dK a kvs ea =>
  cases (show u=Value.ref a from rx)
  obtain ⟨_,_,vs,_,p⟩:=(show z1n X.prog X.w H s.heap a (.dK kvs) from I.hok a _ ea)
  obtain ⟨o,es,ep,h1,h2,_⟩:=p
  exact PySem.W.kia_one PySem.W.kitx_dict I.kIn ⟨o,h1,h2.1⟩ e (fun z=>nomatch z) h
 | @dT a kvs ea =>
  cases (show u=Value.ref a from rx)
  obtain ⟨_,_,xs,_,o,es,ep,h1,h2,_⟩:=(show z1n X.prog X.w H s.heap a (.dT kvs) from I.hok a _ ea)
  exact PySem.W.kia_one PySem.W.kitx_dict I.kIn ⟨o,h1,h2.1⟩ e (fun z=>nomatch z) h
 | @ins a C dx fs ea cl ha hn htk hm =>
  cases (show u=Value.ref a from rx)
  obtain ⟨mA,O,_⟩:=ins_get I.hok ea
  obtain ⟨od,J,_⟩:=O.look
  exact PySem.W.kia_one (PySem.W.kitx_own (cl.get _) cl.hd ha hn htk hm) I.kIn J e (fun z=>nomatch z) h
end
end L2
namespace L2
open PySem PySem.Spec PyProof.Rows
structure Room (k:Nat) (A:Around):Prop where
 hd:A.handled=none
 dp:A.depth+3 * k+5<recursionLimit
 un:A.units+16 * k+200<cLine
theorem Room.mono {j k:Nat} {A:Around} (r:Room k A) (h:j≤k):Room j A:=⟨r.hd,by have:=r.dp; omega,by have:=r.un; omega⟩
theorem Room.deeper {k:Nat} {A:Around} (r:Room (k+1) A) (env:Env):Room k (A.deeper env) :=
 ⟨r.hd,by have:=r.dp; show A.depth+1+3 * k+5<_; omega,by have:=r.un; show A.units+3+16 * k+200<_; omega⟩
theorem make_depth {A:Around} {C:Addr} {us:List Value} {kw:List (Str × Value)}:(A.under (.builtin "type.__call__" ⟨.ref C::us,kw⟩)).depth=A.depth+1:=by
 first | rfl | simp [Around.under,Code.weight,Code.isCreation,Code.isGuard,Code.isCaller,Code.frames,Code.isFrame,guardIds]
theorem make_units {A:Around} {C:Addr} {us:List Value} {kw:List (Str × Value)}:(A.under (.builtin "type.__call__" ⟨.ref C::us,kw⟩)).units=A.units+1:=by
 first | rfl | simp [Around.under,Code.cUnits,Code.frames,Code.isFrame]
theorem Room.make {k:Nat} {A:Around} (r:Room (k+1) A) (C:Addr) (us:List Value) (kw:List (Str × Value)):Room k (A.under (.builtin "type.__call__" ⟨.ref C::us,kw⟩)) :=
 ⟨r.hd,by have:=r.dp; rw [make_depth]; omega,by have:=r.un; rw [make_units]; omega⟩
theorem Room.depth {k:Nat} {A:Around} (r:Room k A):A.depth<recursionLimit:=by have:=r.dp; omega
theorem Room.units {k:Nat} {A:Around} (r:Room k A):A.units+64<cLine:=by have:=r.un; omega
def tNil:TA:=fun _ H Q=>Q [] H
def tCons (ta:TE) (tr:TA):TA:=fun σ H Q=>ta σ H fun x H1=>tr σ H1 fun xs H2=>Q (x::xs) H2
section
variable {X:Cx} {e:Expr} {es:List Expr} {te:TE} {t:TA} {pos:Pos}
theorem z05:PA X [] tNil:=fun _ _ _ _ H Q I h=>Calls.spliced_nil ⟨[],H,I,.nil,h⟩
theorem z00 (ha:PE X e te) (hr:PA X es t) (hs:starEach (e::es) X.env=(false,eval e X.env)::starEach es X.env:=by rfl):PA X (e::es) (tCons te t):=by
 intro pos pins s σ H Q I h
 rw [hs]
 show wpAny _ _ (spliced ((false,eval e X.env)::backTo pos (starEach es X.env))) _ _ s
 refine Calls.spliced_cons (thn (ha pins s σ H _ I h) fun u s1 ⟨x,H1,I1,r1,q1⟩=>?_)
 exact thn (hr pos pins s1 σ H1 _ I1 q1) fun us s2 ⟨xs,H2,I2,r2,q2⟩=>⟨x::xs,H2,I2,.cons r1 r2,q2⟩
def tTup (t:TA):TE:=fun σ H Q=>t σ H fun xs H1=>xs.length≤sizeLine∧∀ p,H1 p=none→Q (.ref p) (upd H1 p (.tup xs))
def tLst (t:TA):TE:=fun σ H Q=>t σ H fun xs H1=>xs.length≤sizeLine∧∀ p,H1 p=none→Q (.ref p) (upd H1 p (.lst xs))
theorem z1p {x1} (h:PA X es t):PE X (.Tuple es x1 pos) (tTup t):=by
 intro pins s σ H Q I hq
 refine wpAny_Tuple_spliced (thn (h pos pins s σ H _ I hq) fun us s1 ⟨xs,H1,I1,r,z,q⟩=>⟨by rw [← r.length]; exact z,?_⟩)
 have hf:H1 s1.heap.objs.size=none:=I1.hok.fresh (Nat.le_refl _)
 refine ⟨.ref s1.heap.objs.size,upd H1 s1.heap.objs.size (.tup xs),I1.laid (t':=s1.toks) (fun b u e=>Heap.get?_push_of_some _ e) (Nat.le_refl _) ?_,rfl,q _ hf⟩
 exact ⟨z,us,r,⟨_,Heap.get?_push_size _ rfl,rfl,_,rfl⟩⟩
theorem z17 (h:PA X es t):PE X (.List es pos) (tLst t):=by
 intro pins s σ H Q I hq
 refine wpAny_List_spliced (thn (h pos pins s σ H _ I hq) fun us s1 ⟨xs,H1,I1,r,z,q⟩=>⟨by rw [← r.length]; exact z,?_⟩)
 have hf:H1 s1.heap.objs.size=none:=I1.hok.fresh (Nat.le_refl _)
 refine ⟨.ref s1.heap.objs.size,upd H1 s1.heap.objs.size (.lst xs),I1.laid (t':=s1.toks) (fun b u e=>Heap.get?_push_of_some _ e) (Nat.le_refl _) ?_,rfl,q _ hf⟩
 exact ⟨z,us,0,r,Heap.get?_push_size _ rfl⟩
end
abbrev Sp:=List V→Hp→VK→XK→Prop
abbrev CXT:=List Env→Hp→Shared→XK→Value→Shared→Prop
structure Env0 (P:Program) (w:World) (K:PySem.W.Frag) (mg:Str→Option Value) (base:Heap) (A:Around) (outer:List Env) (s:Shared) (H:Hp):Prop where
 frames:A.frames=some outer
 mod:Mod K mg base
 bs:∀ b o,base.get? b=some o→s.heap.get? b=some o∧H b=none
 bsz:base.objs.size≤s.heap.objs.size
 funs:s.heap.FunFrames base outer
 frf:∀ b∈frs outer,H b=none
 hok:HOk P w H s.heap
 bare:AllBare s.gens
def CE (outer:List Env) (P:Program) (w:World) (H:Hp) (s:Shared) (Q:VK) (u:Value) (s':Shared):Prop :=
 ∃ v H',s'.os=s.os∧AllBare s'.gens∧Un (frs outer) [] H H' s.heap s'.heap∧HOk P w H' s'.heap∧RelV v u∧Q v H'
def CR (CX:CXT) (outer:List Env) (P:Program) (w:World) (H:Hp) (s:Shared) (Q:VK) (E:XK) (r:Result) (s':Shared):Prop :=
 match r with
 | .ok (.ret u)=>CE outer P w H s Q u s'
 | .ok _=>False
 | .error e=>CX outer H s E e s'
structure FnOk (P:Program) (w:World) (K:PySem.W.Frag) (mg:Str→Option Value) (base:Heap) (CX:CXT) (k:Nat) (f:Addr) (fd:FuncData) (ps:List Str) (sp:Sp):Prop where
 len:∀ vs H Q E,sp vs H Q E→vs.length=ps.length
 run:∀ (A:Around) (outer:List Env) (s:Shared) (H:Hp) (args:Args) (us:List Value) (vs:List V) (Q:VK) (E:XK),Room k A→Env0 P w K mg base A outer s H→BindsTo s fd args (ps.zip us)→Vals vs us→sp vs H Q E →
  codeAny (model P w) A (.call (.ref f) args) (CR CX outer P w H s Q E) s
theorem Env0.make {P:Program} {w:World} {K:PySem.W.Frag} {mg:Str→Option Value} {base:Heap} {A:Around} {outer:List Env} {s:Shared} {H:Hp} (e:Env0 P w K mg base A outer s H) (C:Addr) (us:List Value) (kw:List (Str × Value)) :
  Env0 P w K mg base (A.under (.builtin "type.__call__" ⟨.ref C::us,kw⟩)) outer s H:=⟨by first | exact e.frames | (simpa [Around.under,Code.envs,Code.isFrame,pushEnvs] using e.frames),e.mod,e.bs,e.bsz,e.funs,e.frf,e.hok,e.bare⟩
section
variable {X:Cx} {pins:List (Addr × Obj)} {σ:St} {H:Hp} {s s':Shared}
theorem Inv.env0 (I:Inv X pins σ H s):Env0 X.prog X.w X.K X.mg X.base X.A X.stack s H :=
 ⟨I.ok.frames,I.ok.mod,I.bs,Nat.le_trans I.ok.bsz I.sz,I.stack,I.stkFree,I.hok,I.bare⟩
theorem Inv.after {Q:VK} {u:Value} (I:Inv X pins σ H s) (h:CE X.stack X.prog X.w H s Q u s'):EP X pins σ Q u s':=by
 obtain ⟨v,H',os,bare,un,hok,r,q⟩:=h
 obtain ⟨hh,g,d,t,os'⟩:=s'
 obtain rfl:os'=s.os:=os
 exact ⟨v,H',I.call (h':=hh) (g':=g) (d':=d) (t':=t) (ch:=[]) un hok bare (fun b z=>absurd z (by simp)),r,q⟩
end
def tCall (sp:Sp) (dvs:List V) (E:XK) (t:TA):TE:=fun σ H Q=>t σ H fun vs H1=>sp (vs++dvs) H1 Q E
def tMeth (C:Addr) (m:Str) (sp:Sp) (dvs:List V) (E:XK) (ta:TE) (t:TA):TE:=fun σ H Q=>ta σ H fun x H1=>∃ a dx fs,x=.ref a∧H1 a=some (.ins C dx fs)∧fs.lookup m=none ∧
 t σ H1 fun vs H2=>sp (x::(vs++dvs)) H2 Q E
def tMake (C:Addr) (sp:Sp) (dvs:List V) (E:XK) (t:TA):TE:=fun σ H Q=>t σ H fun vs H1=>∀ x dx,H1 x=none→H1 dx=none→dx≠x →
 sp (.ref x::(vs++dvs)) (upd (upd H1 dx (.own x)) x (.ins C dx [])) (fun v H2=>v=.non∧Q (.ref x) H2) E
def z0r (K:PySem.W.Frag) (fd:FuncData) (ps:List Str) (ds:List Value):Prop :=
 ∀ (s:Shared) (us:List Value),K.In s.heap→(us++ds).length=ps.length→BindsTo s fd ⟨us,[]⟩ (ps.zip (us++ds))
theorem z0r.all {K:PySem.W.Frag} {fd:FuncData} {ps:List Str} (h:∀ us:List Value,us.length=ps.length→bindArgs fd ⟨us,[]⟩=pure (ps.zip us)):z0r K fd ps []:=fun s us _ hl=>by
 rw [List.append_nil] at hl ⊢
 exact .of_eq (h us hl)
def Passes (CX:CXT) (X:Cx) (E:XK):Prop:=∀ (pins:List (Addr × Obj)) (σ:St) (H:Hp) (s:Shared) (e:Value) (s':Shared),Inv X pins σ H s→CX X.stack H s E e s'→X.xe e s'
section
variable {X:Cx} {CX:CXT} {k:Nat} {f C:Addr} {fd:FuncData} {ps:List Str} {sp:Sp} {dvs:List V} {ds:List Value} {E:XK} {x m:Str} {p pos apos:Pos} {e o:Expr} {es:List Expr} {ta:TE} {t:TA}
theorem run_fn {pins:List (Addr × Obj)} {σ:St} {H:Hp} {s:Shared} {Q:VK} {us:List Value} {vs:List V} (F:FnOk X.prog X.w X.K X.mg X.base CX k f fd ps sp) (hr:Room k X.A) (hb:z0r X.K fd ps ds) (hd:Vals dvs ds) (hx:Passes CX X E)
  (I:Inv X pins σ H s) (r:Vals vs us) (h:sp (vs++dvs) H Q E):wpAny (model X.prog X.w) X.A (call (.ref f) us) (EP X pins σ Q) X.xe s:=by
 have r2:Vals (vs++dvs) (us++ds):=r.append hd
 have hl:(us++ds).length=ps.length:=by rw [← r2.length]; exact F.len _ _ _ _ h
 refine wpAny_call (codeAny_mono (F.run X.A X.stack s H ⟨us,[]⟩ (us++ds) (vs++dvs) Q E hr I.env0 (hb s us I.kIn hl) r2 h) fun r s' hq=>?_)
 cases r with
 | error e=>exact hx pins σ H s e s' I hq
 | ok fl =>
  cases fl with
  | ret u=>exact I.after hq
  | next=>exact False.elim hq
  | brk=>exact False.elim hq
  | cont=>exact False.elim hq
theorem z0m (F:FnOk X.prog X.w X.K X.mg X.base CX k f fd ps sp) (hr:Room k X.A) (hg:Gl X x) (hm:X.mg x=some (.ref f)) (hk:PySem.W.keepIn X.K (.ref f)=true) (hb:z0r X.K fd ps ds) (hd:Vals dvs ds) (hx:Passes CX X E)
  (ha:PA X (e::es) t) (hdb:(x == ("__debug__":Str))=false:=by decide) (he:starEach (e::es) X.env=(false,eval e X.env)::starEach es X.env:=by rfl) (hpl:(backTo pos (starEach es X.env)).any (·.1)=false:=by rfl) :
  PE X (.Call (.Name x p) (e::es) [] pos) (tCall sp dvs E t):=by
 intro pins s σ H Q I h
 refine wpAny_Call_Name_kw (ld_glob I hg hm ?_ hdb)
 refine PySem.W.callWith_K (h₀:=X.base) I.ok.mod.kin hk (thn (ha pos pins s σ H _ I h) fun us s1 ⟨vs,H1,I1,r,q⟩=>⟨I1.kIn,?_⟩) he hpl
 exact run_fn F hr hb hd hx I1 r q
theorem z11 {pl:Sem Bool} (he:PE X o ta) (c:Cls X.K C) (hm:Meth X.K C m f) (F:FnOk X.prog X.w X.K X.mg X.base CX k f fd ps sp) (hr:Room k X.A) (hb:z0r X.K fd ps ds) (hd:Vals dvs ds) (hx:Passes CX X E) (ha:PA X (e::es) t)
  (hst:starEach (e::es) X.env=(false,eval e X.env)::starEach es X.env:=by rfl) (hpl:(backTo pos (starEach es X.env)).any (·.1)=false:=by rfl)
  (ht:eval (.Call (.Attribute o m apos) (e::es) [] pos) X.env=(do
   let ov ← eval o X.env
   standAt apos.atName
   let (f,first) ← holding [ov] (getMethod ov m pl)
   callWith pos f first (backTo pos (starEach (e::es) X.env)) (backToKw pos (keywordEach [] X.env))):=by rfl) :
  PE X (.Call (.Attribute o m apos) (e::es) [] pos) (tMeth C m sp dvs E ta t):=by
 intro pins s σ H Q I h
 refine PySem.W.methodCall_KW (pl:=pl) (thn (he pins s σ H _ I h) fun u s1 ⟨x,H1,I1,rx,a,dx,fs,ex,ea,l,q⟩=>?_) ht
 subst ex
 obtain rfl:u=Value.ref a:=rx
 refine getmeth_ok I1 ea c hm l ?_
 refine PySem.W.callWith_K (first:=[.ref a]) (h₀:=X.base) I.ok.mod.kin hm.kp (thn (ha pos pins s1 σ H1 _ I1 q) fun us s2 ⟨vs,H2,I2,r,q2⟩=>⟨I2.kIn,?_⟩) hst hpl
 exact run_fn (us:=.ref a::us) (vs:=.ref a::vs) F hr hb hd hx I2 (.cons rfl r) q2
theorem pe_meth0 {pl:Sem Bool} (he:PE X o ta) (c:Cls X.K C) (hm:Meth X.K C m f) (F:FnOk X.prog X.w X.K X.mg X.base CX k f fd ps sp) (hr:Room k X.A) (hb:z0r X.K fd ps ds) (hd:Vals dvs ds) (hx:Passes CX X E)
  (ht:eval (.Call (.Attribute o m apos) [] [] pos) X.env=(do
   let ov ← eval o X.env
   standAt apos.atName
   let (f,first) ← holding [ov] (getMethod ov m pl)
   callWith pos f first (backTo pos (starEach [] X.env)) (backToKw pos (keywordEach [] X.env))):=by rfl) :
  PE X (.Call (.Attribute o m apos) [] [] pos) (tMeth C m sp dvs E ta tNil):=by
 intro pins s σ H Q I h
 refine PySem.W.methodCall_KW (pl:=pl) (thn (he pins s σ H _ I h) fun u s1 ⟨x,H1,I1,rx,a,dx,fs,ex,ea,l,q⟩=>?_) ht
 subst ex
 obtain rfl:u=Value.ref a:=rx
 refine getmeth_ok I1 ea c hm l ?_
 exact PySem.W.callWith_K0 (first:=[.ref a]) I1.kIn hm.kp (run_fn (us:=[.ref a]) (vs:=[.ref a]) F hr hb hd hx I1 (.cons rfl .nil) q)
structure Mk (K:PySem.W.Frag) (C f:Addr):Prop where
 makes:PySem.W.makesIn K C=true
 init:PySem.W.findIn K (.ref C) "__init__"=some (some (.ref f))
 fn:PySem.W.isFn K (.ref f)=true
 kp:PySem.W.keepIn K (.ref C)=true
theorem run_make {pins:List (Addr × Obj)} {σ:St} {H:Hp} {s:Shared} {Q:VK} {us:List Value} {vs:List V} (M:Mk X.K C f) (F:FnOk X.prog X.w X.K X.mg X.base CX k f fd ps sp) (hr:Room (k+1) X.A) (hb:z0r X.K fd ps ds) (hd:Vals dvs ds)
  (hx:Passes CX X E) (I:Inv X pins σ H s) (r:Vals vs us)
  (h:∀ x dx,H x=none→H dx=none→dx≠x→sp (.ref x::(vs++dvs)) (upd (upd H dx (.own x)) x (.ins C dx [])) (fun v H2=>v=.non∧Q (.ref x) H2) E) :
  wpAny (model X.prog X.w) X.A (call (.ref C) us) (EP X pins σ Q) X.xe s:=by
 have hq:=h (s.heap.objs.size+1) s.heap.objs.size (I.hok.fresh (Nat.le_succ _)) (I.hok.fresh (Nat.le_refl _)) (Nat.ne_of_lt (Nat.lt_succ_self _))
 have I2:=Inv.made (C:=C) I
 have r2:Vals (V.ref (s.heap.objs.size+1)::(vs++dvs)) (Value.ref (s.heap.objs.size+1)::(us++ds)):=.cons rfl (r.append hd)
 have hl:(Value.ref (s.heap.objs.size+1)::us++ds).length=ps.length:=by
  have e:=r2.length
  rw [F.len _ _ _ _ hq] at e
  exact e.symm
 refine wpAny_call (make_map (f:=f) I.kIn M.makes M.init (beq_iff_eq.mp M.fn) (codeAny_mono (F.run _ X.stack _ _ ⟨Value.ref (s.heap.objs.size+1)::us,[]⟩ (Value.ref (s.heap.objs.size+1)::(us++ds)) _ _ E (hr.make C us [])
  (I2.env0.make C us []) (hb _ (Value.ref (s.heap.objs.size+1)::us) I2.kIn hl) r2 hq) fun r s' hq'=>?_))
 cases r with
 | error e=>exact hx pins σ _ _ e s' I2 hq'
 | ok fl =>
  cases fl with
  | ret u =>
   obtain ⟨v,H',I3,rv,ev,q3⟩:=I2.after hq'
   subst ev
   exact ⟨rv,⟨V.ref (s.heap.objs.size+1),H',I3,rfl,q3⟩⟩
  | next=>exact False.elim hq'
  | brk=>exact False.elim hq'
  | cont=>exact False.elim hq'
theorem pe_make (M:Mk X.K C f) (F:FnOk X.prog X.w X.K X.mg X.base CX k f fd ps sp) (hr:Room (k+1) X.A) (hg:Gl X x) (hm:X.mg x=some (.ref C)) (hb:z0r X.K fd ps ds) (hd:Vals dvs ds) (hx:Passes CX X E)
  (ha:PA X (e::es) t) (hdb:(x == ("__debug__":Str))=false:=by decide) (he:starEach (e::es) X.env=(false,eval e X.env)::starEach es X.env:=by rfl) (hpl:(backTo pos (starEach es X.env)).any (·.1)=false:=by rfl) :
  PE X (.Call (.Name x p) (e::es) [] pos) (tMake C sp dvs E t):=by
 intro pins s σ H Q I h
 refine wpAny_Call_Name_kw (ld_glob I hg hm ?_ hdb)
 refine PySem.W.callWith_K (h₀:=X.base) I.ok.mod.kin M.kp (thn (ha pos pins s σ H _ I h) fun us s1 ⟨vs,H1,I1,r,q⟩=>⟨I1.kIn,?_⟩) he hpl
 exact run_make M F hr hb hd hx I1 r q
end
section
variable {X:Cx} {CX:CXT} {k:Nat} {f C:Addr} {fd:FuncData} {ps ks:List Str} {sp:Sp} {E:XK} {x m:Str} {p pos apos kpos:Pos} {e o:Expr} {es:List Expr} {kws:List Keyword} {te ta:TE} {t tk:TA} {nm:Option Str}
structure KBinds (K:PySem.W.Frag) (fd:FuncData) (ps ks:List Str) (g:List Value→List Value→List Value) (gV:List V→List V→List V):Prop where
 to:∀ (s:Shared) (us ws:List Value),K.In s.heap→(g us ws).length=ps.length→BindsTo s fd ⟨us,ks.zip ws⟩ (ps.zip (g us ws))
 rel:∀ {vs:List V} {us:List Value} {zs:List V} {ws:List Value},Vals vs us→Vals zs ws→Vals (gV vs zs) (g us ws)
variable {g:List Value→List Value→List Value} {gV:List V→List V→List V}
end
structure z0h (N P:List Str) (sc:Scope):Prop where
 kind:sc.kind=.function
 co:sc.isCoroutine=false
 gen:sc.isGenerator=false
 nd:N.Nodup
 pre:N.take P.length=P
 par:∀ x∈P,sc.names.lookup x=some .local∨sc.names.lookup x=some .cell
 nofree:∀ y∈sc.names,y.2≠.free
theorem bindL_out {kindOf:Str→Option NameKind} {x:Str}:∀ {binds:List (Str × Value)} {m:Str→Option Value},(∀ v,(x,v)∉binds)→bindL kindOf binds m x=m x
 | [],_,_=>rfl
 | (n,v)::r,m,h=>by
  unfold bindL
  rw [bindL_out fun w hw=>h w (List.mem_cons_of_mem _ hw)]
  split
  ·have:x≠n:=by rintro rfl; exact h v List.mem_cons_self
   simp [this]
  ·rfl
theorem bindC_out {kindOf:Str→Option NameKind} {x:Str}:∀ {binds:List (Str × Value)} {m:Str→Option Value},(∀ v,(x,v)∉binds)→bindC kindOf binds m x=m x
 | [],_,_=>rfl
 | (n,v)::r,m,h=>by
  unfold bindC
  rw [bindC_out fun w hw=>h w (List.mem_cons_of_mem _ hw)]
  split
  ·rfl
  ·have:x≠n:=by rintro rfl; exact h v List.mem_cons_self
   simp [this]
theorem bindL_get {kindOf:Str→Option NameKind} {x:Str} {v:Value}:∀ {P:List Str} {vs:List Value} {i:Nat} {m:Str→Option Value},P.Nodup→P[i]?=some x→vs[i]?=some v→kindOf x=some .local →
  bindL kindOf (P.zip vs) m x=some v
 | [],_,_,_,_,h,_,_=>by simp at h
 | _::_,[],_,_,_,_,h,_=>by simp at h
 | p::P,w::vs,0,m,nd,h1,h2,hk=>by
  simp at h1 h2; subst h1; subst h2
  show bindL kindOf ((p,w)::P.zip vs) m p=_
  unfold bindL
  rw [bindL_out fun v hv=>(List.nodup_cons.mp nd).1 (List.of_mem_zip hv).1,if_pos hk]
  simp
 | p::P,w::vs,i+1,m,nd,h1,h2,hk=>by
  show bindL kindOf ((p,w)::P.zip vs) m x=_
  unfold bindL
  exact bindL_get (i:=i) (List.nodup_cons.mp nd).2 (by simpa using h1) (by simpa using h2) hk
theorem bindC_get {kindOf:Str→Option NameKind} {x:Str} {v:Value}:∀ {P:List Str} {vs:List Value} {i:Nat} {m:Str→Option Value},P.Nodup→P[i]?=some x→vs[i]?=some v→kindOf x≠some .local →
  bindC kindOf (P.zip vs) m x=some v
 | [],_,_,_,_,h,_,_=>by simp at h
 | _::_,[],_,_,_,_,h,_=>by simp at h
 | p::P,w::vs,0,m,nd,h1,h2,hk=>by
  simp at h1 h2; subst h1; subst h2
  show bindC kindOf ((p,w)::P.zip vs) m p=_
  unfold bindC
  rw [bindC_out fun v hv=>(List.nodup_cons.mp nd).1 (List.of_mem_zip hv).1,if_neg hk]
  simp
 | p::P,w::vs,i+1,m,nd,h1,h2,hk=>by
  show bindC kindOf ((p,w)::P.zip vs) m x=_
  unfold bindC
  exact bindC_get (i:=i) (List.nodup_cons.mp nd).2 (by simpa using h1) (by simpa using h2) hk
def start (N:List Str) (vs:List V):St:=vs.map some++List.replicate (N.length - vs.length) none
def cxOf (CX:CXT) (P:Program) (w:World) (K:PySem.W.Frag) (mg:Str→Option Value) (base:Heap) (N:List Str) (qual:Str) (scope:Scope) (f:Addr) (cd:Value) (A:Around) (outer:List Env) (s:Shared) (H:Hp) (E:XK):Cx where
 prog:=P
 w:=w
 K:=K
 mg:=mg
 base:=base
 A:=A.deeper (envOfC qual scope s.heap.objs.size f cd)
 N:=N
 s₀:=s
 H₀:=H
 env:=envOfC qual scope s.heap.objs.size f cd
 outer:=outer
 stack:=envOfC qual scope s.heap.objs.size f cd::outer
 ex:=[]
 calm:=true
 fn:=fun _=>true
 pn:=[]
 xe:=fun e s'=>wpAny (model P w) (A.deeper (envOfC qual scope s.heap.objs.size f cd)) (leaving (envOfC qual scope s.heap.objs.size f cd) e) (fun _ s''=>CX outer H s E e s'') (fun e' s''=>CX outer H s E e' s'') s'
theorem cell_has {sc:Scope} {n:Nat} {x:Str} (h:sc.names.lookup x=some .cell):∃ c,(cellsFrom n sc.names []).lookup x=some c:=by
 have q:=PySem.W.cellsFrom_some sc.names n [] (.inl h)
 exact Option.isSome_iff_exists.mp q
theorem inv_start {CX:CXT} {P:Program} {w:World} {K:PySem.W.Frag} {mg:Str→Option Value} {base:Heap} {N ps:List Str} {qual:Str} {scope:Scope} {f:Addr} {cd:Value} {A:Around} {outer:List Env} {s s1:Shared} {H:Hp} {E:XK} {us:List Value} {vs:List V}
  (S:z0h N ps scope) (hd:A.handled=none) (e0:Env0 P w K mg base A outer s H) (hl:vs.length=ps.length) (r:Vals vs us)
  (x:InCallC s s.heap.objs.size (bindL (envOfC qual scope s.heap.objs.size f cd).kindOf (ps.zip us) fun _=>none) (cellsFrom (s.heap.objs.size+1) scope.names []) (bindC (envOfC qual scope s.heap.objs.size f cd).kindOf (ps.zip us) fun _=>none) s1) :
  Inv (cxOf CX P w K mg base N qual scope f cd A outer s H E) [] (start N vs) H s1:=by
 have hpl:ps.length≤N.length:=by have:=congrArg List.length S.pre; rw [List.length_take] at this; omega
 obtain ⟨h1,tk,rfl,hk⟩:=x.done
 have noA:∀ b:Addr,b∉(cxOf CX P w K mg base N qual scope f cd A outer s H E).ex:=fun b z=>absurd (show b∈([]:List Addr) from z) (by simp)
 refine ⟨⟨e0.mod,S.kind,rfl,rfl,Nat.le_refl _,fun y z c h1 h2=>?_,fun y hy=>?_,fun y c _ h=>?_,fun _=>hd,Around.frames_deeper e0.frames,.inr ⟨rfl,rfl⟩,fun b z=>absurd z (noA b),e0.bs,e0.bsz,fun b _ _=>noA b,fun b z=>absurd z (noA b),e0.funs,e0.frf⟩,
  rfl,e0.bare,Un.kept hk,⟨_,x.toInCall.ns,fun i y v h1 h2 h3=>?_⟩,fun y c h=>⟨_,x.cell y c h⟩,e0.hok.fresh (Nat.le_refl _),fun y c h=>?_,fun p hp=>absurd (show p∈([]:List (Addr × Obj)) from hp) (by simp),e0.hok.kept hk,?_⟩
 ·exact name_of_addr x.apart (PySem.mem_of_lookup h1) (PySem.mem_of_lookup h2)
 ·have hy:scope.names.lookup y=some .cell∨scope.names.lookup y=some .free:=hy
  rcases hy with hy | hy
  ·exact cell_has hy
  ·exact absurd rfl (S.nofree _ (PySem.mem_of_lookup hy))
 ·exact Nat.le_of_lt (x.above y c (PySem.mem_of_lookup h))
 ·have hi:i<vs.length:=by
   unfold start at h2
   by_cases hi:i<vs.length
   ·exact hi
   ·rw [List.getElem?_append_right (by simpa using hi)] at h2
    rw [List.getElem?_replicate] at h2
    split at h2 <;> cases h2
  have ha:vs[i]?=some v:=by
   unfold start at h2
   rw [List.getElem?_append_left (by simpa using hi),List.getElem?_map] at h2
   cases e:vs[i]? with
   | none=>rw [e] at h2; cases h2
   | some a=>rw [e] at h2; cases h2; rfl
  obtain ⟨u,hu,rv⟩:=r.get ha
  have hp:ps[i]?=some y:=by
   rw [← S.pre,List.getElem?_take_of_lt (by omega)]; exact h1
  have ndP:ps.Nodup:=by rw [← S.pre]; exact S.nd.sublist (List.take_sublist _ _)
  refine ⟨u,rv,?_⟩
  rcases S.par y (List.mem_of_getElem? hp) with k | k
  ·exact .inl ⟨k,bindL_get ndP hp hu k⟩
  ·obtain ⟨c,e⟩:=cell_has (n:=s.heap.objs.size+1) k
   refine .inr ⟨.inl k,c,e,?_⟩
   have q:=x.cell y c e
   rw [bindC_get ndP hp hu (by show scope.names.lookup y≠_; rw [k]; decide)] at q
   exact q
 ·exact e0.hok.fresh (Nat.le_of_lt (x.above y c (PySem.mem_of_lookup h)))
 ·unfold start
  show _=N.length
  rw [List.length_append,List.length_map,List.length_replicate]
  omega
theorem fn_of {CX:CXT} {P:Program} {w:World} {K:PySem.W.Frag} {mg:Str→Option Value} {base:Heap} {k:Nat} {f:Addr} {name qual:Str} {params:Arguments} {body:List Stmt} {scope:Scope} {dV kV doc pm cdv ct oc:Value} {an od:Option Addr}
  {osl:Array (Option Value)} {N ps:List Str} {sp:Sp} (lk:K.lookup f=some ⟨oc,od,.func (PySem.W.fnOf name qual params body scope dV kV doc pm an cdv ct),osl⟩) (hcd:PySem.W.codeIn K cdv qual=true) (S:z0h N ps scope)
  (len:∀ vs H Q E,sp vs H Q E→vs.length=ps.length)
  (hbody:∀ (A:Around) (outer:List Env) (s:Shared) (H:Hp) (vs:List V) (Q:VK) (E:XK),Room k (A.deeper (envOfC qual scope s.heap.objs.size f cdv))→sp vs H Q E →
   ∃ t,PSs (cxOf CX P w K mg base N qual scope f cdv A outer s H E) body t∧t { nx:=fun _ H'=>Q .non H',rt:=Q } (start N vs) H) :
  FnOk P w K mg base CX (k+1) f (PySem.W.fnOf name qual params body scope dV kV doc pm an cdv ct) ps sp:=by
 refine ⟨len,fun A outer s H args us vs Q E hr e0 hb r hsp=>?_⟩
 have hl:=len _ _ _ _ hsp
 have KX:K.In s.heap:=e0.mod.kin.keeps fun b o e=>(e0.bs b o e).1
 have lim:s.heap.NoLimit:=e0.mod.nolimit.keeps fun b o e=>(e0.bs b o e).1
 have hkind:∀ y∈ps.zip us,scope.names.lookup y.1=some .local∨(scope.names.lookup y.1=some .cell∧((cellsFrom (s.heap.objs.size+1) scope.names []).lookup y.1).isSome=true):=fun ⟨n,v⟩ hy=>by
  rcases S.par n (List.of_mem_zip hy).1 with q | q
  ·exact .inl q
  ·exact .inr ⟨q,PySem.W.cellsFrom_some _ _ _ (.inl q)⟩
 refine codeAny_call_function hr.depth (KX _ _ lk) rfl S.co S.gen rfl (PySem.W.codeRec_of KX hcd) (hb _ _ _ _ ?_)
 refine wpAny_newFunctionEnv_cells S.kind hkind fun env he s1 x=>?_
 subst he
 refine ⟨lim.keeps x.toInCall.keep,codeAny_func ?_⟩
 obtain ⟨t,ht,hq⟩:=hbody A outer s H vs Q E (hr.deeper _) hsp
 have I:Inv (cxOf CX P w K mg base N qual scope f cdv A outer s H E) [] (start N vs) H s1:=inv_start S hr.hd e0 hl r x
 refine wpAny_mono (ht [] s1 (start N vs) H _ I hq) (fun fl s' hs=>?_) fun e s' hs=>hs
 have fin:∀ {σ':St} {H':Hp} {v:V} {u:Value},Inv (cxOf CX P w K mg base N qual scope f cdv A outer s H E) [] σ' H' s'→RelV v u→Q v H'→CE outer P w H s Q u s' :=
  fun {σ' H' v u} J rv q=>⟨v,H',J.os,J.bare,J.base,J.hok,rv,q⟩
 cases fl with
 | ret u =>
  obtain ⟨v,σ',H',J,rv,q⟩:=hs
  exact fin J rv q
 | next =>
  obtain ⟨σ',H',J,q⟩:=hs
  exact fin (v:=V.non) (u:=Value.none) J rfl q
 | brk =>
  obtain ⟨_,_,_,q⟩:=hs
  exact False.elim q
 | cont =>
  obtain ⟨_,_,_,q⟩:=hs
  exact False.elim q
end L2
namespace L2
open PySem PySem.Spec PyProof.Rows
section
variable {X:Cx} {x:Str} {p pos:Pos} {e:Expr} {es:List Expr} {t:TA} {id T:String} {r:List V→Hp→VK→Prop}
def tCB (r:List V→Hp→VK→Prop) (t:TA):TE:=fun σ H Q=>t σ H fun vs H1=>r vs H1 Q
theorem z0p (hc:CallR X (.builtin id) r) (hg:Gl X x) (hm:X.mg x=none) (hv:bootBuiltins x=some (.builtin id)) (ha:PA X (e::es) t) (hn:x≠"__name__":=by decide) (hdb:(x == ("__debug__":Str))=false:=by decide)
  (he:starEach (e::es) X.env=(false,eval e X.env)::starEach es X.env:=by rfl) (hpl:(backTo pos (starEach es X.env)).any (·.1)=false:=by rfl):PE X (.Call (.Name x p) (e::es) [] pos) (tCB r t):=by
 intro pins s σ H Q I h
 refine wpAny_Call_Name_kw (ld_blt I hg hm hv ?_ hn hdb)
 exact PyProof.Rows.callWith_builtin1 (thn (ha pos pins s σ H _ I h) fun us s1 ⟨vs,H1,I1,r1,q1⟩=>hc pins s1 σ H1 vs us Q I1 r1 q1) he hpl
theorem z1a (hc:CallR X (.type T) r) (hg:Gl X x) (hm:X.mg x=none) (hv:bootBuiltins x=some (.type T)) (ha:PA X (e::es) t) (hn:x≠"__name__":=by decide) (hdb:(x == ("__debug__":Str))=false:=by decide)
  (he:starEach (e::es) X.env=(false,eval e X.env)::starEach es X.env:=by rfl) (hpl:(backTo pos (starEach es X.env)).any (·.1)=false:=by rfl):PE X (.Call (.Name x p) (e::es) [] pos) (tCB r t):=by
 intro pins s σ H Q I h
 refine wpAny_Call_Name_kw (ld_blt I hg hm hv ?_ hn hdb)
 exact PyProof.Rows.callWith_type1 (thn (ha pos pins s σ H _ I h) fun us s1 ⟨vs,H1,I1,r1,q1⟩=>hc pins s1 σ H1 vs us Q I1 r1 q1) he hpl
end
end L2
namespace HT
open PySem PyProof.Rows
section
open PySem.SeqAt
open PySem.AutoSeq1 (wpAny_loadPart')
open PySem.MeetsSeq PySem.MeetsSeq2 PySem.MeetsSeq3
end
section
variable {prog:Program} {w:World} {A:Around} {E:Value→Shared→Prop} {s:Shared}
def sIx (n d:Nat):Option Int→Nat
 | none=>d
 | some v=>if v<0 then (v+(n:Int)).toNat else min v.toNat n
theorem sIx_none (n d:Nat):sIx n d none=d:=rfl
theorem sIx_nat (n d k:Nat):sIx n d (some (k:Int))=min k n:=by
 show (if (k:Int)<0 then ((k:Int)+(n:Int)).toNat else min (k:Int).toNat n)=min k n
 rw [if_neg (by omega),Int.toNat_natCast]
end
end HT
namespace L2
open PySem PySem.Spec PyProof.Rows
abbrev TO:=St→Hp→(Option Int→Hp→Prop)→Prop
def PO (X:Cx) (e:Option Expr) (t:TO):Prop :=
 ∀ (pins:List (Addr × Obj)) (s:Shared) (σ:St) (H:Hp) (Q:Option Int→Hp→Prop),Inv X pins σ H s→t σ H Q →
  wpAny (model X.prog X.w) X.A (evalPart e X.env) (fun u s'=>∃ o H',Inv X pins σ H' s'∧IsPart u o∧Q o H') X.xe s
def tNoPart:TO:=fun _ H Q=>Q none H
def tPart (t:TE):TO:=fun σ H Q=>t σ H fun x H1=>∃ i,x=.int i∧Q (some i) H1
section
variable {X:Cx} {e:Expr} {te:TE} {lo hi:Option Expr} {tl th:TO} {pos p2:Pos}
theorem po_none:PO X none tNoPart:=by
 intro pins s σ H Q I h
 rw [evalPart_none]
 exact wpAny_pure ⟨none,H,I,.none,h⟩
theorem po_some (h:PE X e te):PO X (some e) (tPart te):=by
 intro pins s σ H Q I hw
 rw [evalPart_some]
 refine thn (h pins s σ H _ I hw) fun u s1 ⟨x,H1,I1,r1,q1⟩=>?_
 obtain ⟨i,rfl,q⟩:=q1
 obtain ⟨t,rfl⟩:=r1
 exact ⟨some i,H1,I1,.int i t,q⟩
def SlR (X:Cx) (r:V→Option Int→Option Int→Hp→VK→Prop):Prop :=
 ∀ (pins:List (Addr × Obj)) (s:Shared) (σ:St) (H:Hp) (x:V) (v vl vu:Value) (lo hi:Option Int) (sl:Addr) (Q:VK),Inv X pins σ H s→RelV x v→s.heap.IsSliceOf sl vl vu .none→IsPart vl lo→IsPart vu hi→r x lo hi H Q →
  ∃ T id,typeLookup (.type T) "__getitem__"=pure (some (.builtin id))∧s.TypeIs v T∧wpAny (model X.prog X.w) X.A (getItem v (.ref sl)) (EP X pins σ Q) X.xe s
def tSl (r:V→Option Int→Option Int→Hp→VK→Prop) (te:TE) (tl th:TO):TE:=fun σ H Q=>te σ H fun x H1=>tl σ H1 fun l H2=>th σ H2 fun u H3=>r x l u H3 Q
theorem pe_slice {r:V→Option Int→Option Int→Hp→VK→Prop} (hr:SlR X r) (he:PE X e te) (hl:PO X lo tl) (hu:PO X hi th):PE X (.Subscript e (.Slice lo hi none p2) pos) (tSl r te tl th):=by
 intro pins s σ H Q I h
 refine Subscript_ (thn (he pins s σ H _ I h) fun v s1 ⟨x,H1,I1,r1,q1⟩=>?_)
 refine wpAny_Slice (thn (hl pins s1 σ H1 _ I1 q1) fun vl s2 ⟨l,H2,I2,pl,q2⟩=>thn (hu pins s2 σ H2 _ I2 q2) fun vu s3 ⟨u,H3,I3,pu,q3⟩=>?_)
 rw [evalPart_none]
 refine wpAny_pure ?_
 have I4:Inv X pins σ H3 { s3 with heap:=s3.heap.push { cls:=.type "slice",data:=.fields #[vl,vu,.none] } }:=I3.kept (t':=s3.toks) fun b ob q=>Heap.get?_push_of_some _ q
 obtain ⟨T,id,hT,ht,hg⟩:=hr pins { s3 with heap:=s3.heap.push { cls:=.type "slice",data:=.fields #[vl,vu,.none] } } σ H3 x v vl vu l u s3.heap.objs.size Q I4 r1 (Heap.IsSliceOf.new ..) pl pu q3
 show wpAny (model X.prog X.w) X.A (subscriptTail e (.Slice lo hi none p2) v (.ref s3.heap.objs.size)) (EP X pins σ Q) X.xe { s3 with heap:=s3.heap.push { cls:=.type "slice",data:=.fields #[vl,vu,.none] } }
 exact tail_any (ops:=[.ref s3.heap.objs.size,v]) ht hT hg (by with_unfolding_all rfl)
def cutV (xs:List V) (lo hi:Option Int):List V:=(xs.drop (HT.sIx xs.length 0 lo)).take (HT.sIx xs.length xs.length hi - HT.sIx xs.length 0 lo)
theorem cutV_length (xs:List V) (lo hi:Option Int):(cutV xs lo hi).length≤xs.length:=by
 unfold cutV
 rw [List.length_take,List.length_drop]
 omega
end
end L2
namespace L2
open PySem PySem.Spec PyProof.Rows
def ixN (n:Nat) (i:Int):Option Nat:=if 0≤i then (if i<n then some i.toNat else none) else if -(n:Int)≤i then some (i+n).toNat else none
def atI {α:Type} (xs:List α) (i:Int):Option α:=(ixN xs.length i).bind fun j=>xs[j]?
theorem ixN_seq {n:Nat} {i:Int} {j:Nat} (h:ixN n i=some j):seqIndex? i n=some j∧j<n ∧ -(n:Int)≤i∧i<n:=by
 unfold ixN at h
 by_cases h0:0≤i
 ·rw [if_pos h0] at h
  by_cases h1:i<n
  ·rw [if_pos h1] at h
   have e:i.toNat=j:=Option.some.inj h
   exact ⟨by rw [seqIndex_of h0 h1,e],by omega,by omega,h1⟩
  ·rw [if_neg h1] at h; cases h
 ·rw [if_neg h0] at h
  by_cases h1 : -(n:Int)≤i
  ·rw [if_pos h1] at h
   have e:(i+n).toNat=j:=Option.some.inj h
   exact ⟨by rw [seqIndex_neg (by omega) h1,e],by omega,h1,by omega⟩
  ·rw [if_neg h1] at h; cases h
theorem atI_get {α:Type} {xs:List α} {i:Int} {v:α} (h:atI xs i=some v):∃ j,seqIndex? i xs.length=some j∧xs[j]?=some v∧j<xs.length ∧ -(xs.length:Int)≤i∧i<xs.length:=by
 unfold atI at h
 cases e:ixN xs.length i with
 | none=>rw [e] at h; cases h
 | some j =>
  rw [e] at h
  obtain ⟨h1,h2,h3,h4⟩:=ixN_seq e
  exact ⟨j,h1,h,h2,h3,h4⟩
theorem atI_nat {α:Type} {xs:List α} {j:Nat} {v:α} (h:xs[j]?=some v):atI xs (j:Int)=some v:=by
 have hj:j<xs.length:=(List.getElem?_eq_some_iff.mp h).1
 have e:ixN xs.length (j:Int)=some j:=by
  unfold ixN
  rw [if_pos (by omega),if_pos (by omega)]; simp
 unfold atI; rw [e]; exact h
def PlainIx (b:Expr):Prop:=∀ o i,subscripted b false o i=operate [o,i] (getItem o i)
def IxR (X:Cx) (r:R2):Prop :=
 ∀ (value slice:Expr) (pins:List (Addr × Obj)) (s:Shared) (σ:St) (H:Hp) (x y:V) (v u:Value) (Q:VK),Inv X pins σ H s→RelV x v→RelV y u→r x y H Q →
  subscripted slice false v u=operate [v,u] (getItem v u)→wpAny (model X.prog X.w) X.A (subscriptTail value slice v u) (EP X pins σ Q) X.xe s
def MtR (X:Cx) (id:String) (r:V→List V→Hp→VK→Prop):Prop :=
 ∀ (pins:List (Addr × Obj)) (s:Shared) (σ:St) (H:Hp) (x:V) (xs:List V) (v:Value) (us:List Value) (Q:VK),Inv X pins σ H s→RelV x v→Vals xs us→r x xs H Q →
  wpAny (model X.prog X.w) X.A (call (.builtin id) (v::us)) (EP X pins σ Q) X.xe s
section
variable {X:Cx} {a b:Expr} {ta tb:TE} {pos:Pos}
theorem z0j {r:R2} (hr:IxR X r) (ha:PE X a ta) (hb:PE X b tb) (hs:PlainIx b):PE X (.Subscript a b pos) (tOp r ta tb):=by
 intro pins s σ H Q I h
 exact Subscript_ (binT ha hb I h fun v u s2 x y H2 I2 rx ry q=>hr a b pins s2 σ H2 x y v u Q I2 rx ry q (hs _ _))
def rIxL (K:PySem.W.Frag):R2:=fun x y H Q=>∃ p xs i v,x=.ref p∧y=.int i∧SqL K H p xs∧atI xs i=some v∧Q v H
def rIxT (K:PySem.W.Frag):R2:=fun x y H Q=>∃ p xs i v,x=.ref p∧y=.int i∧SqT K H p xs∧atI xs i=some v∧Q v H
theorem z0w:IxR X (rIxL X.K):=by
 intro value slice pins s σ H x y v u Q I rx ry h hs
 obtain ⟨p,xs,i,z,rfl,rfl,hq,he,q⟩:=h
 cases rx
 obtain ⟨t,rfl⟩:=ry
 obtain ⟨its,r,pl,hz⟩:=I.list hq
 obtain ⟨j,h1,h2,h3,h4,h5⟩:=atI_get he
 obtain ⟨w,ew,rw'⟩:=r.get h2
 have hl:=r.length
 have hn:=line63
 have fin:EP X pins σ Q w s:=⟨z,H,I,rw',q⟩
 by_cases h0:0≤i
 ·have hj:i.toNat=j:=by
   rw [seqIndex_of h0 h5] at h1
   exact Option.some.inj h1
  exact item_listR pl.isList h0 (by omega) (by rw [hj]; simpa using ew) fin hs
 ·have hj:(i+(its.toArray.size:Int)).toNat=j:=by
   rw [seqIndex_neg (by omega) h4] at h1
   rw [List.size_toArray,← hl]
   exact Option.some.inj h1
  exact subscriptTail_builtinR (x:=w) pl.isList.typeIs slot_list_getitem.lookup
   (wpAny_getItem_list_neg (Q:=fun r s'=>r=w∧EP X pins σ Q r s') pl.isList (by omega) (by rw [List.size_toArray] <;> omega) (by omega) (by rw [hj]; simpa using ew) ⟨rfl,fin⟩) hs
theorem z0g:IxR X (rIxT X.K):=by
 intro value slice pins s σ H x y v u Q I rx ry h hs
 obtain ⟨p,xs,i,z,rfl,rfl,hq,he,q⟩:=h
 cases rx
 obtain ⟨t,rfl⟩:=ry
 obtain ⟨its,r,pl,hz⟩:=I.tuple hq
 obtain ⟨j,h1,h2,h3,h4,h5⟩:=atI_get he
 obtain ⟨w,ew,rw'⟩:=r.get h2
 have hl:=r.length
 have hn:=line63
 have fin:EP X pins σ Q w s:=⟨z,H,I,rw',q⟩
 exact subscriptTail_builtinR (x:=w) pl.typeIs slot_tuple_getitem.lookup
  (getItem_tuple (j:=j) (Q:=fun r s'=>r=w∧EP X pins σ Q r s') pl (by omega) (by omega) (by rw [List.size_toArray,← hl]; exact h1) (by simpa using ew) ⟨rfl,fin⟩) hs
theorem mapSeq_set (its:List Value) (n j:Nat) (u:Value):Obj.mapSeq (·.setIfInBounds j u) { cls:=.type "list",data:=.seq its.toArray n }={ cls:=.type "list",data:=.seq (its.set j u).toArray n }:=by
 simp [Obj.mapSeq]
theorem Inv.lst {pins:List (Addr × Obj)} {σ:St} {H:Hp} {s:Shared} {p:Addr} {xs:List V} (I:Inv X pins σ H s) (h:H p=some (.lst xs)) :
  ∃ (its:List Value) (n:Nat),Vals xs its∧s.heap.get? p=some { cls:=.type "list",data:=.seq its.toArray n }∧xs.length≤sizeLine:=by
 obtain ⟨z,its,n,r,e⟩:=I.hok p _ h
 exact ⟨its,n,r,e,z⟩
theorem Inv.lstUpd {pins:List (Addr × Obj)} {σ:St} {H:Hp} {s:Shared} {p:Addr} {xs ys:List V} {its its':List Value} {n n':Nat} {f:Obj→Obj} (I:Inv X pins σ H s) (h:H p=some (.lst xs))
  (ho:s.heap.get? p=some { cls:=.type "list",data:=.seq its.toArray n }) (hf:f { cls:=.type "list",data:=.seq its.toArray n }={ cls:=.type "list",data:=.seq its'.toArray n' }) (r:Vals ys its') (hz:ys.length≤sizeLine) (t:Nat) :
  Inv X pins σ (upd H p (.lst ys)) { s with heap:=s.heap.update p f,toks:=t }:=by
 have e:(s.heap.update p f).get? p=some { cls:=.type "list",data:=.seq its'.toArray n' }:=by
  rw [Heap.get?_update_self f ho (by rw [hf] <;> rfl),hf]
 refine I.write (x:=p) (e:=p) (by rw [h]; trivial) (.inl rfl) (fun b u hb q=>(Heap.get?_update_other _ _ (Ne.symm hb)).trans q) ⟨_,e⟩ ?_
 exact ⟨hz,its',n',r,e⟩
def rSetL:V→V→V→Hp→(Hp→Prop)→Prop:=fun o i v H Q=>∃ p xs k j,o=.ref p∧i=.int k∧H p=some (.lst xs)∧ixN xs.length k=some j∧Q (upd H p (.lst (xs.set j v)))
theorem set_list:PSet X rSetL:=by
 intro pins s σ H o i v ov iv u Q I ro ri rv h
 obtain ⟨p,xs,k,j,rfl,rfl,hp,hj,q⟩:=h
 cases ro
 obtain ⟨t,rfl⟩:=ri
 obtain ⟨its,n,r,ho,hz⟩:=I.lst hp
 obtain ⟨h1,h2,h3,h4⟩:=ixN_seq hj
 have hl:=r.length
 have hn:=line63
 have I':Inv X pins σ (upd H p (.lst (xs.set j v))) { s with heap:=s.heap.update p (Obj.mapSeq (·.setIfInBounds j u)) } :=
  I.lstUpd hp ho (mapSeq_set its n j u) (r.set rv j) (by rw [List.length_set]; exact hz) s.toks
 by_cases h0:0≤k
 ·have hk:k.toNat=j:=by
   rw [seqIndex_of h0 h4] at h1
   exact Option.some.inj h1
  exact PySem.W.ki_setAt ho h0 (by omega) (by rw [List.size_toArray,← hl]; exact h4) (by rw [hk]; exact ⟨_,I',q⟩)
 ·have hk:(k+(its.toArray.size:Int)).toNat=j:=by
   rw [seqIndex_neg (by omega) h3] at h1
   rw [List.size_toArray,← hl]
   exact Option.some.inj h1
  exact PySem.W.ki_setBack ho (by omega) (by rw [List.size_toArray,← hl]; exact h3) (by omega) (by rw [hk]; exact ⟨_,I',q⟩)
theorem slice_bounds (lo hi:Option Int) (n:Nat):(sliceBounds lo hi none n).1=((HT.sIx n 0 lo:Nat):Int)∧(sliceBounds lo hi none n).2.1=((HT.sIx n n hi:Nat):Int)∧(sliceBounds lo hi none n).2.2=1:=by
 refine ⟨?_,?_,rfl⟩
 ·cases lo with
  | none=>simp [sliceBounds,HT.sIx]
  | some i =>
   simp only [sliceBounds,HT.sIx,Option.getD_none,show (1:Int) > 0 by decide,if_true]
   by_cases h:i<0
   ·simp only [h,if_true] <;> omega
   ·simp only [h,if_false] <;> omega
 ·cases hi with
  | none=>simp [sliceBounds,HT.sIx]
  | some i =>
   simp only [sliceBounds,HT.sIx,Option.getD_none,show (1:Int) > 0 by decide,if_true]
   by_cases h:i<0
   ·simp only [h,if_true] <;> omega
   ·simp only [h,if_false] <;> omega
theorem slicePick_cut (its:List Value) (lo hi:Option Int):slicePick its.toArray lo hi none=((its.drop (HT.sIx its.length 0 lo)).take (HT.sIx its.length its.length hi - HT.sIx its.length 0 lo)).toArray:=by
 obtain ⟨h1,h2,h3⟩:=slice_bounds lo hi its.toArray.size
 unfold slicePick
 rw [h1,h2,h3]
 simp only [sliceRange_one,pick_run,List.size_toArray] <;> rfl
def rSlL (K:PySem.W.Frag):V→Option Int→Option Int→Hp→VK→Prop:=fun x lo hi H Q=>∃ a xs,x=.ref a∧SqL K H a xs∧∀ p,H p=none→Q (.ref p) (upd H p (.lst (cutV xs lo hi)))
theorem sl_list:SlR X (rSlL X.K):=by
 intro pins s σ H x v vl vu lo hi sl Q I rx hs pl pu h
 obtain ⟨a,xs,rfl,hx,q⟩:=h
 cases rx
 obtain ⟨its,r,ht,hz⟩:=I.list hx
 have hlen:=r.length
 refine ⟨"list",_,slot_list_getitem.lookup,ht.isList.typeIs,?_⟩
 refine wpAny_getItem_list_slice ht.isList hs pl pu .none (by simp) ?_ (by rw [List.size_toArray] <;> omega)
 rw [slicePick_cut,← hlen]
 refine ⟨.ref s.heap.objs.size,_,I.laid (t':=s.toks) (o:=.lst (cutV xs lo hi)) (fun b ob q=>Heap.get?_push_of_some _ q) (Nat.le_refl _) ?_,rfl,q _ (I.hok.fresh (Nat.le_refl _))⟩
 exact ⟨Nat.le_trans (cutV_length xs lo hi) hz,_,0,(r.drop (HT.sIx xs.length 0 lo)).take (HT.sIx xs.length xs.length hi - HT.sIx xs.length 0 lo),Heap.get?_push_size _ rfl⟩
def flatV:V→Bool
 | .non=>true
 | .bl _=>true
 | .int _=>true
 | .str _=>true
 | _=>false
def eqV:V→V→Bool
 | .non,.non=>true
 | .bl a,.bl b=>a == b
 | .bl a,.int b=>(if a then 1 else 0) == b
 | .int a,.bl b=>a == (if b then 1 else 0)
 | .int a,.int b=>a == b
 | .str a,.str b=>a == b
 | _,_=>false
theorem eqAt_V {A:Around} {s:Shared} {y x:V} {u v:Value} (ry:RelV y u) (rx:RelV x v) (fy:flatV y=true) (fx:flatV x=true):SeqAt.EqAt A s u v (eqV y x):=by
 cases y with
 | non =>
  cases ry
  cases x with
  | non=>cases rx; exact SeqAt.EqAt.same _
  | bl b=>cases rx; exact SeqAt.EqAt.none_bool b
  | int b=>obtain ⟨t,rfl⟩:=rx; exact SeqAt.EqAt.none_int b t
  | str b=>obtain ⟨t,rfl⟩:=rx; exact SeqAt.EqAt.none_str b t
  | _=>exact absurd (show false=true from fx) Bool.false_ne_true
 | bl a =>
  cases ry
  cases x with
  | non=>cases rx; exact SeqAt.EqAt.bool_none a
  | bl b=>cases rx; exact SeqAt.EqAt.bool_bool a b
  | int b=>obtain ⟨t,rfl⟩:=rx; exact SeqAt.EqAt.bool_int a b t
  | str b=>obtain ⟨t,rfl⟩:=rx; exact SeqAt.EqAt.bool_str a b t
  | _=>exact absurd (show false=true from fx) Bool.false_ne_true
 | int a =>
  obtain ⟨t',rfl⟩:=ry
  cases x with
  | non=>cases rx; exact SeqAt.EqAt.int_none a t'
  | bl b=>cases rx; exact SeqAt.EqAt.int_bool a t' b
  | int b=>obtain ⟨t,rfl⟩:=rx; exact SeqAt.EqAt.int_int a t' b t
  | str b=>obtain ⟨t,rfl⟩:=rx; exact SeqAt.EqAt.int_str a t' b t
  | _=>exact absurd (show false=true from fx) Bool.false_ne_true
 | str a =>
  obtain ⟨t',rfl⟩:=ry
  cases x with
  | non=>cases rx; exact SeqAt.EqAt.str_none a t'
  | bl b=>cases rx; exact SeqAt.EqAt.str_bool a t' b
  | int b=>obtain ⟨t,rfl⟩:=rx; exact SeqAt.EqAt.str_int a t' b t
  | str b=>obtain ⟨t,rfl⟩:=rx; exact SeqAt.EqAt.str_str a t' b t
  | _=>exact absurd (show false=true from fx) Bool.false_ne_true
 | _=>exact absurd (show false=true from fy) Bool.false_ne_true
def eqU (x:V) (u:Value):Bool:=match u with
 | .none=>eqV .non x
 | .bool b=>eqV (.bl b) x
 | .int i _=>eqV (.int i) x
 | .str z _=>eqV (.str z) x
 | _=>false
theorem eqU_of {x y:V} {u:Value} (r:RelV y u) (f:flatV y=true):eqU x u=eqV y x:=by
 cases y with
 | non=>cases r; rfl
 | bl b=>cases r; rfl
 | int i=>obtain ⟨t,rfl⟩:=r; rfl
 | str z=>obtain ⟨t,rfl⟩:=r; rfl
 | _=>exact absurd (show false=true from f) Bool.false_ne_true
theorem any_eqU {x:V}:∀ {xs:List V} {us:List Value},Vals xs us→xs.all flatV=true→us.any (eqU x)=xs.any fun y=>eqV y x
 | _,_,.nil,_=>rfl
 | y::xs,u::us,.cons r t,f=>by
  rw [List.all_cons,Bool.and_eq_true] at f
  rw [List.any_cons,List.any_cons,eqU_of r f.1,any_eqU t f.2]
theorem mem_eqAt {A:Around} {s:Shared} {x:V} {v:Value} (rx:RelV x v) (fx:flatV x=true):∀ {xs:List V} {us:List Value},Vals xs us→xs.all flatV=true→∀ u∈us,SeqAt.EqAt A s u v (eqU x u)
 | _,_,.nil,_=>fun u hu=>by cases hu
 | y::xs,u::us,.cons r t,f=>fun u' hu=>by
  rw [List.all_cons,Bool.and_eq_true] at f
  rcases List.mem_cons.mp hu with rfl | hu
  ·rw [eqU_of r f.1]; exact eqAt_V r rx f.1 fx
  ·exact mem_eqAt rx fx t f.2 u' hu
def inV (x:V) (xs:List V):Bool:=xs.any fun y=>eqV y x
def rIn (K:PySem.W.Frag) (neg:Bool):R2:=fun x y H Q=>∃ p xs,y=.ref p∧(SqL K H p xs∨SqT K H p xs)∧flatV x=true∧xs.all flatV=true∧Q (.bl (if neg then !inV x xs else inV x xs)) H
theorem op_in_seq:OpR X (compareOp .In) (rIn X.K false):=by
 intro pins s σ H x y v u Q I rx ry h
 obtain ⟨p,xs,rfl,hq,fx,fs,q⟩:=h
 cases ry
 rcases hq with hq | hq
 ·obtain ⟨its,r,pl,hz⟩:=I.list hq
  refine SeqAt.in_listAt (eqU x) pl.isList (fun w hw=>mem_eqAt rx fx r fs w (by simpa using hw)) ⟨.bl _,H,I,rfl,?_⟩
  rw [show its.toArray.any (eqU x)=its.any (eqU x) by simp,any_eqU r fs]
  exact q
 ·obtain ⟨its,r,pl,hz⟩:=I.tuple hq
  refine SeqAt.in_tupleAt (eqU x) pl (fun w hw=>mem_eqAt rx fx r fs w (by simpa using hw)) ⟨.bl _,H,I,rfl,?_⟩
  rw [show its.toArray.any (eqU x)=its.any (eqU x) by simp,any_eqU r fs]
  exact q
theorem op_notIn_seq:OpR X (compareOp .NotIn) (rIn X.K true):=by
 intro pins s σ H x y v u Q I rx ry h
 obtain ⟨p,xs,rfl,hq,fx,fs,q⟩:=h
 cases ry
 rcases hq with hq | hq
 ·obtain ⟨its,r,pl,hz⟩:=I.list hq
  refine SeqAt.notIn_listAt (eqU x) pl.isList (fun w hw=>mem_eqAt rx fx r fs w (by simpa using hw)) ⟨.bl _,H,I,rfl,?_⟩
  rw [show its.toArray.any (eqU x)=its.any (eqU x) by simp,any_eqU r fs]
  exact q
 ·obtain ⟨its,r,pl,hz⟩:=I.tuple hq
  refine SeqAt.notIn_tupleAt (eqU x) pl (fun w hw=>mem_eqAt rx fx r fs w (by simpa using hw)) ⟨.bl _,H,I,rfl,?_⟩
  rw [show its.toArray.any (eqU x)=its.any (eqU x) by simp,any_eqU r fs]
  exact q
theorem z0k:CallR X (.builtin "len") (fun xs H Q=>∃ p ys,xs=[.ref p]∧(SqL X.K H p ys∨SqT X.K H p ys)∧Q (.int ys.length) H):=by
 intro pins s σ H xs us Q I r h
 obtain ⟨p,ys,rfl,hq,q⟩:=h
 obtain ⟨u,rfl,rx⟩:=vals1 r
 cases rx
 have hn:=line63
 rcases hq with hq | hq
 ·obtain ⟨its,r',pl,hz⟩:=I.list hq
  have hlen:=r'.length
  exact Calls.call_len_list pl.isList (by simp only [List.size_toArray] <;> omega) ⟨.int ys.length,H,I.tok _,⟨s.toks+1,by rw [List.size_toArray,hlen]⟩,q⟩
 ·obtain ⟨its,r',pl,hz⟩:=I.tuple hq
  have hlen:=r'.length
  exact len_tuple pl (by simp only [List.size_toArray] <;> omega) ⟨.int ys.length,H,I.tok _,⟨s.toks+1,by rw [List.size_toArray,hlen]⟩,q⟩
theorem z1j:CallR X (.type "list") (fun xs H Q=>∃ p ys,xs=[.ref p]∧(SqL X.K H p ys∨SqT X.K H p ys)∧∀ l,H l=none→Q (.ref l) (upd H l (.lst ys))):=by
 intro pins s σ H xs us Q I r h
 obtain ⟨p,ys,rfl,hq,q⟩:=h
 obtain ⟨u,rfl,rx⟩:=vals1 r
 cases rx
 have fin:∀ (its:List Value),Vals ys its→ys.length≤sizeLine→∀ (h':Heap) (c':Nat),(∀ b o',s.heap.get? b=some o'→h'.get? b=some o') →
   h'.get? s.heap.objs.size=some { cls:=.type "list",dict:=none,data:=.seq its.toArray c',slots := #[] }→EP X pins σ Q (.ref s.heap.objs.size) { s with heap:=h' }:=fun its r' hz h' c' kp e =>
  ⟨.ref s.heap.objs.size,_,I.laid (t':=s.toks) kp (Nat.le_refl _) (show z1n X.prog X.w _ h' _ (.lst ys) from ⟨hz,its,c',r',e⟩),rfl,q _ (I.hok.fresh (Nat.le_refl _))⟩
 rcases hq with hq | hq
 ·obtain ⟨its,r',pl,hz⟩:=I.list hq
  have hlen:=r'.length
  obtain ⟨o,ho,hc,n,hd⟩:=pl.isList
  exact call_list_seq p (.inl rfl) ho hc hd (fun h' c' kp e=>fin its r' hz h' c' kp e) (by simp only [List.size_toArray] <;> omega)
 ·obtain ⟨its,r',pl,hz⟩:=I.tuple hq
  have hlen:=r'.length
  obtain ⟨o,ho,hc,n,hd⟩:=pl
  exact call_list_seq p (.inr rfl) ho hc hd (fun h' c' kp e=>fin its r' hz h' c' kp e) (by simp only [List.size_toArray] <;> omega)
def tyV (K:PySem.W.Frag) (T:String) (x:V) (H:Hp):Prop:=match x with
 | .str _=>T="str"
 | .int _=>T="int"
 | .ref p=>(T="list"∧∃ xs,SqL K H p xs)∨(T="tuple"∧∃ o,K.lookup p=some o∧o.cls=.type "tuple"∧o.dict=none) ∨
   (T="dict"∧((∃ kvs,H p=some (.dK kvs))∨∃ kvs,H p=some (.dT kvs)))∨(T="set"∧∃ S n,H p=some (.set S n))
 | _=>False
theorem tyV_is {pins:List (Addr × Obj)} {σ:St} {H:Hp} {s:Shared} {T:String} {x:V} {v:Value} (I:Inv X pins σ H s) (r:RelV x v) (ty:tyV X.K T x H) :
  s.TypeIs v T∧∀ a,v=.ref a→∃ ob,s.heap.get? a=some ob∧ob.dict=none:=by
 cases x with
 | str z =>
  obtain ⟨t,rfl⟩:=r
  cases (show T="str" from ty)
  exact ⟨typeIs_str s z t,fun _ e=>nomatch e⟩
 | int i =>
  obtain ⟨t,rfl⟩:=r
  cases (show T="int" from ty)
  exact ⟨typeIs_int s i t,fun _ e=>nomatch e⟩
 | ref p =>
  cases r
  rcases ty with ⟨rfl,xs,hq⟩ | ⟨rfl,o,hk,hc,hd⟩ | ⟨rfl,hk⟩ | ⟨rfl,S,n,hk⟩
  ·obtain ⟨its,_,pl,_⟩:=I.list hq
   refine ⟨pl.isList.typeIs,fun a e=>?_⟩
   cases e
   obtain ⟨o,n,e,c,hd,_⟩:=pl
   exact ⟨o,e,hd⟩
  ·refine ⟨⟨o,I.kIn p o hk,hc⟩,fun a e=>?_⟩
   cases e
   exact ⟨o,I.kIn _ o hk,hd⟩
  ·have z:∃ o,s.heap.get? p=some o∧o.ExactDict:=by
    rcases hk with ⟨kvs,hk⟩ | ⟨kvs,hk⟩
    ·obtain ⟨_,_,_,_,o,_,_,e,ex,_⟩:=I.hok p _ hk
     exact ⟨o,e,ex⟩
    ·obtain ⟨_,_,_,_,o,_,_,e,ex,_⟩:=I.hok p _ hk
     exact ⟨o,e,ex⟩
   obtain ⟨o,e,ex⟩:=z
   refine ⟨⟨o,e,ex.1⟩,fun a e2=>?_⟩
   cases e2
   exact ⟨o,e,ex.2.1⟩
  ·obtain ⟨o,_,_,_,e,ex,_⟩:=I.hok p _ hk
   refine ⟨⟨o,e,ex.1⟩,fun a e2=>?_⟩
   cases e2
   exact ⟨o,e,ex.2.1⟩
 | _=>exact False.elim ty
def tBM0 (K:PySem.W.Frag) (T:String) (r:V→List V→Hp→VK→Prop) (to:TE):TE:=fun σ H Q=>to σ H fun x H1=>tyV K T x H1∧r x [] H1 Q
def tBM (K:PySem.W.Frag) (T:String) (r:V→List V→Hp→VK→Prop) (to:TE) (t:TA):TE:=fun σ H Q=>to σ H fun x H1=>tyV K T x H1∧t σ H1 fun xs H2=>r x xs H2 Q
variable {o e:Expr} {es:List Expr} {to:TE} {t:TA} {name:Str} {apos cpos:Pos} {T id:String} {r:V→List V→Hp→VK→Prop}
theorem pe_bm0 (pa:PlainAttrs T) (slot:Slot T name id) (hty:typeOf (.builtin id)=pure (.type "method_descriptor")) (hm:MtR X id r) (ho:PE X o to)
  (hbase:attributeBase o name X.env (eval o X.env)=eval o X.env:=by rfl) (hline:(apos.endLine == cpos.line)=true:=by rfl):PE X (.Call (.Attribute o name apos) [] [] cpos) (tBM0 X.K T r to):=by
 intro pins s σ H Q I h
 refine wpAny_Call_method0_late hbase hline (thn (ho pins s σ H _ I h) fun v s1 ⟨x,H1,I1,r1,ty,q1⟩=>?_)
 obtain ⟨h1,h2⟩:=tyV_is I1 r1 ty
 exact ⟨T,id,pa,slot,hty,h1,h2,Calls.callWith_builtin rfl (PySem.evalArgs_none (hm pins s1 σ H1 x [] v [] Q I1 r1 .nil q1))⟩
theorem pe_bm (pa:PlainAttrs T) (slot:Slot T name id) (hty:typeOf (.builtin id)=pure (.type "method_descriptor")) (hm:MtR X id r) (ho:PE X o to) (ha:PA X (e::es) t)
  (hbase:attributeBase o name X.env (eval o X.env)=eval o X.env:=by rfl)
  (hfew:((backTo cpos (starEach (e::es) X.env)).all (fun x => !x.1) && (backToKw cpos (keywordEach [] X.env)).all (fun x=>x.1.isSome)
   && decide ((e::es).length+([]:List Keyword).length+(if ([]:List Keyword).isEmpty then 0 else 1)<30))=true:=by rfl)
  (hline:(apos.endLine == cpos.line)=true:=by rfl) (hs:starEach (e::es) X.env=(false,eval e X.env)::starEach es X.env:=by rfl) (hplain:(backTo cpos (starEach es X.env)).any (·.1)=false:=by rfl) :
  PE X (.Call (.Attribute o name apos) (e::es) [] cpos) (tBM X.K T r to t):=by
 intro pins s σ H Q I h
 refine wpAny_Call_method_late hbase hfew hline rfl (thn (ho pins s σ H _ I h) fun v s1 ⟨x,H1,I1,r1,ty,q1⟩=>?_)
 obtain ⟨h1,h2⟩:=tyV_is I1 r1 ty
 refine ⟨T,id,pa,slot,hty,h1,h2,?_⟩
 have hA:=ha cpos pins s1 σ H1 _ I1 q1
 rw [hs] at hA ⊢
 refine Calls.callWith_builtin (by show (false || (backTo cpos (starEach es X.env)).any (·.1))=false; rw [hplain] <;> rfl) (Calls.evalArgs_plain ?_)
 exact thn hA fun us s2 ⟨vs,H2,I2,r2,q2⟩=>hm pins s2 σ H2 x vs v us Q I2 r1 r2 q2
end
end L2
namespace L2
open PySem PySem.Spec PyProof.Rows
def MtM (X:Cx) (id:String) (r:V→List V→Hp→VK→Prop):Prop :=
 ∀ (pins:List (Addr × Obj)) (s:Shared) (σ:St) (H:Hp) (x:V) (xs:List V) (v:Value) (us:List Value) (Q:VK),Inv X pins σ H s→RelV x v→Vals xs us→r x xs H Q →
  wpAny (model X.prog X.w) X.A (call (.builtin id) (v::us)) (EP X pins σ Q) X.xe s
theorem Vals.one:∀ {x:V} {us:List Value},Vals [x] us→∃ u,us=[u]∧RelV x u
 | _,_,.cons r .nil=>⟨_,rfl,r⟩
theorem Vals.two:∀ {x y:V} {us:List Value},Vals [x,y] us→∃ u v,us=[u,v]∧RelV x u∧RelV y v
 | _,_,_,.cons r (.cons q .nil)=>⟨_,_,rfl,r,q⟩
theorem Vals.zero:∀ {us:List Value},Vals [] us→us=[]
 | _,.nil=>rfl
theorem Vals.dropLast {xs:List V} {us:List Value} (h:Vals xs us):Vals xs.dropLast us.dropLast:=by
 induction h with
 | nil=>exact .nil
 | cons r t ih =>
  cases t with
  | nil=>exact .nil
  | cons q t'=>exact .cons r ih
theorem erase_last {α:Type} (l:List α):l.eraseIdx (l.length - 1)=l.dropLast:=by
 induction l with
 | nil=>rfl
 | cons a r ih =>
  cases r with
  | nil=>rfl
  | cons b r =>
   have e:(a::b::r).length - 1=((b::r).length - 1)+1:=by
    have h1:(a::b::r).length=r.length+2:=rfl
    have h2:(b::r).length=r.length+1:=rfl
    omega
   rw [e,List.eraseIdx_cons_succ,ih]
   all_goals rfl
section
variable {X:Cx} {pins:List (Addr × Obj)} {σ:St} {H:Hp} {s:Shared} {l b:Addr} {xs ys zs:List V}
theorem Inv.lset {its its':List Value} {n:Nat} {f:Array Value→Array Value} {t':Nat} (I:Inv X pins σ H s) (hH:H l=some (.lst xs))
  (e:s.heap.get? l=some { cls:=.type "list",data:=.seq its.toArray n }) (hf:f its.toArray=its'.toArray) (hv:Vals ys its') (hz:ys.length≤sizeLine) :
  Inv X pins σ (upd H l (.lst ys)) { s with heap:=s.heap.update l (Obj.mapSeq f),toks:=t' }:=by
 have q:=PySem.IsL.update e f
 rw [hf] at q
 refine I.write (x:=l) (e:=l) (by rw [hH]; exact trivial) (.inl rfl) (fun b' u hb hu=>(Heap.get?_update_other s.heap (Obj.mapSeq f) (Ne.symm hb)).trans hu) ⟨_,q⟩ ?_
 exact ⟨hz,its',_,hv,q⟩
theorem Inv.lnew {its:List Value} {t':Nat} (I:Inv X pins σ H s) (hv:Vals ys its) (hz:ys.length≤sizeLine) :
  Inv X pins σ (upd H s.heap.objs.size (.lst ys)) { s with heap:=s.heap.push { cls:=.type "list",data:=.seq its.toArray },toks:=t' } :=
 I.laid (fun _ _ q=>Heap.get?_push_of_some _ q) (Nat.le_refl _) ⟨hz,its,0,hv,Heap.get?_push_size _ rfl⟩
theorem Inv.fresh (I:Inv X pins σ H s):H s.heap.objs.size=none:=I.hok.fresh (Nat.le_refl _)
theorem Inv.lstM (I:Inv X pins σ H s) (hH:H l=some (.lst xs)):xs.length≤sizeLine∧∃ (its:List Value) (n:Nat),Vals xs its∧xs.length=its.length∧s.heap.get? l=some { cls:=.type "list",data:=.seq its.toArray n }:=by
 obtain ⟨z,its,n,r,e⟩:=I.hok l _ hH
 exact ⟨z,its,n,r,r.length,e⟩
theorem notLongL {n:Nat} (h:n≤sizeLine):Builtin.List.listTooLong n=false:=by
 unfold Builtin.List.listTooLong
 exact decide_eq_false (by omega)
end
section
variable {X:Cx}
def rAppend:V→List V→Hp→VK→Prop:=fun x vs H Q=>∃ l xs y,x=.ref l∧vs=[y]∧H l=some (.lst xs)∧xs.length<sizeLine∧Q .non (upd H l (.lst (xs++[y])))
theorem z12:MtM X "list.append" rAppend:=by
 intro pins s σ H x vs v us Q I rx rv h
 obtain ⟨l,xs,y,rfl,rfl,hH,hz,q⟩:=h
 cases rx
 obtain ⟨u,rfl,ru⟩:=rv.one
 obtain ⟨z,its,n,r,hl,e⟩:=I.lstM hH
 refine call_meets F.slot_list_append ⟨_,e,rfl⟩ F.entry_list_append (F.args_list_append_2 _ _) (PySem.list_append l its.toArray n u (by rw [List.size_toArray]; omega)) ⟨e,?_⟩
 refine ⟨.non,_,I.lset (its':=its++[u]) hH e (by simp) (r.append (.cons ru .nil)) ?_,rfl,q⟩
 rw [List.length_append,List.length_singleton]
 omega
def rExtend:V→List V→Hp→VK→Prop:=fun x vs H Q=>∃ l b xs zs,x=.ref l∧vs=[.ref b]∧H l=some (.lst xs)∧H b=some (.lst zs)∧xs.length+zs.length≤sizeLine∧Q .non (upd H l (.lst (xs++zs)))
theorem mt_extend:MtM X "list.extend" rExtend:=by
 intro pins s σ H x vs v us Q I rx rv h
 obtain ⟨l,b,xs,zs,rfl,rfl,hH,hB,hz,q⟩:=h
 cases rx
 obtain ⟨u,rfl,ru⟩:=rv.one
 cases ru
 obtain ⟨z,its,n,r,hl,e⟩:=I.lstM hH
 obtain ⟨z2,its2,n2,r2,hl2,e2⟩:=I.lstM hB
 have hsz:its.toArray.size+its2.toArray.size≤sizeLine:=by rw [List.size_toArray,List.size_toArray]; omega
 have hlong:¬(!its.toArray.isEmpty && Builtin.List.listTooLong (its.toArray.size+its2.toArray.size))=true:=by
  rw [notLongL hsz,Bool.and_false]
  exact Bool.false_ne_true
 refine call_meets F.slot_list_extend ⟨_,e,rfl⟩ F.entry_list_extend (F.args_list_extend_2 _ _)
  (AutoSeq1.list_extend_list_list_0 l its.toArray n b its2.toArray n2 hlong (by rw [List.size_toArray]; omega) (by omega)) ⟨e,e2,?_⟩
 refine ⟨.non,_,I.lset (its':=its++its2) hH e (by simp) (r.append r2) ?_,rfl,q⟩
 rw [List.length_append]
 omega
def rPop:V→List V→Hp→VK→Prop:=fun x vs H Q=>∃ l xs y,x=.ref l∧vs=[]∧H l=some (.lst xs)∧xs[xs.length - 1]?=some y∧Q y (upd H l (.lst xs.dropLast))
theorem mt_pop:MtM X "list.pop" rPop:=by
 intro pins s σ H x vs v us Q I rx rv h
 obtain ⟨l,xs,y,rfl,rfl,hH,hy,q⟩:=h
 cases rx
 have hus:=rv.zero
 subst hus
 obtain ⟨z,its,n,r,hl,e⟩:=I.lstM hH
 obtain ⟨u,hu,ru⟩:=r.get hy
 have hy':its.toArray[its.toArray.size - 1]?=some u:=by
  show its.toArray[its.length - 1]?=some u
  rw [← Array.getElem?_toList,← hl]
  exact hu
 refine call_meets F.slot_list_pop ⟨_,e,rfl⟩ F.entry_list_pop (F.args_list_pop_1 _) (MeetsSeq.list_pop_last l its.toArray n u hy' (by rw [List.size_toArray]; omega)) ⟨e,?_⟩
 refine ⟨y,_,I.lset (its':=its.dropLast) hH e ?_ r.dropLast ?_,ru,q⟩
 ·show its.toArray.eraseIdxIfInBounds (its.toArray.size - 1)=its.dropLast.toArray
  rw [List.size_toArray,List.eraseIdxIfInBounds_toArray,erase_last]
 ·rw [List.length_dropLast]
  omega
def rCat:R2:=fun x y H Q=>∃ l b xs zs,x=.ref l∧y=.ref b∧H l=some (.lst xs)∧H b=some (.lst zs)∧xs.length+zs.length≤sizeLine∧∀ p,H p=none→Q (.ref p) (upd H p (.lst (xs++zs)))
theorem op_cat:OpR X (binaryOp .Add) rCat:=by
 intro pins s σ H x y v u Q I rx ry h
 obtain ⟨l,b,xs,zs,rfl,rfl,hH,hB,hz,q⟩:=h
 cases rx
 cases ry
 obtain ⟨z,its,n,r,hl,e⟩:=I.lstM hH
 obtain ⟨z2,its2,n2,r2,hl2,e2⟩:=I.lstM hB
 refine PySem.P.add_list e e2 ?_ (by rw [List.size_toArray,List.size_toArray]; omega)
 have ea:its.toArray++its2.toArray=(its++its2).toArray:=by simp
 rw [ea]
 exact ⟨.ref _,_,I.lnew (t':=s.toks) (r.append r2) (by rw [List.length_append]; omega),rfl,q _ I.fresh⟩
end
section
variable {prog:Program} {w:World} {A:Around} {E:Value→Shared→Prop} {s:Shared}
end
section
variable {X:Cx}
end
end L2
namespace L2
open PySem PySem.Spec PyProof.Rows
section
variable {κ:Type} [DecidableEq κ]
def valV (kvs:List (κ × V)) (k:κ):Option V:=(kvs.find? fun kv=>decide (kv.1=k)).map (·.2)
def putK (kvs:List (κ × V)) (k:κ) (v:V):List (κ × V) :=
 if (kvs.any fun kv=>decide (kv.1=k))=true then kvs.map (fun kv=>if kv.1=k then (kv.1,v) else kv) else kvs++[(k,v)]
def dropK (kvs:List (κ × V)) (k:κ):List (κ × V):=kvs.filter fun kv=>decide (kv.1≠k)
theorem valV_nil {k:κ}:valV ([]:List (κ × V)) k=none:=rfl
theorem z1s {p:κ × V} {r:List (κ × V)} {k:κ} (e:p.1=k):valV (p::r) k=some p.2:=by simp [valV,List.find?_cons,e]
theorem z1r {p:κ × V} {r:List (κ × V)} {k:κ} (e:¬p.1=k):valV (p::r) k=valV r k:=by simp [valV,List.find?_cons,e]
theorem valV_any (k:κ):∀ kvs:List (κ × V),(kvs.any fun kv=>decide (kv.1=k))=(valV kvs k).isSome
 | []=>rfl
 | p::r=>by
  rw [List.any_cons]
  by_cases e:p.1=k
  ·simp only [z1s e,decide_eq_true e,Bool.true_or,Option.isSome_some]
  ·rw [z1r e,decide_eq_false e,Bool.false_or]; exact valV_any k r
theorem valV_map (k j:κ) (y:V):∀ kvs:List (κ × V),valV (kvs.map fun kv=>if kv.1=k then (kv.1,y) else kv) j=(valV kvs j).map fun x=>if j=k then y else x
 | []=>rfl
 | p::r=>by
  have ih:=valV_map k j y r
  rw [List.map_cons]
  by_cases h:p.1=k
  ·rw [if_pos h]
   by_cases e:p.1=j
   ·rw [z1s (p:=(p.1,y)) e,z1s e,Option.map_some,if_pos (e.symm.trans h)]
   ·rw [z1r (p:=(p.1,y)) e,z1r e,ih]
  ·rw [if_neg h]
   by_cases e:p.1=j
   ·rw [z1s (p:=p) e,z1s e,Option.map_some,if_neg (fun z=>h (e.trans z))]
   ·rw [z1r (p:=p) e,z1r e,ih]
theorem valV_snoc (k j:κ) (y:V):∀ kvs:List (κ × V),valV kvs k=none→valV (kvs++[(k,y)]) j=if j=k then some y else valV kvs j
 | [],_=>by
  by_cases e:k=j
  ·rw [if_pos e.symm]; exact z1s (p:=(k,y)) e
  ·rw [if_neg (fun z=>e z.symm)]; exact z1r (p:=(k,y)) e
 | p::r,hn=>by
  rw [List.cons_append]
  have hk:¬p.1=k:=fun z=>by rw [z1s z] at hn; cases hn
  rw [z1r hk] at hn
  have ih:=valV_snoc k j y r hn
  by_cases e:p.1=j
  ·rw [z1s e,z1s e,if_neg (fun z=>hk (e.trans z))]
  ·rw [z1r e,z1r e,ih]
theorem valV_put (kvs:List (κ × V)) (k j:κ) (y:V):valV (putK kvs k y) j=if j=k then some y else valV kvs j:=by
 unfold putK
 by_cases a:(kvs.any fun kv=>decide (kv.1=k))=true
 ·rw [if_pos a,valV_map]
  rw [valV_any] at a
  by_cases e:j=k
  ·obtain ⟨x,hx⟩:=Option.isSome_iff_exists.mp a
   rw [if_pos e,e,hx,Option.map_some,if_pos rfl]
  ·rw [if_neg e]
   cases valV kvs j with
   | none=>rfl
   | some x=>rw [Option.map_some,if_neg e]
 ·rw [if_neg a]
  refine valV_snoc k j y kvs ?_
  rw [valV_any] at a
  cases q:valV kvs k with
  | none=>rfl
  | some x=>rw [q] at a; exact (a rfl).elim
theorem z1k (kvs:List (κ × V)) (k:κ) (v:V):(putK kvs k v).length≤kvs.length+1:=by
 unfold putK
 split
 ·rw [List.length_map]; omega
 ·rw [List.length_append,List.length_cons,List.length_nil]; omega
theorem putK_new {kvs:List (κ × V)} {k:κ} (v:V) (h:valV kvs k=none):putK kvs k v=kvs++[(k,v)]:=by
 unfold putK
 rw [valV_any,h]
 exact if_neg (by decide)
theorem RelO.isSome_eq {o:Option V} {u:Option Value} (r:RelO o u):o.isSome=u.isSome:=by
 cases o with
 | none=>cases u with
  | none=>rfl
  | some _=>exact (show False from r).elim
 | some _=>cases u with
  | none=>exact (show False from r).elim
  | some _=>rfl
theorem RelO.getD {o:Option V} {u:Option Value} {d:V} {d':Value} (r:RelO o u) (rd:RelV d d'):RelV (o.getD d) (u.getD d'):=by
 cases o with
 | none=>cases u with
  | none=>exact rd
  | some _=>exact (show False from r).elim
 | some _=>cases u with
  | none=>exact (show False from r).elim
  | some _=>exact r
theorem KV.val {kvs:List (κ × V)} {vs:List (κ × Value)} (r:KV kvs vs) (k:κ):RelO (valV kvs k) (valueAt vs k):=by
 unfold KV at r
 induction r with
 | nil=>exact True.intro
 | @cons p q ps qs h t ih =>
  obtain ⟨h1,h2⟩:=h
  by_cases e:p.1=k
  ·have e':q.1=k:=h1.symm.trans e
   have b:valueAt (q::qs) k=some q.2:=by simp [valueAt,List.find?_cons,e']
   rw [z1s e,b]; exact h2
  ·have e':¬q.1=k:=fun z=>e (h1.trans z)
   have b:valueAt (q::qs) k=valueAt qs k:=by simp [valueAt,List.find?_cons,e']
   rw [z1r e,b]; exact ih
theorem KV.any {kvs:List (κ × V)} {vs:List (κ × Value)} (r:KV kvs vs) (k:κ):(kvs.any fun kv=>decide (kv.1=k))=vs.any fun kv=>decide (kv.1=k):=by
 unfold KV at r
 induction r with
 | nil=>rfl
 | cons h t ih=>rw [List.any_cons,List.any_cons,ih,h.1]
theorem KV.repl {kvs:List (κ × V)} {vs:List (κ × Value)} (r:KV kvs vs) (k:κ) {y:V} {u:Value} (ry:RelV y u) :
  KV (kvs.map fun kv=>if kv.1=k then (kv.1,y) else kv) (vs.map fun kv=>if kv.1=k then (kv.1,u) else kv):=by
 unfold KV at r ⊢
 induction r with
 | nil=>exact .nil
 | @cons p q ps qs h t ih =>
  rw [List.map_cons,List.map_cons]
  refine .cons ?_ ih
  obtain ⟨h1,h2⟩:=h
  by_cases e:p.1=k
  ·rw [if_pos e,if_pos (h1.symm.trans e)]; exact ⟨h1,ry⟩
  ·rw [if_neg e,if_neg (fun z=>e (h1.trans z))]; exact ⟨h1,h2⟩
theorem KV.put {kvs:List (κ × V)} {vs:List (κ × Value)} (r:KV kvs vs) (k:κ) {y:V} {u:Value} (ry:RelV y u):KV (putK kvs k y) (stored vs k u):=by
 unfold putK stored
 rw [r.any k]
 by_cases e:(vs.any fun kv=>decide (kv.1=k))=true
 ·rw [if_pos e,if_pos e]; exact r.repl k ry
 ·rw [if_neg e,if_neg e]; exact Paired.snoc r ⟨rfl,ry⟩
theorem KV.drop {kvs:List (κ × V)} {vs:List (κ × Value)} (r:KV kvs vs) (k:κ):KV (dropK kvs k) (without vs k):=by
 unfold KV at r ⊢
 unfold dropK without
 induction r with
 | nil=>exact .nil
 | @cons p q ps qs h t ih =>
  obtain ⟨h1,h2⟩:=h
  rw [List.filter_cons,List.filter_cons]
  by_cases e:p.1=k
  ·have a:¬decide (p.1≠k)=true:=by simp [e]
   have b:¬decide (q.1≠k)=true:=by simp [h1.symm.trans e]
   rw [if_neg a,if_neg b]; exact ih
  ·have e':¬q.1=k:=fun z=>e (h1.trans z)
   have a:decide (p.1≠k)=true:=by simp [e]
   have b:decide (q.1≠k)=true:=by simp [e']
   rw [if_pos a,if_pos b]; exact .cons ⟨h1,h2⟩ ih
theorem KV.keys {kvs:List (κ × V)} {vs:List (κ × Value)} (r:KV kvs vs):kvs.map (·.1)=vs.map (·.1):=by
 unfold KV at r
 induction r with
 | nil=>rfl
 | cons h t ih=>rw [List.map_cons,List.map_cons,ih,h.1]
theorem KV.length {kvs:List (κ × V)} {vs:List (κ × Value)} (r:KV kvs vs):kvs.length=vs.length:=Paired.length r
theorem dropK_le (kvs:List (κ × V)) (k:κ):(dropK kvs k).length≤kvs.length:=List.length_filter_le _ _
end
theorem kV_is {P:Program} {w:World} {k:Key} {u:Value} (r:RelV (kV k) u):(z19 P w).is k u=true:=by
 cases k with
 | inl i=>obtain ⟨t,e⟩:=(show ∃ t,u=Value.int i t from r); subst e; exact mixKind_int P w i t
 | inr x=>obtain ⟨t,e⟩:=(show ∃ t,u=Value.str x t from r); subst e; exact mixKind_str P w x t
theorem items_are {P:Program} {w:World}:∀ {ks:List Key} {us:List Value},Vals (ks.map kV) us→ItemsAre (z19 P w) ks us
 | [],_,r=>by rw [List.map_nil] at r; cases r; exact .nil
 | k::ks,_,r=>by
  rw [List.map_cons] at r
  cases r with
  | cons h t=>exact .cons (kV_is h) (items_are t)
abbrev KT (H:Hp):List (List Key × V)→List (List Key × Addr × Value)→Prop:=Paired fun p q=>p.1=q.1∧H q.2.1=some (.tup (p.1.map kV))∧RelV p.2 q.2.2
theorem KT.val {H:Hp} {kvs:List (List Key × V)} {xs:List (List Key × Addr × Value)} (r:KT H kvs xs) (k:List Key):RelO (valV kvs k) ((atKey xs k).map (·.2)):=by
 induction r with
 | nil=>exact True.intro
 | @cons p q ps qs h t ih =>
  obtain ⟨h1,_,h2⟩:=h
  by_cases e:p.1=k
  ·have e':q.1=k:=h1.symm.trans e
   have b:atKey (q::qs) k=some q.2:=by simp [atKey,List.find?_cons,e']
   rw [z1s e,b]; exact h2
  ·have e':¬q.1=k:=fun z=>e (h1.trans z)
   have b:atKey (q::qs) k=atKey qs k:=by simp [atKey,List.find?_cons,e']
   rw [z1r e,b]; exact ih
theorem KT.repl {H:Hp} {kvs:List (List Key × V)} {xs:List (List Key × Addr × Value)} (r:KT H kvs xs) (k:List Key) {y:V} {u:Value} (ry:RelV y u) :
  KT H (kvs.map fun kv=>if kv.1=k then (kv.1,y) else kv) (xs.map (putAt k u)):=by
 induction r with
 | nil=>exact .nil
 | @cons p q ps qs h t ih =>
  rw [List.map_cons,List.map_cons]
  refine .cons ?_ ih
  obtain ⟨h1,h2,h3⟩:=h
  unfold putAt
  by_cases e:p.1=k
  ·rw [if_pos e,if_pos (h1.symm.trans e)]; exact ⟨h1,h2,ry⟩
  ·rw [if_neg e,if_neg (fun z=>e (h1.trans z))]; exact ⟨h1,h2,h3⟩
theorem KT.put {H:Hp} {kvs:List (List Key × V)} {xs:List (List Key × Addr × Value)} (r:KT H kvs xs) (k:List Key) {b:Addr} {y:V} {u:Value} (hb:H b=some (.tup (k.map kV))) (ry:RelV y u) :
  KT H (putK kvs k y) (storedH xs k b u):=by
 have e:(kvs.any fun kv=>decide (kv.1=k))=(atKey xs k).isSome:=by
  rw [valV_any,(r.val k).isSome_eq,Option.isSome_map]
 unfold putK storedH
 rw [e]
 by_cases q:(atKey xs k).isSome=true
 ·rw [if_pos q,if_pos q]; exact r.repl k ry
 ·rw [if_neg q,if_neg q]; exact Paired.snoc r ⟨rfl,hb,ry⟩
theorem KT.keeps {H H':Hp} {kvs:List (List Key × V)} {xs:List (List Key × Addr × Value)} (r:KT H kvs xs) (ht:∀ b ys,H b=some (.tup ys)→H' b=some (.tup ys)):KT H' kvs xs :=
 Paired.mapP r fun _ _ z=>⟨z.1,ht _ _ z.2.1,z.2.2⟩
section
variable {P:Program} {w:World} {H:Hp} {h:Heap} {a:Addr}
theorem rd_of {u:HO} (ok:HOk P w H h) (e:Rd H a u):z1n P w H h a u:=e.ok ok
theorem dk_rd {kvs:List (Key × V)} (ok:HOk P w H h) (e:Rd H a (.dK kvs)):kvs.length≤sizeLine∧(a == sysModules)=false∧∃ vs,KV kvs vs∧h.DictOf (z19 P w) a vs :=
 show z1n P w H h a (.dK kvs) from rd_of ok e
theorem dk_of {kvs:List (Key × V)} (ok:HOk P w H h) (e:H a=some (.dK kvs)):kvs.length≤sizeLine∧(a == sysModules)=false∧∃ vs,KV kvs vs∧h.DictOf (z19 P w) a vs:=dk_rd ok (.inl e)
theorem key_of {ks:List Key} (ok:HOk P w H h) (e:H a=some (.tup (ks.map kV))):(tupleKind (z19 P w)).is h ks a:=by
 obtain ⟨_,its,r,o,h1,h2,n,h3⟩:=(show z1n P w H h a (.tup (ks.map kV)) from ok a _ e)
 exact ⟨o,its.toArray,n,h1,h2,h3,by simpa using items_are r⟩
theorem dt_rd {kvs:List (List Key × V)} (ok:HOk P w H h) (e:Rd H a (.dT kvs)):kvs.length≤sizeLine∧(a == sysModules)=false ∧
  ∃ xs,KT H kvs xs∧h.DictOfH (tupleKind (z19 P w)) a xs:=by
 obtain ⟨z,y,xs,r,o,es,ep,h1,h2,h3,h4,h5⟩:=(show z1n P w H h a (.dT kvs) from rd_of ok e)
 refine ⟨z,y,xs,r,o,es,ep,h1,h2,h3,h4,fun x hx=>?_,h5⟩
 have all:∀ {l:List (List Key × V)} {m:List (List Key × Addr × Value)},KT H l m→∀ x∈m,(tupleKind (z19 P w)).is h x.1 x.2.1:=by
  intro l m q
  induction q with
  | nil=>intro x hx; exact nomatch hx
  | @cons p q ps qs hq t ih =>
   intro x hx
   rcases List.mem_cons.mp hx with e | hx
   ·subst e
    exact key_of ok (by rw [← hq.1]; exact hq.2.1)
   ·exact ih x hx
 exact all r x hx
theorem dt_of {kvs:List (List Key × V)} (ok:HOk P w H h) (e:H a=some (.dT kvs)):kvs.length≤sizeLine∧(a == sysModules)=false ∧
  ∃ xs,KT H kvs xs∧h.DictOfH (tupleKind (z19 P w)) a xs:=dt_rd ok (.inl e)
end
def DGet (H:Hp) (a:Addr) (y:V) (r:Option V):Prop :=
 (∃ kvs k,Rd H a (.dK kvs)∧y=kV k∧r=valV kvs k)∨∃ kvs k b,Rd H a (.dT kvs)∧y=.ref b∧H b=some (.tup (k.map kV))∧r=valV kvs k
def DPut (H:Hp) (a:Addr) (y v:V) (H':Hp):Prop :=
 (∃ kvs k,H a=some (.dK kvs)∧y=kV k∧kvs.length<sizeLine∧H'=upd H a (.dK (putK kvs k v))) ∨
 ∃ kvs k b,H a=some (.dT kvs)∧y=.ref b∧H b=some (.tup (k.map kV))∧kvs.length<sizeLine∧H'=upd H a (.dT (putK kvs k v))
theorem DGet.k {H:Hp} {a:Addr} {kvs:List (Key × V)} {k:Key} (e:H a=some (.dK kvs)):DGet H a (kV k) (valV kvs k):=.inl ⟨kvs,k,.inl e,rfl,rfl⟩
theorem DPut.k {H:Hp} {a:Addr} {kvs:List (Key × V)} {k:Key} {v:V} (e:H a=some (.dK kvs)) (hl:kvs.length<sizeLine):DPut H a (kV k) v (upd H a (.dK (putK kvs k v))):=.inl ⟨kvs,k,e,rfl,hl,rfl⟩
section
variable {X:Cx} {pins:List (Addr × Obj)} {σ:St} {H:Hp} {s:Shared} {a:Addr} {y v:V} {u r:Value} {o:Option V} {A:Around} {E:Value→Shared→Prop}
theorem Inv.big (I:Inv X pins σ H s):sysModules<s.heap.objs.size:=by
 have h:mainGlobals<s.heap.objs.size:=(I.mod.glob.keeps I.bk).lt
 exact Nat.lt_trans (by decide) h
theorem d_getItem {Q:Value→Shared→Prop} (hu:A.units+1<cLine) (I:Inv X pins σ H s) (g:DGet H a y (some v)) (ry:RelV y u) (h:∀ w' s',Inv X pins σ H s'→RelV v w'→Q w' s') :
  wpAny (model X.prog X.w) A (getItem (.ref a) u) Q E s:=by
 rcases g with ⟨kvs,k,e,ey,l⟩ | ⟨kvs,k,b,e,ey,eb,l⟩
 ·subst ey
  obtain ⟨z,hd,vs,rel,dd⟩:=dk_rd I.hok e
  obtain ⟨w',hw,rw'⟩:=RelO.some_of (v:=v) (o:=valueAt vs k) (by rw [l]; exact rel.val k)
  exact wpAny_getItem_of (kV_is ry) dd.mapOf hw (h w' _ (I.tok _) rw')
 ·subst ey
  cases (show u=Value.ref b from ry)
  obtain ⟨z,hd,xs,rel,dd⟩:=dt_rd I.hok e
  obtain ⟨w',hw,rw'⟩:=RelO.some_of (v:=v) (o:=(atKey xs k).map (·.2)) (by rw [l]; exact rel.val k)
  obtain ⟨p,hp,hp2⟩:=Option.map_eq_some_iff.mp hw
  refine wpAny_getItem_heap (tupleKind_room_in1 hu) (key_of I.hok eb) dd hp ?_
  rw [hp2]
  exact h w' _ (I.tok _) rw'
theorem d_in {Q:Value→Shared→Prop} (hu:A.units+1<cLine) (I:Inv X pins σ H s) (g:DGet H a y o) (ry:RelV y u) (h:∀ s',Inv X pins σ H s'→Q (.bool o.isSome) s') :
  wpAny (model X.prog X.w) A (compareOp .In u (.ref a)) Q E s:=by
 rcases g with ⟨kvs,k,e,ey,l⟩ | ⟨kvs,k,b,e,ey,eb,l⟩
 ·subst ey
  obtain ⟨z,hd,vs,rel,dd⟩:=dk_rd I.hok e
  refine wpAny_in_of (kV_is ry) hd dd.mapOf ?_
  rw [← (rel.val k).isSome_eq,← l]
  exact h _ (I.tok _)
 ·subst ey
  cases (show u=Value.ref b from ry)
  obtain ⟨z,hd,xs,rel,dd⟩:=dt_rd I.hok e
  refine wpAny_in_heap (tupleKind_room_in1 hu) (key_of I.hok eb) hd dd ?_
  have q:=(rel.val k).isSome_eq
  rw [Option.isSome_map] at q
  rw [← q,← l]
  exact h _ (I.tok _)
theorem d_notIn {Q:Value→Shared→Prop} (hu:A.units+1<cLine) (I:Inv X pins σ H s) (g:DGet H a y o) (ry:RelV y u) (h:∀ s',Inv X pins σ H s'→Q (.bool (!o.isSome)) s') :
  wpAny (model X.prog X.w) A (compareOp .NotIn u (.ref a)) Q E s:=by
 rcases g with ⟨kvs,k,e,ey,l⟩ | ⟨kvs,k,b,e,ey,eb,l⟩
 ·subst ey
  obtain ⟨z,hd,vs,rel,dd⟩:=dk_rd I.hok e
  refine wpAny_notIn_of (kV_is ry) hd dd.mapOf ?_
  rw [← (rel.val k).isSome_eq,← l]
  exact h _ (I.tok _)
 ·subst ey
  cases (show u=Value.ref b from ry)
  obtain ⟨z,hd,xs,rel,dd⟩:=dt_rd I.hok e
  refine wpAny_notIn_heap (tupleKind_room_in1 hu) (key_of I.hok eb) hd dd ?_
  have q:=(rel.val k).isSome_eq
  rw [Option.isSome_map] at q
  rw [← q,← l]
  exact h _ (I.tok _)
theorem d_write {h':Heap} {t':Nat} {ob:HO} (I:Inv X pins σ H s) (mu:Mut (H a)) (hs:Heap.SameBut a s.heap h') (he:∃ q,h'.get? a=some q) (new:z1n X.prog X.w (upd H a ob) h' a ob) :
  Inv X pins σ (upd H a ob) { s with heap:=h',toks:=t' } :=
 I.write (x:=a) (e:=a) mu (.inl rfl) (fun b q hb z=>(hs.2 b hb).trans z) he new
theorem dk_new {P:Program} {w:World} {H':Hp} {h':Heap} {kvs:List (Key × V)} {vs:List (Key × Value)} (z:kvs.length≤sizeLine) (hd:(a == sysModules)=false) (rel:KV kvs vs) (dd:h'.DictOf (z19 P w) a vs) :
  z1n P w H' h' a (.dK kvs):=⟨z,hd,vs,rel,dd⟩
theorem d_setItem {H':Hp} {Q:Unit→Shared→Prop} (hu:A.units+1<cLine) (I:Inv X pins σ H s) (g:DPut H a y v H') (ry:RelV y u) (rv:RelV v r) (h:∀ s',Inv X pins σ H' s'→Q () s') :
  wpAny (model X.prog X.w) A (setItem (.ref a) u r) Q E s:=by
 rcases g with ⟨kvs,k,e,ey,l,eH⟩ | ⟨kvs,k,b,e,ey,eb,l,eH⟩
 ·subst ey eH
  obtain ⟨z,hd,vs,rel,dd⟩:=dk_of I.hok e
  have hz:vs.length≤sizeLine:=by rw [← rel.length]; exact z
  have hl:(putK kvs k v).length≤sizeLine:=by have:=z1k kvs k v; omega
  refine wpAny_setItem_pairs (hsz:=hz) (kV_is ry) dd fun h' dd' hs=>h _ ?_
  have he:∃ q,h'.get? a=some q:=let ⟨q,_,_,hq,_⟩:=dd'; ⟨q,hq⟩
  exact d_write I (by rw [e]; exact True.intro) hs he (dk_new hl hd (rel.put k rv) dd')
 ·subst ey eH
  cases (show u=Value.ref b from ry)
  obtain ⟨z,hd,xs,rel,dd⟩:=dt_of I.hok e
  have hz:xs.length≤sizeLine:=by rw [← Paired.length rel]; exact z
  have hl:(putK kvs k v).length≤sizeLine:=by have:=z1k kvs k v; omega
  refine wpAny_setItem_heap (hsz:=hz) (tupleKind_room_in1 hu) (key_of I.hok eb) dd fun h' dd' hs=>h _ ?_
  obtain ⟨q,es,ep,hq,h2,h3,h4,_,h5⟩:=dd'
  refine d_write I (by rw [e]; exact True.intro) hs ⟨q,hq⟩ ⟨hl,hd,_,(rel.put k eb rv).keeps fun c ys ec=>?_,q,es,ep,hq,h2,h3,h4,h5⟩
  rw [z01 (z0x ec e (fun z=>nomatch z))]
  exact ec
end
section
variable {X:Cx} {pins:List (Addr × Obj)} {σ:St} {H:Hp} {s:Shared} {a:Addr} {kvs:List (Key × V)} {k:Key} {u:Value} {A:Around} {E:Value→Shared→Prop}
theorem d_delItem {Q:Unit→Shared→Prop} (I:Inv X pins σ H s) (e:H a=some (.dK kvs)) (ry:RelV (kV k) u) (l:(valV kvs k).isSome=true) (h:∀ s',Inv X pins σ (upd H a (.dK (dropK kvs k))) s'→Q () s') :
  wpAny (model X.prog X.w) A (delItem (.ref a) u) Q E s:=by
 obtain ⟨z,hd,vs,rel,dd⟩:=dk_of I.hok e
 refine wpAny_delItem_slot dd.typeIs (by decide) PySem.F.slot_dict_delitem
  (call_meetsIn PySem.F.slot_dict_delitem dd.typeIs PySem.F.entry_dict_delitem (PySem.F.args_dict_delitem_2 _ _) (meets_dict_delitem_pairs (z19 X.prog X.w) a (kV_is ry)) ⟨vs,dd,by rw [← rel.length]; exact z,by rw [← (rel.val k).isSome_eq]; exact l,fun h' dd' hs=>h _ ?_⟩)
 have he:∃ q,h'.get? a=some q:=let ⟨q,_,_,hq,_⟩:=dd'; ⟨q,hq⟩
 exact d_write I (by rw [e]; exact True.intro) hs he (dk_new (Nat.le_trans (dropK_le kvs k) z) hd (rel.drop k) dd')
theorem d_pop {v:V} {more:List Value} {Q:Value→Shared→Prop} (I:Inv X pins σ H s) (e:H a=some (.dK kvs)) (ry:RelV (kV k) u) (l:valV kvs k=some v) (hm:more=[]∨∃ x,more=[x])
  (h:∀ w' s',Inv X pins σ (upd H a (.dK (dropK kvs k))) s'→RelV v w'→Q w' s'):wpAny (model X.prog X.w) A (call (.builtin "dict.pop") (.ref a::u::more)) Q E s:=by
 obtain ⟨z,hd,vs,rel,dd⟩:=dk_of I.hok e
 obtain ⟨w',hw,rw'⟩:=RelO.some_of (v:=v) (o:=valueAt vs k) (by rw [← l]; exact rel.val k)
 have hp:(keyPart u).isSome=true:=by
  cases k with
  | inl i=>obtain ⟨t,q⟩:=(show ∃ t,u=Value.int i t from ry); subst q; rfl
  | inr x=>obtain ⟨t,q⟩:=(show ∃ t,u=Value.str x t from ry); subst q; rfl
 have ha:argsOk "dict.pop" ⟨.ref a::u::more,[]⟩:=by
  rcases hm with q | ⟨x,q⟩
  ·subst q; exact PySem.F.args_dict_pop_2 _ _
  ·subst q; exact PySem.F.args_dict_pop_3 _ _ _
 refine call_meetsIn PySem.F.slot_dict_pop dd.typeIs PySem.F.entry_dict_pop ha (meets_dict_pop_there (z19 X.prog X.w) a (kV_is ry) more hm hp)
  ⟨vs,w',dd,by rw [← rel.length]; exact z,hw,fun h' dd' hs=>h w' _ ?_ rw'⟩
 have he:∃ q,h'.get? a=some q:=let ⟨q,_,_,hq,_⟩:=dd'; ⟨q,hq⟩
 exact d_write I (by rw [e]; exact True.intro) hs he (dk_new (Nat.le_trans (dropK_le kvs k) z) hd (rel.drop k) dd')
end
def NoSl (i:Expr):Prop:=∀ ov iv,subscripted i false ov iv=operate [ov,iv] (getItem ov iv)
theorem subD_of {prog:Program} {w:World} {A:Around} {E:Value→Shared→Prop} {s:Shared} {env:Env} {value slice:Expr} {pos:Pos} {T id:String} {Q:Value→Shared→Prop}
  (hl:typeLookup (.type T) "__getitem__"=pure (some (.builtin id))) (hs:NoSl slice)
  (h:wpAny (model prog w) A (eval value env) (fun o s₁=>wpAny (model prog w) A (eval slice env) (fun i s₂=>s₂.TypeIs o T∧wpAny (model prog w) A (getItem o i) Q E s₂) E s₁) E s) :
  wpAny (model prog w) A (eval (.Subscript value slice pos) env) Q E s:=by
 refine Subscript_ (wpAny_mono h (fun o s₁ h₁=>wpAny_mono h₁ (fun i s₂ h₂=>?_) fun _ _ x=>x) fun _ _ x=>x)
 obtain ⟨hT,h₂⟩:=h₂
 unfold subscriptTail
 refine wpAny_bind ?_
 rw [getitemInPython_of_ne hT.not_modules]
 refine wpAny_bind (wpAny_specialOf hT hl ?_)
 have fin:wpAny (model prog w) A (subscripted slice false o i) (fun r s₃=>wpAny (model prog w) A (letTemporaryGo value o r >>= fun _=>pure r) Q E s₃) E s₂:=by
  rw [hs o i]
  exact wpAny_operating (wpAny_mono h₂ (fun r s₃ h₃=>wpAny_bind (wpAny_letTemporaryGo (wpAny_pure h₃))) fun _ _ x=>x)
 first
  | exact wpAny_pure (wpAny_bind fin)
  | exact wpAny_bind (wpAny_pure (wpAny_bind fin))
  | exact wpAny_bind fin
theorem dict_typeIs {X:Cx} {pins:List (Addr × Obj)} {σ:St} {H:Hp} {s:Shared} {a:Addr} {y:V} {o:Option V} (I:Inv X pins σ H s) (g:DGet H a y o):s.TypeIs (.ref a) "dict":=by
 rcases g with ⟨kvs,k,e,_,_⟩ | ⟨kvs,k,b,e,_,_,_⟩
 ·obtain ⟨_,_,vs,_,dd⟩:=dk_rd I.hok e
  exact dd.typeIs
 ·obtain ⟨_,_,xs,_,dd⟩:=dt_rd I.hok e
  exact dd.typeIs
def tDGet (td ty:TE):TE:=fun σ H Q=>td σ H fun x H1=>ty σ H1 fun y H2=>∃ a v,x=.ref a∧DGet H2 a y (some v)∧Q v H2
def tDIn (ty td:TE):TE:=fun σ H Q=>ty σ H fun y H1=>td σ H1 fun x H2=>∃ a o,x=.ref a∧DGet H2 a y o∧Q (.bl o.isSome) H2
def tDNotIn (ty td:TE):TE:=fun σ H Q=>ty σ H fun y H1=>td σ H1 fun x H2=>∃ a o,x=.ref a∧DGet H2 a y o∧Q (.bl (!o.isSome)) H2
def sDPut (td ty tv:TE):TS:=fun D σ H=>tv σ H fun v H1=>td σ H1 fun x H2=>ty σ H2 fun y H3=>∃ a H4,x=.ref a∧DPut H3 a y v H4∧D.nx σ H4
section
variable {X:Cx} {o i e value:Expr} {pos pos' tpos:Pos} {td ty tv:TE}
theorem z0o (hu:X.A.units+1<cLine) (ho:PE X o td) (hi:PE X i ty) (hs:NoSl i):PE X (.Subscript o i pos) (tDGet td ty):=by
 intro pins s σ H Q I h
 refine subD_of PySem.F.slot_dict_getitem.lookup hs (thn (ho pins s σ H _ I h) fun u s1 ⟨x,H1,I1,rx,q1⟩=>thn (hi pins s1 σ H1 _ I1 q1) fun iv s2 ⟨y,H2,I2,ry,a,v,ex,g,q2⟩=>?_)
 subst ex
 obtain rfl:u=Value.ref a:=rx
 exact ⟨dict_typeIs I2 g,d_getItem hu I2 g ry fun w' s3 I3 rw'=>⟨v,H2,I3,rw',q2⟩⟩
theorem pc_din (hu:X.A.units+1<cLine) (hi:PE X i ty) (ho:PE X o td):PC X .In i o (tDIn ty td):=by
 intro pins s σ H Q I h
 refine thn (hi pins s σ H _ I h) fun iv s1 ⟨y,H1,I1,ry,q1⟩=>thn (ho pins s1 σ H1 _ I1 q1) fun u s2 ⟨x,H2,I2,rx,a,ov,ex,g,q2⟩=>?_
 subst ex
 obtain rfl:u=Value.ref a:=rx
 exact d_in hu I2 g ry fun s3 I3=>⟨.bl ov.isSome,H2,I3,rfl,q2⟩
theorem pc_dnotin (hu:X.A.units+1<cLine) (hi:PE X i ty) (ho:PE X o td):PC X .NotIn i o (tDNotIn ty td):=by
 intro pins s σ H Q I h
 refine thn (hi pins s σ H _ I h) fun iv s1 ⟨y,H1,I1,ry,q1⟩=>thn (ho pins s1 σ H1 _ I1 q1) fun u s2 ⟨x,H2,I2,rx,a,ov,ex,g,q2⟩=>?_
 subst ex
 obtain rfl:u=Value.ref a:=rx
 exact d_notIn hu I2 g ry fun s3 I3=>⟨.bl (!ov.isSome),H2,I3,rfl,q2⟩
theorem z2k (hu:X.A.units+1<cLine) (ho:PE X o td) (hi:PE X i ty) (hv:PE X value tv) (hs:swapsWith value (some (.Subscript o i pos')) pos.line X.env=pure false) :
  PS X (.Assign [.Subscript o i pos'] value pos) (sDPut td ty tv):=by
 intro pins s σ H D I h
 refine wpAny_Assign_Subscript (thn (hv pins s σ H _ I h) fun r s1 ⟨v,H1,I1,rv,q1⟩=>thn (ho pins s1 σ H1 _ I1 q1) fun u s2 ⟨x,H2,I2,rx,q2⟩=>thn (hi pins s2 σ H2 _ I2 q2) fun iv s3 ⟨y,H3,I3,ry,a,H4,ex,g,q3⟩=>?_) hs
 subst ex
 obtain rfl:u=Value.ref a:=rx
 exact d_setItem hu I3 g ry rv fun s4 I4=>⟨σ,H4,I4,q3⟩
end
theorem dk_empty {P:Program} {w:World} {H:Hp} (h:Heap) (hb:sysModules<h.objs.size):z1n P w H (h.push { cls:=.type "dict",data:=.dict #[] }) h.objs.size (.dK []) :=
 ⟨Nat.zero_le _,beq_eq_false_iff_ne.mpr (Ne.symm (Nat.ne_of_lt hb)),[],.nil,Heap.DictOf.new h⟩
def tDNewK:TE:=fun _ H Q=>∀ p,H p=none→Q (.ref p) (upd H p (.dK []))
section
variable {X:Cx} {pos:Pos}
theorem pe_dnewK:PE X (.Dict [] [] pos) tDNewK:=fun pins s σ H Q I h =>
 wpAny_Dict_empty ⟨.ref s.heap.objs.size,_,I.laid (a:=s.heap.objs.size) (o:=.dK []) (t':=s.toks) (fun _ _ q=>Heap.get?_push_of_some _ q) (Nat.le_refl _) (dk_empty s.heap I.big),rfl,h _ (I.hok.fresh (Nat.le_refl _))⟩
end
def tPairs:List (TE × TE)→St→Hp→(List (V × V)→Hp→Prop)→Prop
 | [],_,H,Q=>Q [] H
 | (tk,tv)::r,σ,H,Q=>tk σ H fun x H1=>tv σ H1 fun y H2=>tPairs r σ H2 fun ps H3=>Q ((x,y)::ps) H3
abbrev VV:List (V × V)→List (Value × Value)→Prop:=Paired fun p q=>RelV p.1 q.1∧RelV p.2 q.2
def PPs (X:Cx) (pos:Pos) (keys:List (Option Expr)) (values:List Expr) (trs:List (TE × TE)):Prop :=
 ∀ (pins:List (Addr × Obj)) (s:Shared) (σ:St) (H:Hp) (Q:List (V × V)→Hp→Prop),Inv X pins σ H s→tPairs trs σ H Q →
  wpAny (model X.prog X.w) X.A (evalPairs (pairTrees keys values X.env pos)) (fun vs s'=>∃ ps H',Inv X pins σ H' s'∧VV ps vs∧Q ps H') X.xe s
theorem pps_nil {X:Cx} {pos:Pos}:PPs X pos [] [] []:=fun pins s σ H Q I h=>pairTrees_nil_walk ⟨[],H,I,.nil,h⟩
theorem pps_cons {X:Cx} {pos:Pos} {k v:Expr} {ks:List (Option Expr)} {vs:List Expr} {tk tv:TE} {trs:List (TE × TE)} (hk:PE X k tk) (hv:PE X v tv) (hr:PPs X pos ks vs trs) :
  PPs X pos (some k::ks) (v::vs) ((tk,tv)::trs):=fun pins s σ H Q I h =>
 pairTrees_cons_walk (thn (hk pins s σ H _ I h) fun u s1 ⟨x,H1,I1,rx,q1⟩=>thn (hv pins s1 σ H1 _ I1 q1) fun w2 s2 ⟨y,H2,I2,ry,q2⟩ =>
  thn (hr pins s2 σ H2 _ I2 q2) fun ws s3 ⟨ps,H3,I3,rel,q3⟩=>⟨(x,y)::ps,H3,I3,.cons ⟨rx,ry⟩ rel,q3⟩)
def mergeK (kvs more:List (Key × V)):List (Key × V):=more.foldl (fun acc kv=>putK acc kv.1 kv.2) kvs
theorem KV.merge:∀ {more:List (Key × V)} {rs:List (Key × Value)} {kvs:List (Key × V)} {vs:List (Key × Value)},KV more rs→KV kvs vs→KV (mergeK kvs more) (merged vs rs):=by
 intro more rs kvs vs r
 unfold KV at r
 induction r generalizing kvs vs with
 | nil=>intro q; exact q
 | @cons p q ps qs h t ih =>
  intro r0
  have e:KV (putK kvs p.1 p.2) (stored vs q.1 q.2):=by
   have:=r0.put p.1 h.2
   rw [← h.1]; exact this
  exact ih e
theorem z32:∀ (more kvs:List (Key × V)),(mergeK kvs more).length≤kvs.length+more.length
 | [],kvs=>by show kvs.length≤kvs.length+0; omega
 | p::r,kvs=>by
  have h1:=z32 r (putK kvs p.1 p.2)
  have h2:=z1k kvs p.1 p.2
  show (mergeK (putK kvs p.1 p.2) r).length≤_
  rw [List.length_cons]; omega
theorem carries_of {P:Program} {w:World}:∀ {kvs:List (Key × V)} {ws:List (Value × Value)},VV (kvs.map fun kv=>(kV kv.1,kv.2)) ws→∃ rs,Carries (z19 P w) ws rs∧KV kvs rs
 | [],_,r=>by rw [List.map_nil] at r; cases r; exact ⟨[],True.intro,.nil⟩
 | p::kvs,_,r=>by
  rw [List.map_cons] at r
  cases r with
  | @cons a b as bs h t =>
   obtain ⟨rs,c,q⟩:=carries_of (P:=P) (w:=w) t
   obtain ⟨b1,b2⟩:=b
   exact ⟨(p.1,b2)::rs,⟨kV_is h.1,rfl,c⟩,.cons ⟨rfl,h.2⟩ q⟩
def tDisp (trs:List (TE × TE)):TE:=fun σ H Q=>∀ p,H p=none→tPairs trs σ (upd H p (.dK [])) fun ps H2=>H2 p=some (.dK [])∧∃ kvs:List (Key × V),ps=kvs.map (fun kv=>(kV kv.1,kv.2))∧kvs.length≤15∧Q (.ref p) (upd H2 p (.dK (mergeK [] kvs)))
theorem pe_disp {X:Cx} {pos:Pos} {keys:List (Option Expr)} {values:List Expr} {trs:List (TE × TE)} (h:PPs X pos keys values trs) (hall:keys.all (·.isSome)=true) (hl:keys.length=values.length) (h0:keys≠[])
  (h15:keys.length≤15):PE X (.Dict keys values pos) (tDisp trs):=by
 intro pins s σ H Q I q
 have hn:=I.hok.fresh (Nat.le_refl s.heap.objs.size)
 have I1:=I.laid (a:=s.heap.objs.size) (o:=.dK []) (h':=s.heap.push { cls:=.type "dict",data:=.dict #[] }) (t':=s.toks) (fun _ _ q=>Heap.get?_push_of_some _ q) (Nat.le_refl _) (dk_empty s.heap I.big)
 refine wpAny_Dict_walk (knd:=z19 X.prog X.w) hall hl h0 h15 (thn (h pins _ σ _ _ I1 (q _ hn)) fun ws s2 ⟨ps,H2,I2,rel,e,kvs,ep,lk,q2⟩=>?_)
 subst ep
 obtain ⟨rs,c,rk⟩:=carries_of (P:=X.prog) (w:=X.w) rel
 obtain ⟨z,hd,vs0,r0,dd⟩:=dk_of I2.hok e
 cases r0
 refine ⟨rs,c,dd,fun h' dd' hs=>⟨.ref s.heap.objs.size,_,?_,rfl,q2⟩⟩
 have hz:(mergeK [] kvs).length≤sizeLine:=by
  have h1:=z32 kvs []
  rw [List.length_nil] at h1
  rw [sizeLine_eq]; omega
 have he:∃ q,h'.get? s.heap.objs.size=some q:=let ⟨q,_,_,hq,_⟩:=dd'; ⟨q,hq⟩
 exact d_write I2 (by rw [e]; exact True.intro) hs he (dk_new hz hd (rk.merge .nil) dd')
structure M1 (X:Cx) (o:Expr) (m:Str) (apos:Pos) (e:Expr) (cpos:Pos):Prop where
 base:attributeBase o m X.env (eval o X.env)=eval o X.env
 few:((backTo cpos (starEach [e] X.env)).all (fun x => !x.1) && (backToKw cpos (keywordEach [] X.env)).all (fun x=>x.1.isSome)
  && decide (([e]:List Expr).length+([]:List Keyword).length+(if ([]:List Keyword).isEmpty then 0 else 1)<30))=true
 line:(apos.endLine == cpos.line)=true
 trees:backTo cpos (starEach [e] X.env)=[(false,eval e X.env)]
structure M2 (X:Cx) (o:Expr) (m:Str) (apos:Pos) (e f:Expr) (cpos:Pos):Prop where
 base:attributeBase o m X.env (eval o X.env)=eval o X.env
 few:((backTo cpos (starEach [e,f] X.env)).all (fun x => !x.1) && (backToKw cpos (keywordEach [] X.env)).all (fun x=>x.1.isSome)
  && decide (([e,f]:List Expr).length+([]:List Keyword).length+(if ([]:List Keyword).isEmpty then 0 else 1)<30))=true
 line:(apos.endLine == cpos.line)=true
 trees:backTo cpos (starEach [e,f] X.env)=[(false,eval e X.env),(false,eval f X.env)]
def IsD (H:Hp) (a:Addr):Prop:=(∃ kvs,Rd H a (.dK kvs))∨∃ kvs,Rd H a (.dT kvs)
theorem isD_at {X:Cx} {pins:List (Addr × Obj)} {σ:St} {H:Hp} {s:Shared} {a:Addr} (I:Inv X pins σ H s) (d:IsD H a) :
  s.TypeIs (.ref a) "dict"∧(∀ b,Value.ref a=.ref b→∃ ob,s.heap.get? b=some ob∧ob.dict=none)∧(a == sysModules)=false:=by
 rcases d with ⟨kvs,e⟩ | ⟨kvs,e⟩
 ·obtain ⟨_,hd,vs,_,dd⟩:=dk_rd I.hok e
  refine ⟨dd.typeIs,fun b q=>?_,hd⟩
  cases q
  obtain ⟨ob,_,_,h1,h2,_⟩:=dd
  exact ⟨ob,h1,h2.2.1⟩
 ·obtain ⟨_,hd,xs,_,dd⟩:=dt_rd I.hok e
  refine ⟨dd.typeIs,fun b q=>?_,hd⟩
  cases q
  obtain ⟨ob,_,_,h1,h2,_⟩:=dd
  exact ⟨ob,h1,h2.2.1⟩
section
variable {X:Cx} {pins:List (Addr × Obj)} {σ:St} {H:Hp} {s:Shared} {a:Addr} {y d:V} {u r:Value} {o:Option V} {A:Around} {E:Value→Shared→Prop}
theorem d_get2 {Q:Value→Shared→Prop} (hu:A.units+1<cLine) (I:Inv X pins σ H s) (g:DGet H a y o) (ry:RelV y u) (rd:RelV d r) (h:∀ w' s',Inv X pins σ H s'→RelV (o.getD d) w'→Q w' s') :
  wpAny (model X.prog X.w) A (call (.builtin "dict.get") [.ref a,u,r]) Q E s:=by
 rcases g with ⟨kvs,k,e,ey,l⟩ | ⟨kvs,k,b,e,ey,eb,l⟩
 ·subst ey
  obtain ⟨z,hd,vs,rel,dd⟩:=dk_rd I.hok e
  refine call_meetsIn PySem.F.slot_dict_get dd.typeIs PySem.F.entry_dict_get (PySem.F.args_dict_get_3 _ _ _) (meets_dict_get_default (z19 X.prog X.w) a (kV_is ry) hd r) ⟨_,dd.mapOf,h _ _ (I.tok _) ?_⟩
  rw [l]
  exact (rel.val k).getD rd
 ·subst ey
  cases (show u=Value.ref b from ry)
  obtain ⟨z,hd,xs,rel,dd⟩:=dt_rd I.hok e
  refine call_meetsIn PySem.F.slot_dict_get dd.typeIs PySem.F.entry_dict_get (PySem.F.args_dict_get_3 _ _ _) (meetsH_dict_get_default (tupleKind (z19 X.prog X.w)) a b hd r) ⟨tupleKind_room_in1 hu,k,xs,key_of I.hok eb,dd,h _ _ (I.tok _) ?_⟩
  rw [l]
  exact (rel.val k).getD rd
end
def tDGet2 (td ty tx:TE):TE:=fun σ H Q=>td σ H fun x H1=>∃ a,x=.ref a∧IsD H1 a∧ty σ H1 fun y H2=>tx σ H2 fun z H3=>∃ o,DGet H3 a y o∧Q (o.getD z) H3
def tDPop1 (td ty:TE):TE:=fun σ H Q=>td σ H fun x H1=>∃ a,x=.ref a∧IsD H1 a∧ty σ H1 fun y H2=>∃ kvs k v,H2 a=some (.dK kvs)∧y=kV k∧valV kvs k=some v∧Q v (upd H2 a (.dK (dropK kvs k)))
section
variable {X:Cx} {o e f:Expr} {apos cpos:Pos} {td ty tx:TE}
theorem pe_dget2 (hu:X.A.units+1<cLine) (ho:PE X o td) (he:PE X e ty) (hf:PE X f tx) (m:M2 X o "get" apos e f cpos):PE X (.Call (.Attribute o "get" apos) [e,f] [] cpos) (tDGet2 td ty tx):=by
 intro pins s σ H Q I h
 refine wpAny_Call_method m.base m.few m.line PySem.F.plainAttrs_dict PySem.F.slot_dict_get PySem.F.type_dict_get (thn (ho pins s σ H _ I h) fun u s1 ⟨x,H1,I1,rx,a,ex,d,q1⟩=>?_)
 subst ex
 obtain rfl:u=Value.ref a:=rx
 obtain ⟨t1,t2,_⟩:=isD_at I1 d
 refine ⟨t1,t2,?_⟩
 rw [m.trees]
 refine Calls.callWith_builtin rfl (Calls.evalArgs_plain (Calls.spliced_cons (thn (he pins s1 σ H1 _ I1 q1) fun iv s2 ⟨y,H2,I2,ry,q2⟩ =>
  Calls.spliced_cons (thn (hf pins s2 σ H2 _ I2 q2) fun fv s3 ⟨z,H3,I3,rz,ov,g,q3⟩=>Calls.spliced_nil ?_))))
 exact d_get2 hu I3 g ry rz fun w' s4 I4 rw'=>⟨_,H3,I4,rw',q3⟩
theorem pe_dpop1 (ho:PE X o td) (he:PE X e ty) (m:M1 X o "pop" apos e cpos):PE X (.Call (.Attribute o "pop" apos) [e] [] cpos) (tDPop1 td ty):=by
 intro pins s σ H Q I h
 refine wpAny_Call_method m.base m.few m.line PySem.F.plainAttrs_dict PySem.F.slot_dict_pop PySem.F.type_dict_pop (thn (ho pins s σ H _ I h) fun u s1 ⟨x,H1,I1,rx,a,ex,d,q1⟩=>?_)
 subst ex
 obtain rfl:u=Value.ref a:=rx
 obtain ⟨t1,t2,_⟩:=isD_at I1 d
 refine ⟨t1,t2,?_⟩
 rw [m.trees]
 refine Calls.callWith_builtin rfl (Calls.evalArgs_plain (Calls.spliced_cons (thn (he pins s1 σ H1 _ I1 q1) fun iv s2 ⟨y,H2,I2,ry,kvs,k,v,ea,ey,l,q2⟩=>Calls.spliced_nil ?_)))
 subst ey
 exact d_pop I2 ea ry l (.inl rfl) fun w' s3 I3 rw'=>⟨v,_,I3,rw',q2⟩
end
section
variable {X:Cx} {pins:List (Addr × Obj)} {σ:St} {H:Hp} {s:Shared} {a:Addr} {kvs:List (Key × V)} {A:Around} {E:Value→Shared→Prop}
end
section
variable {X:Cx} {pins:List (Addr × Obj)} {σ:St} {H:Hp} {s:Shared} {a:Addr} {y:V} {u:Value} {A:Around} {E:Value→Shared→Prop}
end
end L2
namespace Att
open PySem PySem.W PySem.Calls PyProof.Rows
theorem ints_of_wellAll {P:Params} {h:Heap}:∀ (ns:List Int) (vs:List Value),WellAll P h vs (ns.map WData.int)→IntsAre vs ns:=by
 intro ns
 induction ns with
 | nil =>
  intro vs w
  rw [List.map_nil] at w
  cases w
  exact .nil
 | cons n ns ih =>
  intro vs w
  rw [List.map_cons] at w
  cases w with
  | cons a b =>
   cases a
   exact .cons _ _ (ih _ b)
theorem script_of {l:OpenLaw} {n:Nat} (hn:l.most=some n) {P:Params} {h:Heap} {args:List WData} {vals:List Value}
  (hpre:l.row.toRowW.claim.pre args=true) (hwl:WellAll P h vals args) :
  ∃ a vs ns,vals=[Value.ref a]∧args=[WData.list (ns.map WData.int)]∧h.get? a=some { cls:=.type "list",data:=.seq vs.toArray }∧IntsAre vs ns∧ns.length≤n:=by
 have hsh:WShape.hasAll [] args [.list .int]=true:=(pre_splitW hpre).1
 have hc:l.pre.holds [] { args:=args }=true:=(pre_splitW hpre).2
 obtain ⟨d,r,rfl,h1,h2⟩:=hasAllW_cons hsh
 obtain rfl:=hasAllW_nil h2
 obtain ⟨xs,rfl,h3⟩:=hasW_list h1
 obtain ⟨ns,rfl⟩:=items_int h3
 have hlen:ns.length≤n:=by
  unfold OpenLaw.pre at hc
  have h4:(WTm.not (.lt (.lit (.int (n:Int))) (.len (.arg 0)))).holds [] { args:=[.list (ns.map .int)] }=true:=by
   have h4:=(holds_andW hc).1
   rw [hn] at h4
   exact h4
  have h5:=condW_of h4 (w_not (w_lt w_lit (w_len_list (w_arg rfl))))
  rw [List.length_map] at h5
  refine Nat.le_of_not_lt fun q=>?_
  have q':(n:Int)<((ns.length:Nat):Int):=by omega
  first
   | (rw [decide_eq_true q'] at h5; exact absurd h5 (by decide))
   | (simp at h5; omega)
 cases hwl with
 | cons w1 w2 =>
  cases w2
  cases w1 with
  | list ho hall=>exact ⟨_,_,ns,rfl,rfl,ho,ints_of_wellAll ns _ hall,hlen⟩
theorem post_true (l:OpenLaw) (args:List WData):l.row.toRowW.claim.post args (.bool true) args=true :=
 postW_of (r:=l.row.toRowW) (X:=(true == true))
  (show WShape.has [] (.bool true) .bool=true by first | rfl | decide | simp [WShape.has,WShape.arms,WShape.armsAll])
  (show (WTm.eq .res (.lit (.bool true))).value [] { args:=args,res:=some (.bool true),after:=args }=some (.bool (true == true)) from w_eq_bool (w_res rfl) w_lit) rfl
theorem attach_call {l:OpenLaw} {n:Nat} {q:Program} {loose:List Str} {XP:(Str→Option Value)→Heap→Prop} {YP:World→Heap→Prop} {d:DefRec}
  (hn:l.most=some n) (hdf:d.params.defaults=[])
  (call:∀ (w:World) (s₀ s₁:Shared) (mg mb:Str→Option Value) (fa:Addr) (o:Obj) (pm cd doc:Value) (a:Addr) (vs:List Value) (ns:List Int),
   Ground q loose [] XP w s₀ mg mb s₁.heap→YP w s₁.heap →
   s₁.heap.get? fa=some o→o.data=.func (docDef d.name d.params d.body d.scope pm cd doc)→s₁.heap.CodeRec cd d.name→mg d.name=some (.ref fa) →
   s₁.heap.get? a=some { cls:=.type "list",data:=.seq vs.toArray }→IntsAre vs ns→ns.length≤n→s₁.gens = #[] →
   codeAny (model l.prog w) callerA (.call (.ref fa) ⟨[.ref a],[]⟩) (fun r s'=>r=.ok (.ret (.bool true))∧OldK s₁.heap s'.heap∧s'.os=s₁.os∧AllBare s'.gens) s₁) :
  WalkO q loose XP YP l.row.toRowW d [] (fun f vs=>PySem.call f vs):=by
 intro w s₀ s₁ mg mb G Y fa o pm cd doc dV kV ho hd hcd hD hmg hg args vals as hpre hlay hrd hwl hlo
 obtain rfl:dV=.none:=Dflts.none hD hdf
 obtain rfl:kV=.none:=Dflts.noKw hD
 obtain ⟨a,vs,ns,rfl,rfl,hobj,hints,hlen⟩:=script_of hn hpre hwl
 refine enter_call (codeAny_mono (call w s₀ s₁ mg mb fa o pm cd doc a vs ns G Y ho (fd_plain hd) hcd hmg hobj hints hlen hg) fun r s' hq=>?_)
 obtain ⟨rfl,h2,h3,h4⟩:=hq
 exact ⟨.inl ⟨.bool true,.bool true,[],rfl,fun _=>rfl,.bool true,post_true l _,fun _=>⟨List.Pairwise.nil,fun _ hm=>(nomatch hm)⟩⟩,h2,h3,h4⟩
section
variable {prog:Program} {w:World} {A:Around} {E:Value→Shared→Prop} {s:Shared} {K:Frag}
end
end Att
namespace L2
open PySem PySem.Spec PyProof.Rows
theorem vals_ints:∀ {vs:List Value} {ns:List Int},IntsAre vs ns→Vals (ns.map V.int) vs
 | _,_,.nil=>.nil
 | _,_,.cons n t h=>.cons ⟨t,rfl⟩ (vals_ints h)
def Only (H:Hp):Prop:=∀ b,H b=none∨∃ o xs,H b=some (.frz o (.lst xs))
theorem law_call {P:Program} {w:World} {K:PySem.W.Frag} {mg mb:Str→Option Value} {CX:CXT} {k:Nat} {fa a:Addr} {fd:FuncData} {x:Str} {sp:Sp} {s₁:Shared} {vs:List Value} {ns:List Int}
  (KX:K.In s₁.heap) (hns:s₁.heap.Ns mainGlobals mg) (hb:s₁.heap.Ns builtinsNs mb) (hbb:∀ x:Str,x≠"__name__"→mb x=bootBuiltins x) (hlim:s₁.heap.NoLimit) (hg:s₁.gens = #[])
  (ha:s₁.heap.get? a=some { cls:=.type "list",data:=.seq vs.toArray }) (hi:IntsAre vs ns) (hl:ns.length≤sizeLine) (hr:Room k callerA)
  (F:∀ base:Heap,K.In base→base.Ns mainGlobals mg→FnOk P w K mg base CX k fa fd [x] sp) (hbind:∀ (s:Shared) (u:Value),BindsTo s fd ⟨[u],[]⟩ [(x,u)])
  (hsp:∀ H:Hp,Only H→SqL K H a (ns.map V.int)→sp [.ref a] H (fun v _=>v=.bl true) fun _ _ _=>False)
  (hCX:∀ H e s',CX [] H s₁ (fun _ _ _=>False) e s'→False) :
  codeAny (model P w) callerA (.call (.ref fa) ⟨[.ref a],[]⟩) (fun r s'=>r=.ok (.ret (.bool true))∧OldK s₁.heap s'.heap∧s'.os=s₁.os∧AllBare s'.gens) s₁:=by
 have rv:=vals_ints hi
 have lenV:=hi.length
 have core:∀ H:Hp,Only H→SqL K H a (ns.map V.int)→HOk P w H s₁.heap→(∀ b,H b≠none→b=a)→(H a≠none→K.lookup a=none) →
   codeAny (model P w) callerA (.call (.ref fa) ⟨[.ref a],[]⟩) (fun r s'=>r=.ok (.ret (.bool true))∧OldK s₁.heap s'.heap∧s'.os=s₁.os∧AllBare s'.gens) s₁:=by
  intro H hO hS hok hA hK
  have base_of:∀ {b:Addr} {o:Obj},s₁.heap.get? b=some o→H b=none→(hidT s₁.heap H).get? b=some o:=fun e n=>hidT_get e n
  have noA:∀ {b:Addr} {o:Obj} {es:Array DictEntry} {ep:Nat},s₁.heap.get? b=some o→o.data=.dict es ep→H b=none:=fun {b o es ep} e d=>by
   cases q:H b with
   | none=>rfl
   | some u =>
    have e':b=a:=hA b (by rw [q]; simp)
    subst e'
    rw [ha] at e; cases e
    have d':Data.seq vs.toArray _=Data.dict es ep:=d
    cases d'
  have nsK:∀ {b:Addr} {m:Str→Option Value},s₁.heap.Ns b m→(hidT s₁.heap H).Ns b m:=fun {b m} ⟨o,es,ep,e,d,r⟩=>⟨o,es,ep,base_of e (noA e d),d,r⟩
  have hKb:K.In (hidT s₁.heap H):=fun b o e=>base_of (KX b o e) (by
   cases q:H b with
   | none=>rfl
   | some u =>
    have e':b=a:=hA b (by rw [q]; simp)
    subst e'
    rw [hK (by rw [q]; simp)] at e; cases e)
  have hM:Mod K mg (hidT s₁.heap H):=⟨hKb,nsK hns,⟨mb,nsK hb,hbb⟩,let ⟨mc,h1,h2⟩:=hlim; ⟨mc,nsK h1,h2⟩⟩
  have e0:Env0 P w K mg (hidT s₁.heap H) callerA [] s₁ H:=⟨rfl,hM,fun b o e=>of_hidT e,Nat.le_of_eq (hidT_size _ _),trivial,fun b hb=>absurd (show b∈([]:List Addr) from hb) (by simp),hok,.of_eq hg⟩
  refine codeAny_mono ((F _ hKb (nsK hns)).run callerA [] s₁ H ⟨[.ref a],[]⟩ [.ref a] [.ref a] _ _ hr e0 (hbind s₁ (.ref a)) (.cons rfl .nil) (hsp H hO hS)) fun r s' h=>?_
  cases r with
  | error e=>exact (hCX H e s' h).elim
  | ok fl =>
   cases fl with
   | next=>exact False.elim h
   | brk=>exact False.elim h
   | cont=>exact False.elim h
   | ret u =>
    obtain ⟨v,H',os,bare,un,hok',r',q⟩:=h
    have q':v=.bl true:=q
    subst q'
    obtain rfl:u=Value.bool true:=r'
    refine ⟨rfl,OldK.of_keep fun b o e=>?_,os,bare⟩
    cases q:H b with
    | none=>exact un.keep b o e q (by intro z; exact absurd (show b∈([]:List Addr) from z) (by simp)) (by simp)
    | some u =>
     rcases hO b with z | ⟨ob,xs,z⟩
     ·rw [q] at z; cases z
     ·have z2:=un.frzs b ob _ z
      obtain ⟨e1,_⟩:=hok b _ z
      obtain ⟨e2,_⟩:=hok' b _ z2
      rw [e] at e1; cases e1
      exact e2
 cases hk:K.lookup a with
 | some o =>
  have e:=KX a o hk
  rw [ha] at e
  cases e
  refine core (fun _=>none) (fun _=>.inl rfl) (.inr ⟨_,vs.toArray,_,hk,rfl,rfl,rfl,by rw [List.size_toArray,lenV]; exact hl,by simpa using rv⟩) (fun b u z=>by have z':(none:Option HO)=some u:=z; cases z') (fun b z=>absurd rfl z) fun z=>absurd rfl z
 | none =>
  refine core (fun b=>if b=a then some (.frz { cls:=.type "list",data:=.seq vs.toArray } (.lst (ns.map V.int))) else none) (fun b=>?_) (.inl (.inr ⟨{ cls:=.type "list",data:=.seq vs.toArray },if_pos rfl⟩)) (fun b u z=>?_) (fun b z=>?_) fun _=>hk
  ·by_cases hb:b=a
   ·exact .inr ⟨_,_,if_pos hb⟩
   ·exact .inl (if_neg hb)
  ·by_cases hb:b=a
   ·have z':=(if_pos hb).symm.trans z
    cases z'
    subst hb
    exact ⟨ha,by rw [List.length_map]; exact hl,vs,_,rv,ha⟩
   ·have z':=(if_neg hb).symm.trans z
    cases z'
  ·by_cases hb:b=a
   ·exact hb
   ·exact absurd (if_neg hb) z
end L2
namespace L2
open PySem PySem.Spec PyProof.Rows
theorem walk_of {l:PySem.W.OpenLaw} {n k:Nat} {q:Program} {loose:List Str} {XP:(Str→Option Value)→Heap→Prop} {YP:World→Heap→Prop} {d:DefRec} {K:Params→PySem.W.Frag} {CX:World→CXT} {sp:World→Sp} {x:Str}
  (hn:l.most=some n) (hn2:n≤sizeLine) (hdf:d.params.defaults=[]) (hr:Room k callerA)
  (hY:∀ (w:World) (h:Heap),YP w h→(K w.params).In h)
  (F:∀ (w:World) (mg:Str→Option Value) (fa:Addr) (h:Heap),(K w.params).In h→h.Ns mainGlobals mg→mg d.name=some (.ref fa) →
   ∃ fd:FuncData,(∀ (s:Shared) (u:Value),BindsTo s fd ⟨[u],[]⟩ [(x,u)]) ∧
    ∀ base:Heap,(K w.params).In base→base.Ns mainGlobals mg→FnOk l.prog w (K w.params) mg base (CX w) k fa fd [x] (sp w))
  (hsp:∀ (w:World) (H:Hp) (a:Addr) (ns:List Int),ns.length≤n→Only H→SqL (K w.params) H a (ns.map V.int)→sp w [.ref a] H (fun v _=>v=.bl true) fun _ _ _=>False)
  (hCX:∀ (w:World) (H:Hp) (s:Shared) (e:Value) (s':Shared),CX w [] H s (fun _ _ _=>False) e s'→False) :
  PySem.W.WalkO q loose XP YP l.row.toRowW d [] (fun f vs=>PySem.call f vs):=by
 refine Att.attach_call hn hdf fun w s₀ s₁ mg mb fa o pm cd doc a vs ns G Y ho hd hcd hmg hobj hints hlen hg=>?_
 have KX:=hY w _ Y
 obtain ⟨fd,hb,hF⟩:=F w mg fa _ KX G.T.g hmg
 exact law_call KX G.T.g G.T.b G.T.builtins G.T.nolimit hg hobj hints (Nat.le_trans hlen hn2) hr hF hb (fun H hO hS=>hsp w H a ns hlen hO hS) fun H e s'=>hCX w H s₁ e s'
end L2
namespace L2
open PySem PySem.Spec PyProof.Rows
def z1g (s:Stmt) (j:Nat):Stmt:=match s with
 | .ClassDef _ _ _ body _ _ _ _ _ _ _=>body.getD j (.Pass ⟨0,0,0,0⟩)
 | _=>.Pass ⟨0,0,0,0⟩
def z0f (s:Stmt):Arguments:=match s with
 | .FunctionDef _ a _ _ _ _ _ _ _ _=>a
 | _=>{ posonlyargs:=[],args:=[],vararg:=none,kwonlyargs:=[],kw_defaults:=[],kwarg:=none,defaults:=[] }
def z0c (s:Stmt):List Stmt:=match s with
 | .FunctionDef _ _ b _ _ _ _ _ _ _=>b
 | _=>[]
def z06 (s:Stmt):Scope:=match s with
 | .FunctionDef _ _ _ _ _ _ sc _ _ _=>sc
 | _=>{ kind:=.function,names:=[],isGenerator:=false,isCoroutine:=false }
abbrev CX0:CXT:=fun _ _ _ _ _ _=>False
abbrev E0:XK:=fun _ _ _=>False
theorem z0z {X:Cx}:Passes CX0 X E0:=fun _ _ _ _ _ _ _ h=>h.elim
structure Fun (K:PySem.W.Frag) (x qual:Str) (st:Stmt) (f:Addr) (fd:FuncData):Prop where
 ex:∃ (oc:Value) (od:Option Addr) (kV doc pm:Value) (an:Option Addr) (cdv ct:Value) (osl:Array (Option Value)),
  fd=PySem.W.fnOf x qual (z0f st) (z0c st) (z06 st) .none kV doc pm an cdv ct∧K.lookup f=some ⟨oc,od,.func fd,osl⟩∧PySem.W.codeIn K cdv qual=true
 kp:PySem.W.keepIn K (.ref f)=true
section
variable {P:Program} {w:World} {K:PySem.W.Frag} {mg:Str→Option Value} {base:Heap}
theorem Fun.ok {x qual:Str} {st:Stmt} {f:Addr} {fd:FuncData} {N ps:List Str} {k:Nat} {sp:Sp} (F:Fun K x qual st f fd) (S:z0h N ps (z06 st)) (len:∀ vs H Q E,sp vs H Q E→vs.length=ps.length)
  (hbody:∀ (cdv:Value) (A:Around) (outer:List Env) (s:Shared) (H:Hp) (vs:List V) (Q:VK) (E:XK),Room k (A.deeper (envOfC qual (z06 st) s.heap.objs.size f cdv))→sp vs H Q E →
   ∃ t,PSs (cxOf CX0 P w K mg base N qual (z06 st) f cdv A outer s H E).nox (z0c st) t∧t { nx:=fun _ H'=>Q .non H',rt:=Q } (start N vs) H):FnOk P w K mg base CX0 (k+1) f fd ps sp:=by
 obtain ⟨oc,od,kV,doc,pm,an,cdv,ct,osl,rfl,lk,hcd⟩:=F.ex
 refine fn_of lk hcd S len fun A outer s H vs Q E hr hsp=>?_
 obtain ⟨t,h,q⟩:=hbody cdv A outer s H vs Q E hr hsp
 exact ⟨t,h.nox,q⟩
theorem Fun.binds {x qual:Str} {st:Stmt} {f:Addr} {fd:FuncData} {ps:List Str} (F:Fun K x qual st f fd)
  (h:∀ (kV doc pm:Value) (an:Option Addr) (cdv ct:Value) (us:List Value),us.length=ps.length→bindArgs (PySem.W.fnOf x qual (z0f st) (z0c st) (z06 st) .none kV doc pm an cdv ct) ⟨us,[]⟩=pure (ps.zip us)):z0r K fd ps []:=by
 obtain ⟨oc,od,kV,doc,pm,an,cdv,ct,osl,rfl,lk,hcd⟩:=F.ex
 exact .all (h kV doc pm an cdv ct)
theorem z0s {x qual:Str} {st:Stmt} {f:Addr} {oc:Value} {od an:Option Addr} {osl:Array (Option Value)} {kV doc pm cdv ct:Value} (l:K.lookup f=some ⟨oc,od,.func (PySem.W.fnOf x qual (z0f st) (z0c st) (z06 st) .none kV doc pm an cdv ct),osl⟩)
  (c:PySem.W.codeIn K cdv qual=true) (k:PySem.W.keepIn K (.ref f)=true):Fun K x qual st f (PySem.W.fnOf x qual (z0f st) (z0c st) (z06 st) .none kV doc pm an cdv ct):=⟨⟨oc,od,kV,doc,pm,an,cdv,ct,osl,rfl,l,c⟩,k⟩
end
theorem z2n {A:Around} {k:Nat} (hr:Room k A):A.units+1<cLine:=Nat.lt_of_le_of_lt (Nat.add_le_add_left (by decide:1≤64) _) hr.units
theorem small1000 {n:Nat} (h:n≤1000):n<sizeLine:=Nat.lt_of_le_of_lt h (by decide)
section
variable {X:Cx}
theorem pv (i:Nat) {x:Str} {pos:Pos} (hN:X.N[i]?=some x:=by rfl) (hv:Vis X.env.scope x:=by first | exact Or.inl rfl | exact Or.inr (Or.inl rfl) | exact Or.inr (Or.inr rfl)) (hd:(x == ("__debug__":Str))=false:=by decide)
  (hcd:(x == ("__classdict__":Str))=false:=by decide):PE X (.Name x pos) (tVar i):=pe_var hN hv hd hcd
end
theorem iteF {A B:Prop} (h:B):if false=true then A else B:=by
 rw [if_neg Bool.false_ne_true]
 exact h
theorem iteT {A B:Prop} (h:A):if true=true then A else B:=by
 rw [if_pos rfl]
 exact h
theorem ite2 {c A B:Prop} [Decidable c] (h1:c→A) (h2:¬c→B):if c then A else B:=by
 by_cases h:c
 ·rw [if_pos h]
  exact h1 h
 ·rw [if_neg h]
  exact h2 h
theorem iteNS {c A B:Prop} [Decidable c] (hc:c) (h:B):if (!decide c)=true then A else B:=by
 rw [decide_eq_true hc]
 exact iteF h
def Same (H H':Hp):Prop:=∀ b o,H b=some o→H' b=some o
theorem Same.refl (H:Hp):Same H H:=fun _ _ h=>h
theorem Same.trans {H H1 H2:Hp} (a:Same H H1) (b:Same H1 H2):Same H H2:=fun c o h=>b c o (a c o h)
theorem Same.free {H H':Hp} (e:Same H H') {l:Addr} (h:H' l=Option.none):H l=Option.none:=by
 cases q:H l with
 | none=>rfl
 | some o =>
  rw [e l o q] at h
  cases h
theorem Same.seq {K:PySem.W.Frag} {H H':Hp} {a:Addr} {xs:List V} (e:Same H H') (h:SqL K H a xs):SqL K H' a xs:=by
 rcases h with (h | ⟨o,h⟩) | h
 ·exact .inl (.inl (e _ _ h))
 ·exact .inl (.inr ⟨o,e _ _ h⟩)
 ·exact .inr h
section
variable {κ:Type} [DecidableEq κ]
end
end L2
set_option Elab.async false
set_option linter.all false
set_option maxRecDepth 100000
namespace L2
open PySem PySem.Spec PyProof.Rows
section
variable {X:Cx} {pins:List (Addr × Obj)} {σ:St} {H:Hp} {s:Shared}
theorem TyOf.kit {x:V} {u t:Value} (I:Inv X pins σ H s) (rx:RelV x u) (ty:TyOf X.K H x t) :
  ∃ HH:Heap→Prop,PySem.W.KitX X.K u t HH∧HH s.heap∧u≠.builtin "__main__.__loader__#opaque":=by
 cases ty with
 | non=>cases (show u=Value.none from rx); exact ⟨_,PySem.W.kitx_none,True.intro,fun z=>nomatch z⟩
 | bl y=>cases (show u=Value.bool y from rx); exact ⟨_,PySem.W.kitx_bool,True.intro,fun z=>nomatch z⟩
 | int i=>obtain ⟨t,q⟩:=(show ∃ t,u=Value.int i t from rx); cases q; exact ⟨_,PySem.W.kitx_int,True.intro,fun z=>nomatch z⟩
 | str y=>obtain ⟨t,q⟩:=(show ∃ t,u=Value.str y t from rx); cases q; exact ⟨_,PySem.W.kitx_str,True.intro,fun z=>nomatch z⟩
 | flt y=>obtain ⟨t,q⟩:=(show ∃ t,u=Value.float y t from rx); cases q; exact ⟨_,PySem.W.kitx_float,True.intro,fun z=>nomatch z⟩
 | @lst a xs ea =>
  cases (show u=Value.ref a from rx)
  obtain ⟨_,_,n,_,h1⟩:=(show z1n X.prog X.w H s.heap a (.lst xs) from I.hok a _ ea)
  exact ⟨_,PySem.W.kitx_list,⟨_,h1,rfl⟩,fun z=>nomatch z⟩
 | @frz a ob xs ea =>
  cases (show u=Value.ref a from rx)
  obtain ⟨_,_,_,n,_,h1⟩:=(show z1n X.prog X.w H s.heap a (.frz ob (.lst xs)) from I.hok a _ ea)
  exact ⟨_,PySem.W.kitx_list,⟨_,h1,rfl⟩,fun z=>nomatch z⟩
 | @tup a xs ea =>
  cases (show u=Value.ref a from rx)
  obtain ⟨_,_,_,o,h1,h2,_⟩:=(show z1n X.prog X.w H s.heap a (.tup xs) from I.hok a _ ea)
  exact ⟨_,PySem.W.kitx_tuple,⟨o,h1,h2⟩,fun z=>nomatch z⟩
 | @dK a kvs ea =>
  cases (show u=Value.ref a from rx)
  obtain ⟨_,_,vs,_,o,es,ep,h1,h2,_⟩:=(show z1n X.prog X.w H s.heap a (.dK kvs) from I.hok a _ ea)
  exact ⟨_,PySem.W.kitx_dict,⟨o,h1,h2.1⟩,fun z=>nomatch z⟩
 | @dT a kvs ea =>
  cases (show u=Value.ref a from rx)
  obtain ⟨_,_,xs,_,o,es,ep,h1,h2,_⟩:=(show z1n X.prog X.w H s.heap a (.dT kvs) from I.hok a _ ea)
  exact ⟨_,PySem.W.kitx_dict,⟨o,h1,h2.1⟩,fun z=>nomatch z⟩
 | @ins a C dx fs ea cl ha hn htk hm =>
  cases (show u=Value.ref a from rx)
  obtain ⟨mA,O,_⟩:=ins_get I.hok ea
  obtain ⟨od,J,_⟩:=O.look
  exact ⟨_,PySem.W.kitx_own (cl.get _) cl.hd ha hn htk hm,J,fun z=>nomatch z⟩
end
section
variable {X:Cx}
def rIsi (K:PySem.W.Frag):List V→Hp→VK→Prop:=fun xs H Q=>∃ x t T b,xs=[x,.ty T]∧TyOf K H x t∧PySem.W.kitOne K t (.type T)=some b∧Q (.bl b) H
theorem z2g:CallR X (.builtin "isinstance") (rIsi X.K):=by
 intro pins s σ H xs us Q I rv h
 obtain ⟨x,t,T,b,rfl,ty,e,q⟩:=h
 obtain ⟨u,v,rfl,ru,rv'⟩:=rv.two
 have rv2:v=Value.type T:=rv'
 subst rv2
 exact isinst_ok I ru ty e fun tk=>⟨.bl b,H,I.tok tk,rfl,q⟩
theorem vals_ty:∀ {Ts:List String} {its:List Value},Vals (Ts.map V.ty) its→its=Ts.map Value.type
 | [],_,.nil=>rfl
 | T::Ts,_,.cons r t=>by
  have e:_=Value.type T:=r
  rw [e,vals_ty t]
  all_goals rfl
def rIsiT (K:PySem.W.Frag):List V→Hp→VK→Prop:=fun xs H Q=>∃ (x:V) (t:Value) (p:Addr) (Ts:List String) (b:Bool),xs=[x,.ref p]∧TyOf K H x t∧H p=some (.tup (Ts.map V.ty))∧PySem.W.kitAny K t (Ts.map Value.type)=some b∧Q (.bl b) H
theorem call_isiT:CallR X (.builtin "isinstance") (rIsiT X.K):=by
 intro pins s σ H xs us Q I rv h
 obtain ⟨x,t,p,Ts,b,rfl,ty,hp,e,q⟩:=h
 obtain ⟨u,v,rfl,ru,rv'⟩:=rv.two
 cases (show v=Value.ref p from rv')
 obtain ⟨its,r,⟨o,ho,hc,n,hd⟩,_⟩:=I.tuple (SqT.of hp)
 obtain ⟨c,dd,dt,sl⟩:=o
 simp only at hc hd
 subst hc hd
 have ei:=vals_ty r
 subst ei
 obtain ⟨HH,Z,hh,hx⟩:=TyOf.kit I ru ty
 exact PySem.W.kia_tup Z I.kIn hh ho e hx fun tk=>⟨.bl b,H,I.tok tk,rfl,q⟩
def rNeNil:R2:=fun x y H Q=>∃ a b xs,x=.ref a∧y=.ref b∧H a=some (.lst xs)∧H b=some (.lst [])∧Q (.bl (!xs.isEmpty)) H
theorem op_neNil (hu:X.A.units<cLine):OpR X (compareOp .NotEq) rNeNil:=by
 intro pins s σ H x y v u Q I rx ry h
 obtain ⟨a,b,xs,rfl,rfl,ha,hb,q⟩:=h
 cases rx
 cases ry
 obtain ⟨its,r,p,_⟩:=I.list (SqL.of ha)
 obtain ⟨its2,r2,p2,_⟩:=I.list (SqL.of hb)
 cases r2
 cases xs with
 | nil =>
  cases r
  exact SeqAt.RcNeAt.lists (e:=fun _=>true) p.isList p2.isList rfl hu (fun j h1 _=>absurd h1 (by simp)) X.prog X.w X.xe _ ⟨.bl false,H,I,rfl,q⟩
 | cons x xs =>
  cases r
  exact SeqAt.RcNeAt.lists_lengths p.isList p2.isList (by simp) hu X.prog X.w X.xe _ ⟨.bl true,H,I,rfl,q⟩
section
open AutoSeq1 (wpAny_loadPart')
theorem extend_tuple_any (l:Addr) (items:Array Value) (n:Nat) (b:Addr) (items2:Array Value) (n2:Nat) (dd:Option Addr) (sl:Array (Option Value)) (hs0:¬(!items.isEmpty && Builtin.List.listTooLong (items.size+items2.size))=true) (hs1:items.size≤sizeLine) (hs2:items.size+items2.size≤sizeLine+1) :
  Meets (Builtin.«list.extend» ⟨[.ref l,.ref b],[]⟩) (fun _ R s=>s.heap.get? l=some { cls:=.type "list",dict:=none,data:=.seq items n,slots := #[] }∧s.heap.get? b=some { cls:=.type "tuple",dict:=dd,data:=.seq items2 n2,slots:=sl }∧R (.ok (.ret Value.none)) { s with heap:=s.heap.update l (Obj.mapSeq fun x=>x++items2),toks:=s.toks }) :=
 .of_wp fun prog w A R s h=>by
  obtain ⟨hp,g,d,tk,os⟩:=s; obtain ⟨hl,hb,h⟩:=h; have f1:=AutoSeq1.idx_int; have f2:=AutoSeq1.sub_tuple_tuple; have f3:=AutoSeq1.sub_list_list; have f4:=AutoSeq1.sub_tuple_list; have f5:=AutoSeq1.sub_list_tuple;
  have hz':(items++items2).size≤sizeLine+1:=by rw [Array.size_append]; exact hs2
  wp_walk using (wpAny_updateSeq hl rfl (hz:=hs1) (_hz':=hz')),wpAny_loadPart' hl,wpAny_loadPart' hb; exact ⟨_,rfl,h⟩
end
def rExtendT:V→List V→Hp→VK→Prop:=fun x vs H Q=>∃ l b xs zs,x=.ref l∧vs=[.ref b]∧H l=some (.lst xs)∧H b=some (.tup zs)∧xs.length+zs.length≤sizeLine∧Q .non (upd H l (.lst (xs++zs)))
theorem mt_extendT:MtM X "list.extend" rExtendT:=by
 intro pins s σ H x vs v us Q I rx rv h
 obtain ⟨l,b,xs,zs,rfl,rfl,hH,hB,hz,q⟩:=h
 cases rx
 obtain ⟨u,rfl,ru⟩:=rv.one
 cases ru
 obtain ⟨z,its,n,r,hl,e⟩:=I.lstM hH
 obtain ⟨its2,r2,⟨o,ho,hc,n2,hd⟩,_⟩:=I.tuple (SqT.of hB)
 obtain ⟨c,dd,dt,sl⟩:=o
 simp only at hc hd
 subst hc hd
 have hl2:=r2.length
 have hsz:its.toArray.size+its2.toArray.size≤sizeLine:=by rw [List.size_toArray,List.size_toArray]; omega
 have hlong:¬(!its.toArray.isEmpty && Builtin.List.listTooLong (its.toArray.size+its2.toArray.size))=true:=by
  rw [notLongL hsz,Bool.and_false]
  exact Bool.false_ne_true
 refine call_meets F.slot_list_extend ⟨_,e,rfl⟩ F.entry_list_extend (F.args_list_extend_2 _ _)
  (extend_tuple_any l its.toArray n b its2.toArray n2 dd sl hlong (by rw [List.size_toArray]; omega) (by omega)) ⟨e,ho,?_⟩
 refine ⟨.non,_,I.lset (its':=its++its2) hH e (by simp) (r.append r2) ?_,rfl,q⟩
 rw [List.length_append]
 omega
def rExtend2:V→List V→Hp→VK→Prop:=fun x vs H Q=>∃ l b xs zs,x=.ref l∧vs=[.ref b]∧H l=some (.lst xs)∧(H b=some (.lst zs)∨H b=some (.tup zs))∧xs.length+zs.length≤sizeLine∧Q .non (upd H l (.lst (xs++zs)))
theorem mt_extend2:MtM X "list.extend" rExtend2:=by
 intro pins s σ H x vs v us Q I rx rv h
 obtain ⟨l,b,xs,zs,e1,e2,hH,hB | hB,hz,q⟩:=h
 ·exact mt_extend pins s σ H x vs v us Q I rx rv ⟨l,b,xs,zs,e1,e2,hH,hB,hz,q⟩
 ·exact mt_extendT pins s σ H x vs v us Q I rx rv ⟨l,b,xs,zs,e1,e2,hH,hB,hz,q⟩
end
section
variable {X:Cx} {a b:Expr} {tA tB':TT} {pos:Pos}
theorem pt_or2 (ha:PT X a tA) (hb:PT X b tB'):PT X (.BoolOp .Or [a,b] pos) (tOr tA tB'):=(pw_or ha (pw_or1 hb)).pt
theorem pt_and2 (ha:PT X a tA) (hb:PT X b tB'):PT X (.BoolOp .And [a,b] pos) (tAnd tA tB'):=(pw_and ha (pw_and1 hb)).pt
end
theorem le5 {xs:List V} (h:Nat.ble xs.length 1000=true:=by rfl):xs.length≤sizeLine:=Nat.le_trans (Nat.le_of_ble_eq_true h) (by decide)
end L2
set_option Elab.async false
set_option linter.all false
set_option maxRecDepth 100000
namespace L2
open PySem PySem.Spec PyProof.Rows
theorem compLoop_go {prog:Program} {w:World} {A:Around} {R:Result→Shared→Prop} {s:Shared} {elt target iter:Expr} {scope:Scope} {pos:Pos} {it acc:Value} {env:Env} (I:Nat→Shared→Prop)
  (turn:∀ n s,I n s→wpAny (model prog w) A (pyNext it) (fun r s₁=>match r with
   | none=>R (.ok .next) s₁
   | some v=>wpAny (model prog w) A (letOwnedTupleGo target it v) (fun _ s₂=>wpAny (model prog w) A (assign target env v) (fun _ s₃=>wpAny (model prog w) A (eval elt env) (fun x s₄ =>
     wpAny (model prog w) A (call (.builtin "list.append") [acc,x]) (fun _ s₅=>∃ m,m<n∧I m s₅) (fun _ _=>False) s₄) (fun _ _=>False) s₃) (fun _ _=>False) s₂) (fun _ _=>False) s₁) (fun _ _=>False) s)
  (n:Nat) (h:I n s):codeAny (model prog w) A (.compLoop (.ListComp elt [⟨target,iter,[],0⟩] scope pos) 0 it acc env) R s:=by
 refine codeAny_loop rfl I (fun n s hI=>?_) n h
 show wpAny _ _ ((compTurn (.ListComp elt [⟨target,iter,[],0⟩] scope pos) 0 it acc env).onRaise (fun x=>do noteFrame x env; theTreesLotGoes x)) _ _ s
 refine wpAny_noted ?_
 rw [compTurn_list1]
 refine wpAny_bind (wpAny_standAt (wpAny_bind (wpAny_mono (turn n s hI) (fun r s₁ h₁=>?_) fun _ _ z=>False.elim z)))
 cases r with
 | none=>exact wpAny_pure h₁
 | some v =>
  refine wpAny_bind (wpAny_mono h₁ (fun _ s₂ h₂=>?_) fun _ _ z=>False.elim z)
  exact wpAny_bind (wpAny_mono h₂ (fun _ s₃ h₃=>wpAny_bind (wpAny_bind (wpAny_mono h₃ (fun x s₄ h₄=>wpAny_bind (wpAny_mono h₄
   (fun _ s₅ h₅=>wpAny_pure (wpAny_pure ⟨rfl,h₅⟩)) fun _ _ z=>False.elim z)) fun _ _ z=>False.elim z))) fun _ _ z=>False.elim z)
def blk (X:Cx) (N':List Str) (scope:Scope) (cl:List (Str × Addr)) (C:Addr) (s:Shared) (H:Hp) (fp:List Addr):Cx :=
 { X with N:=N',s₀:=s,H₀:=H,env:=compEnvC scope cl C X.env,outer:=X.stack,stack:=X.stack,ex:=fp,fn:=fun _=>false,xe:=fun _ _=>False }
def pick (σ:St) (fr:List Nat):St:=fr.map fun j=>(σ[j]?).getD none
structure BlkOk (X:Cx) (x:Str) (fr:List Nat) (N':List Str) (scope:Scope) (cl:List (Str × Addr)):Prop where
 clos:closureFor scope X.env=pure cl
 cell:∀ y∈scope.names,y.2≠.cell
 kind:scope.kind=.function
 names:∀ y∈scope.names,y.2=.local→scope.names.lookup y.1=some .local
 loc:scope.names.lookup x=some .local
 sub:∀ y c,cl.lookup y=some c→X.env.cells.lookup y=some c
 has:∀ y,((relabel scope X.env).names.lookup y=some .cell∨(relabel scope X.env).names.lookup y=some .free)→∃ c,cl.lookup y=some c
 hx:N'[0]?=some x
 len:N'.length=fr.length+1
 nd:N'.Nodup
 see:∀ (i j:Nat) (y:Str),N'[i+1]?=some y→fr[i]?=some j→X.N[j]?=some y∧X.env.scope.names.lookup y=some .cell∧(relabel scope X.env).names.lookup y=some .cell
theorem z2e:∀ {names:List (Str × NameKind)} {y:Str} {k:NameKind},(∀ z∈names,z.2=.local)→names.lookup y=some k→k=.local
 | [],_,_,_,h=>by simp at h
 | (n,k')::r,y,k,ha,h=>by
  rw [List.lookup_cons] at h
  cases e:y == n with
  | true =>
   rw [e] at h
   have h':some k'=some k:=h
   cases h'
   exact ha (n,k') List.mem_cons_self
  | false =>
   rw [e] at h
   exact z2e (fun z hz=>ha z (List.mem_cons_of_mem _ hz)) h
theorem lookup_mem_local:∀ {names:List (Str × NameKind)} {y:Str × NameKind},(∀ z∈names,z.2=.local)→y∈names→names.lookup y.1=some .local
 | [],_,_,h=>by simp at h
 | (n,k')::r,y,ha,h=>by
  rw [List.lookup_cons]
  cases e:y.1 == n with
  | true =>
   have:=ha (n,k') List.mem_cons_self
   dsimp only at this ⊢
   rw [this]
  | false =>
   rcases List.mem_cons.mp h with z | z
   ·rw [z] at e
    simp at e
   ·exact lookup_mem_local (fun z hz=>ha z (List.mem_cons_of_mem _ hz)) z
theorem relabel_local {scope:Scope} {env:Env} (h:∀ z∈scope.names,z.2=.local):(relabel scope env).names=scope.names:=by
 unfold relabel
 show scope.names.map _=scope.names
 refine map_eq_self fun z hz=>?_
 obtain ⟨n,k⟩:=z
 have:=h (n,k) hz
 dsimp only at this
 subst this
 rfl
theorem BlkOk.plain {X:Cx} {x:Str} {scope:Scope} (hl:∀ z∈scope.names,z.2=.local) (hk:scope.kind=.function) (hx:scope.names.lookup x=some .local):BlkOk X x [] [x] scope [] where
 clos:=closureFor_none fun z hz e=>by rw [hl z hz] at e; cases e
 cell:=fun y hy e=>by rw [hl y hy] at e; cases e
 kind:=hk
 names:=fun y hy _=>lookup_mem_local hl hy
 loc:=hx
 sub:=fun y c e=>by simp at e
 has:=fun y e=>by
  rw [relabel_local hl] at e
  rcases e with e | e
  ·cases z2e hl e
  ·cases z2e hl e
 hx:=rfl
 len:=rfl
 nd:=by simp
 see:=fun i j y _ e=>by simp at e
def CompW (J:It) (te:TE) (σ':St) (Q:VK) (H:Hp) (acc:Addr):Prop :=
 ∃ (n:Nat) (W:Nat→List V→Hp→Prop),W 0 [] (upd H acc (.lst []))∧∀ i ys H2,W i ys H2→(J.stop i H2∧Q (.ref acc) H2) ∨
  (J.go i H2∧i<n∧∀ v H3,J.yld i H2 v H3→te (some v::σ') H3 fun y H4=>H4 acc=some (.lst ys)∧ys.length<sizeLine∧W (i+1) (ys++[y]) (upd H4 acc (.lst (ys++[y]))))
theorem comp_core {X:Cx} {pins:List (Addr × Obj)} {σ:St} {H:Hp} {s:Shared} {x:Str} {px:Pos} {elt iter:Expr} {scope:Scope} {pos:Pos} {cl:List (Str × Addr)} {N':List Str} {fr:List Nat} {te:TE} {J:It} {fp:List Addr} {it:Addr}
  {tn:Nat→Heap→Prop} {E:Value→Shared→Prop} {RR:Value→Addr→Result→Shared→Prop} {Q:VK} (B:BlkOk X x fr N' scope cl) (hc:X.calm=true) (I:Inv X pins σ H s) (T:Turn X.prog X.w X.K (.Name x px) J fp it tn)
  (st:tn 0 s.heap) (hf:∀ b∈fp,FpOk X pins H b) (he:∀ C s' H',PE (blk X N' scope cl C s' H' fp) elt te) (h:∀ acc,H acc=none→CompW J te (pick σ fr) Q H acc)
  (hRR:∀ acc C H' s' m,Inv X pins σ H' s'→Q (.ref acc) H'→s'.heap.Ns C m→H' C=none→C≠X.env.locals→(C∈X.ex∨X.s₀.heap.objs.size≤C)→(∀ y c,X.env.cells.lookup y=some c→c≠C)→(∀ p∈X.pn++pins,p.1≠C)→RR (.ref acc) C (.ok .next) s') :
  wpAny (model X.prog X.w) X.A (newList []) (fun acc s₃=>wpAny (model X.prog X.w) X.A (newFunctionEnv scope X.env.globals cl [] X.env.qual none .none (some X.env)) (fun cenv s₄ =>
   codeAny (model X.prog X.w) X.A (.compStart (.ListComp elt [⟨.Name x px,iter,[],0⟩] scope pos) 0 (.ref it) acc { cenv with scope:=relabel scope X.env }) (RR acc cenv.locals) s₄) E s₃) E s:=by
 refine wpAny_newObj_type (wpAny_newFunctionEnv B.cell (by intro y hy; simp at hy) (fun h₁ hns₁ hsb₁=>?_) B.kind)
 have I3:Inv X pins σ (upd H s.heap.objs.size (.lst [])) { s with heap:=s.heap.push { cls:=.type "list",data:=.seq ([]:List Value).toArray } }:=I.lnew (its:=[]) (t':=s.toks) .nil (Nat.zero_le _)
 obtain ⟨n,W,w0,turn⟩:=h s.heap.objs.size I.fresh
 dsimp only at hns₁ hsb₁ ⊢
 generalize hs3:({ s with heap:=s.heap.push { cls:=.type "list",data:=.seq ([]:List Value).toArray } }:Shared)=s3 at *
 have hh3:s.heap.push { cls:=.type "list",data:=.seq ([]:List Value).toArray }=s3.heap:=by rw [← hs3]
 have hh3':s.heap.push { cls:=.type "list",dict:=none,data:=.seq ([]:List Value).toArray }=s3.heap:=hh3
 rw [hh3'] at hns₁ hsb₁ ⊢
 have lt3:∀ b o,s3.heap.get? b=some o→b≠s3.heap.objs.size:=fun b o e=>Nat.ne_of_lt (Heap.lt_size e)
 have keep1:∀ b o,s3.heap.get? b=some o→h₁.get? b=some o:=fun b o e=>hsb₁.extBut b o (lt3 b o e) (Heap.get?_push_of_some _ e)
 have keep0:∀ b o,s.heap.get? b=some o→s3.heap.get? b=some o:=fun b o e=>by rw [← hh3]; exact Heap.get?_push_of_some _ e
 have st3:tn 0 h₁:=T.keep 0 _ _ st fun b _ o e=>keep1 b o (keep0 b o e)
 have obj3:∀ b∈fp,∃ o,s3.heap.get? b=some o:=fun b hb=>by
  obtain ⟨o,e,_⟩:=T.obj 0 _ st b hb
  exact ⟨o,keep0 b o e⟩
 have nstk:∀ b,b≠X.env.locals→b∉X.fs→b∉frs X.stack:=fun b h1 h2 hb=>by
  rcases List.mem_cons.mp (I3.stkSub b hb) with z | z
  ·exact h1 z
  ·exact h2 z
 have ok:(blk X N' scope cl s3.heap.objs.size s3 (upd H s.heap.objs.size (.lst [])) fp).Ok:=by
  refine ⟨I.ok.mod,?_,I.ok.glob,I.ok.blt,Nat.le_refl _,fun y z c h1 h2=>I.ok.inj y z c (B.sub y c h1) (B.sub z c h2),fun y hy=>B.has y hy,fun y c e _=>absurd (show false=true from e) Bool.false_ne_true,I.ok.hd,I.ok.frames,.inl rfl,fun b hb=>?_,I3.bs,
   Nat.le_trans I.ok.bsz I3.sz,fun b o e hb=>?_,fun b hb=>nstk b (hf b hb).2.1 (hf b hb).2.2.1,I3.stack,I3.stkFree⟩
  ·exact B.kind
  ·obtain ⟨o,e⟩:=obj3 b hb
   exact ⟨lt3 b o e,fun y c e=>(hf b hb).2.2.2.2.1 y c (B.sub y c e)⟩
  ·rcases (hf b hb).2.2.2.1 with z | z
   ·exact I.ok.noex b o e z
   ·exact absurd (Nat.lt_of_lt_of_le (Heap.lt_size (I.ok.bs b o e).1) z) (Nat.lt_irrefl _)
 have cellK:∀ c v,s3.heap.IsCell c v→h₁.IsCell c v:=fun c v ⟨o,ho,hd⟩=>⟨o,keep1 c o ho,hd⟩
 have stat:∀ {H':Hp},(∀ b∈fp,H' b=none)→∀ b∈fp,FpOk (blk X N' scope cl s3.heap.objs.size s3 (upd H s.heap.objs.size (.lst [])) fp) pins H' b:=fun hn b hb =>
  ⟨hn b hb,(ok.exf b hb).1,nstk b (hf b hb).2.1 (hf b hb).2.2.1,.inl hb,fun y c e=>(hf b hb).2.2.2.2.1 y c (B.sub y c e),(hf b hb).2.2.2.2.2⟩
 have I4:Inv (blk X N' scope cl s3.heap.objs.size s3 (upd H s.heap.objs.size (.lst [])) fp) pins (none::pick σ fr) (upd H s.heap.objs.size (.lst [])) { s3 with heap:=h₁ }:=by
  refine ⟨ok,rfl,I3.bare,Un.kept keep1,⟨_,hns₁,fun i y v h1 h2 h3=>?_⟩,fun y c e=>?_,I3.fresh,fun y c e=>I3.freeC y c (B.sub y c e),fun p hp=>?_,I3.hok.kept keep1,?_⟩
  ·cases i with
   | zero=>cases (show some none=some (some v) from h2)
   | succ i =>
    have h2:(pick σ fr)[i]?=some (some v):=h2
    unfold pick at h2
    rw [List.getElem?_map] at h2
    cases ej:fr[i]? with
    | none=>rw [ej] at h2; cases h2
    | some j =>
     rw [ej] at h2
     have h2':(σ[j]?).getD none=some v:=Option.some.inj h2
     have hσ:σ[j]?=some (some v):=by
      cases q:σ[j]? with
      | none=>rw [q] at h2'; cases h2'
      | some o =>
       rw [q] at h2'
       have:o=some v:=h2'
       rw [this]
     obtain ⟨b1,b2,b3⟩:=B.see i j y h1 ej
     obtain ⟨m3,_,hl3⟩:=I3.loc
     obtain ⟨u,ru,lk⟩:=hl3 j y v b1 hσ (.inr (.inl b2))
     refine ⟨u,ru,.inr ⟨.inl b3,?_⟩⟩
     rcases lk with ⟨k,_⟩ | ⟨_,c,e,z⟩
     ·have k':X.env.scope.names.lookup y=some .local:=k
      rw [b2] at k'
      cases k'
     ·obtain ⟨c',e'⟩:=B.has y (.inl b3)
      have:=B.sub y c' e'
      rw [e] at this
      cases this
      exact ⟨_,e',cellK _ _ z⟩
  ·obtain ⟨v,z⟩:=I3.cell y c (B.sub y c e)
   exact ⟨v,cellK c v z⟩
  ·obtain ⟨e,n0,ne,nf,d⟩:=I3.pin p hp
   exact ⟨keep1 _ _ e,n0,lt3 _ _ e,nstk _ ne nf,d⟩
  ·show (none::pick σ fr).length=N'.length
   rw [B.len,List.length_cons]
   unfold pick
   rw [List.length_map]
 have fin:∀ {H':Hp} {σ':St} {s':Shared},Inv (blk X N' scope cl s3.heap.objs.size s3 (upd H s.heap.objs.size (.lst [])) fp) pins σ' H' s'→Q (.ref s.heap.objs.size) H'→RR (.ref s.heap.objs.size) s3.heap.objs.size (.ok .next) s':=fun {H' σ' s'} J q=>by
  obtain ⟨m,hn,_⟩:=J.loc
  refine hRR _ _ H' s' m (I3.call' (ch:=fp) J.os J.base J.hok J.bare fun b hb=>⟨(hf b hb).2.2.2.1,(hf b hb).2.1,(hf b hb).2.2.2.2.1,(hf b hb).2.2.2.2.2⟩) q hn J.free (Nat.ne_of_gt I3.lt) (.inr I3.sz) (fun y c e=>?_) fun p hp=>?_
  ·obtain ⟨v,o,ho,_⟩:=I3.cell y c e
   exact lt3 c o ho
  ·exact lt3 _ _ (I3.pin p hp).1
 have loop:∀ s₃:Shared,s₃={ s3 with heap:=h₁ }→codeAny (model X.prog X.w) X.A (.compLoop (.ListComp elt [⟨.Name x px,iter,[],0⟩] scope pos) 0 (.ref it) (.ref s.heap.objs.size) (compEnvC scope cl s3.heap.objs.size X.env)) (RR (.ref s.heap.objs.size) s3.heap.objs.size) s₃:=by
  rintro s₃ rfl
  refine compLoop_go (fun m s'=>∃ i ys xo H',Inv (blk X N' scope cl s3.heap.objs.size s3 (upd H s.heap.objs.size (.lst [])) fp) pins (xo::pick σ fr) H' s'∧tn i s'.heap∧(∀ b∈fp,H' b=none)∧W i ys H'∧m=n - i) ?_ n ⟨0,[],none,_,I4,st3,fun b hb=>?_,w0,rfl⟩
  ·rintro m s' ⟨i,ys,xo,H',I',st',fr',w',rfl⟩
   rcases turn i ys H' w' with ⟨stop,q⟩ | ⟨go,hin,step⟩
   ·refine thn (T.done (blk X N' scope cl s3.heap.objs.size s3 (upd H s.heap.objs.size (.lst [])) fp) rfl rfl rfl hc i pins s' _ H' (fun _ _=>False) I' (stat fr') st' stop) fun r s1 ⟨hr,I1⟩=>?_
    subst hr
    exact fin I1 q
   ·refine thn (T.item (blk X N' scope cl s3.heap.objs.size s3 (upd H s.heap.objs.size (.lst [])) fp) rfl rfl rfl hc i pins s' _ H' (fun _ _=>False) I' (stat fr') st' go) fun r s1 ⟨u,hr,h4⟩=>?_
    subst hr
    refine thn h4 fun _ s5 ⟨v,H5,I5,r5,y5,st5,fr5⟩=>?_
    have I5':=I5.pinned (stat fr5) (T.obj _ _ st5)
    have kx:(relabel scope X.env).names.lookup x=some .local:=lookup_relabel_local B.loc
    refine thn (z1e (X:=blk X N' scope cl s3.heap.objs.size s3 (upd H s.heap.objs.size (.lst [])) fp) (i:=0) (x:=x) B.nd B.hx (.inl kx) (.inr kx) _ s5 _ H5 v u
     (fun σ' H6=>σ'=some v::pick σ fr∧H6=H5) I5' r5 ⟨rfl,rfl⟩) fun _ s6 ⟨σ6,H6,I6,e1,e2⟩=>?_
    subst e1 e2
    refine thn (he _ _ _ _ s6 _ _ _ I6 (step v _ y5)) fun y s7 ⟨vy,H7,I7,ry,hacc,hlen,w7⟩=>?_
    refine thn (z12 _ s7 _ H7 (.ref s.heap.objs.size) [vy] (.ref s.heap.objs.size) [y] (fun _ H8=>H8=upd H7 s.heap.objs.size (.lst (ys++[vy]))) I7 rfl (.cons ry .nil) ⟨_,ys,vy,rfl,rfl,hacc,hlen,rfl⟩) fun _ s8 ⟨_,H8,I8,_,e8⟩=>?_
    subst e8
    refine ⟨n - (i+1),by omega,i+1,ys++[vy],some v,_,I8.unpinned,T.keep _ _ _ st5 fun b hb o e=>(I8.pin (b,o) (List.mem_append_right _ (List.mem_append_right _ (z2i hb e)))).1,fun b hb=>?_,w7,rfl⟩
    obtain ⟨o,e,d⟩:=T.obj _ _ st5 b hb
    exact (I8.pin (b,o) (List.mem_append_right _ (List.mem_append_right _ (z2i hb e)))).2.1
  ·obtain ⟨o,e,_⟩:=T.obj 0 _ st b hb
   rw [z01 (Nat.ne_of_lt (Heap.lt_size e))]
   exact (hf b hb).1
 have e4:({ s with heap:=h₁,toks:=s.toks+([]:List (Str × Value)).length }:Shared)={ s3 with heap:=h₁ }:=by rw [← hs3]; rfl
 rw [e4]
 exact codeAny_compStart_list (loop _ rfl) (T.self _ 0 _ _ _ st3 (loop _ rfl))
section
variable {X:Cx} {x y:Str} {px py pos spos:Pos} {elt iter:Expr} {scope:Scope} {cl:List (Str × Addr)} {N':List Str} {fr:List Nat} {wi:TI} {te:TE}
def tComp (wi:TI) (fr:List Nat) (te:TE):TE:=fun σ H Q=>wi σ H fun J H1=>∀ acc,H1 acc=none→CompW J te (pick σ fr) Q H1 acc
theorem pe_comp (fr:List Nat) (N':List Str) (B:BlkOk X x fr N' scope cl) (hc:X.calm=true) (hi:PI X (.Name x px) iter wi) (he:∀ C s' H' fp,PE (blk X N' scope cl C s' H' fp) elt te) (hs:∀ x,foldedSetIterable iter X.env x=pure x:=by intro _; rfl) :
  PE X (.ListComp elt [⟨.Name x px,iter,[],0⟩] scope pos) (tComp wi fr te):=by
 intro pins s σ H Q I h
 rw [eval_ListComp]
 refine wpAny_comprehension_free (use:=none) rfl hs B.clos B.kind B.names (thn (hi pins s σ H _ I h) fun v s1 h1=>thn h1 fun itv s2 h2=>?_)
 obtain ⟨it,fp,tn,J,H2,e,I2,T,st2,f2,q2⟩:=h2
 subst e
 refine comp_core (RR:=fun acc C=>compPost (model X.prog X.w) X.A X.xe none (EP X pins σ Q) acc C) B hc I2 T st2 f2 (fun C s' H'=>he C s' H' fp) q2 ?_
 intro acc C H' s' m I' q hn h0 h1 h3 h4 h5
 refine ⟨m,hn,fun h' sb=>⟨.ref acc,H',I'.turned (t':=s'.toks) (fun b o hb e=>(sb.2 b hb).trans e) h0 h1 h3 h4 h5,rfl,q⟩⟩
end
end L2
set_option Elab.async false
set_option linter.all false
set_option maxRecDepth 100000
namespace L2
open PySem
inductive D where
 | int (i:Int)
 | str (x:Str)
 | tup (l:List D)
 | lst (l:List D)
mutual
def D.sz:D→Nat
 | .int _=>1
 | .str _=>1
 | .tup l=>1+szs l
 | .lst l=>1+szs l
def szs:List D→Nat
 | []=>0
 | d::r=>d.sz+szs r
end
mutual
def Rep (H:Hp):D→V→Prop
 | .int i,v=>v=.int i
 | .str x,v=>v=.str x
 | .tup l,v=>∃ a xs,v=.ref a∧H a=some (.tup xs)∧Reps H l xs
 | .lst l,v=>∃ a xs,v=.ref a∧H a=some (.lst xs)∧Reps H l xs
def Reps (H:Hp):List D→List V→Prop
 | [],xs=>xs=[]
 | d::r,xs=>∃ x t,xs=x::t∧Rep H d x∧Reps H r t
end
mutual
theorem Rep.mono {H H':Hp} (s:Same H H'):∀ (d:D) (v:V),Rep H d v→Rep H' d v
 | .int _,_,h=>h
 | .str _,_,h=>h
 | .tup l,_,h=>by
  unfold Rep at h ⊢
  obtain ⟨a,xs,e,q,r⟩:=h
  exact ⟨a,xs,e,s _ _ q,Reps.mono s l xs r⟩
 | .lst l,_,h=>by
  unfold Rep at h ⊢
  obtain ⟨a,xs,e,q,r⟩:=h
  exact ⟨a,xs,e,s _ _ q,Reps.mono s l xs r⟩
theorem Reps.mono {H H':Hp} (s:Same H H'):∀ (l:List D) (xs:List V),Reps H l xs→Reps H' l xs
 | [],_,h=>h
 | d::r,_,h=>by
  unfold Reps at h ⊢
  obtain ⟨x,t,e,q,z⟩:=h
  exact ⟨x,t,e,Rep.mono s d x q,Reps.mono s r t z⟩
end
theorem D.sz_pos:∀ d:D,1≤d.sz
 | .int _=>by unfold D.sz; omega
 | .str _=>by unfold D.sz; omega
 | .tup _=>by unfold D.sz; omega
 | .lst _=>by unfold D.sz; omega
theorem z26:szs []=0:=by unfold szs; rfl
theorem z1q (d:D) (r:List D):szs (d::r)=d.sz+szs r:=by rw [szs]
theorem sz_tup (l:List D):(D.tup l).sz=1+szs l:=by rw [D.sz]
theorem sz_lst (l:List D):(D.lst l).sz=1+szs l:=by rw [D.sz]
theorem sz_int (i:Int):(D.int i).sz=1:=by rw [D.sz]
theorem sz_str (x:Str):(D.str x).sz=1:=by rw [D.sz]
theorem szs_append:∀ a b:List D,szs (a++b)=szs a+szs b
 | [],b=>by rw [List.nil_append,z26,Nat.zero_add]
 | d::r,b=>by rw [List.cons_append,z1q,z1q,szs_append r b]; omega
theorem len_szs:∀ a:List D,a.length≤szs a
 | []=>by rw [z26]; exact Nat.le_refl _
 | d::r=>by
  have h1:=len_szs r
  have h2:=d.sz_pos
  rw [z1q,List.length_cons]
  omega
theorem Reps.nil {H:Hp}:Reps H [] []:=by unfold Reps; rfl
theorem Reps.cons {H:Hp} {d:D} {r:List D} {x:V} {t:List V} (h:Rep H d x) (q:Reps H r t):Reps H (d::r) (x::t):=by
 unfold Reps
 exact ⟨x,t,rfl,h,q⟩
theorem Reps.inv {H:Hp} {d:D} {r:List D} {xs:List V} (h:Reps H (d::r) xs):∃ x t,xs=x::t∧Rep H d x∧Reps H r t:=by
 unfold Reps at h
 exact h
theorem Reps.inv0 {H:Hp} {xs:List V} (h:Reps H [] xs):xs=[]:=by
 unfold Reps at h
 exact h
theorem Reps.append {H:Hp}:∀ {a b:List D} {xs ys:List V},Reps H a xs→Reps H b ys→Reps H (a++b) (xs++ys)
 | [],_,_,_,h,q=>by rw [h.inv0]; exact q
 | d::r,_,_,_,h,q=>by
  obtain ⟨x,t,rfl,h1,h2⟩:=h.inv
  exact .cons h1 (Reps.append h2 q)
theorem Reps.snoc {H:Hp}:∀ {a:List D} {d:D} {xs:List V},Reps H (a++[d]) xs→∃ ys x,xs=ys++[x]∧Reps H a ys∧Rep H d x
 | [],d,xs,h=>by
  obtain ⟨x,t,rfl,h1,h2⟩:=Reps.inv (r:=[]) h
  rw [h2.inv0]
  exact ⟨[],x,rfl,.nil,h1⟩
 | c::r,d,xs,h=>by
  obtain ⟨x,t,rfl,h1,h2⟩:=Reps.inv (r:=r++[d]) h
  obtain ⟨ys,z,rfl,h3,h4⟩:=Reps.snoc h2
  exact ⟨x::ys,z,rfl,.cons h1 h3,h4⟩
theorem Reps.length {H:Hp}:∀ {a:List D} {xs:List V},Reps H a xs→xs.length=a.length
 | [],_,h=>by rw [h.inv0]; rfl
 | d::r,_,h=>by
  obtain ⟨x,t,rfl,h1,h2⟩:=h.inv
  rw [List.length_cons,List.length_cons,h2.length]
theorem Rep.int_inv {H:Hp} {i:Int} {v:V} (h:Rep H (.int i) v):v=.int i:=by unfold Rep at h; exact h
theorem Rep.str_inv {H:Hp} {i:Str} {v:V} (h:Rep H (.str i) v):v=.str i:=by unfold Rep at h; exact h
theorem Rep.tup_inv {H:Hp} {l:List D} {v:V} (h:Rep H (.tup l) v):∃ a xs,v=.ref a∧H a=some (.tup xs)∧Reps H l xs:=by unfold Rep at h; exact h
theorem Rep.lst_inv {H:Hp} {l:List D} {v:V} (h:Rep H (.lst l) v):∃ a xs,v=.ref a∧H a=some (.lst xs)∧Reps H l xs:=by unfold Rep at h; exact h
theorem Rep.ofTup {H:Hp} {l:List D} {a:Addr} {xs:List V} (h:H a=some (.tup xs)) (r:Reps H l xs):Rep H (.tup l) (.ref a):=by unfold Rep; exact ⟨a,xs,rfl,h,r⟩
theorem Rep.ofLst {H:Hp} {l:List D} {a:Addr} {xs:List V} (h:H a=some (.lst xs)) (r:Reps H l xs):Rep H (.lst l) (.ref a):=by unfold Rep; exact ⟨a,xs,rfl,h,r⟩
theorem Rep.ofInt {H:Hp} {i:Int}:Rep H (.int i) (.int i):=by unfold Rep; rfl
theorem Rep.ofStr {H:Hp} {i:Str}:Rep H (.str i) (.str i):=by unfold Rep; rfl
theorem reps_of {H:Hp} {c:Nat}:∀ {xs:List V},(∀ v∈xs,∃ d,Rep H d v∧d.sz≤c)→∃ l,Reps H l xs∧szs l≤xs.length * c
 | [],_=>⟨[],.nil,by rw [z26]; exact Nat.zero_le _⟩
 | x::r,h=>by
  obtain ⟨d,h1,h2⟩:=h x List.mem_cons_self
  obtain ⟨l,h3,h4⟩:=reps_of (xs:=r) fun v hv=>h v (List.mem_cons_of_mem _ hv)
  refine ⟨d::l,.cons h1 h3,?_⟩
  rw [z1q,List.length_cons,Nat.add_mul,Nat.one_mul]
  omega
def z1i (H H':Hp):Prop:=∀ b xs,H b=some (.tup xs)→H' b=some (.tup xs)
theorem Same.keepT {H H':Hp} (s:Same H H'):z1i H H':=fun b xs h=>s b _ h
theorem keepT_upd {H:Hp} {l:Addr} {xs:List V} {o:HO} (h:H l=some (.lst xs)):z1i H (upd H l o):=fun b ys q=>by
 rw [z01 (z0x q h (fun z=>nomatch z))]
 exact q
theorem z09 {H:Hp} {p:Addr} (h:H p=none) (o:HO):Same H (upd H p o):=fun b u q=>by
 rw [z01 (z07 q h)]
 exact q
theorem Same.upd_new {H H':Hp} {l:Addr} {o:HO} (s:Same H H') (h:H l=none):Same H (upd H' l o):=fun b u q=>by
 rw [z01 (z07 q h)]
 exact s b u q
theorem atI_in {α:Type} {xs:List α} {k:Int} (h0:0≤k) (h1:k<xs.length):∃ v,atI xs k=some v∧xs[k.toNat]?=some v:=by
 have hk:k.toNat<xs.length:=by omega
 have e:k=((k.toNat:Nat):Int):=by omega
 have q:xs[k.toNat]?=some xs[k.toNat]:=List.getElem?_eq_getElem hk
 have z:=atI_nat q
 rw [← e] at z
 exact ⟨_,z,q⟩
theorem ixN_in {n:Nat} {k:Int} (h0:0≤k) (h1:k<n):ixN n k=some k.toNat:=by
 unfold ixN
 rw [if_pos h0,if_pos h1]
theorem get_map_int {ns:List Int} {i:Nat} {y:V} (h:(ns.map V.int)[i]?=some y):∃ z,y=.int z∧ns[i]?=some z:=by
 rw [List.getElem?_map] at h
 cases e:ns[i]? with
 | none=>rw [e] at h; cases h
 | some z=>rw [e] at h; exact ⟨z,(Option.some.inj h).symm,rfl⟩
end L2
set_option Elab.async false
set_option linter.all false
set_option maxRecDepth 100000
namespace L2
open PySem PySem.Spec PyProof.Rows
def Ite (K:PySem.W.Frag) (a:Addr):It :=
 ⟨fun i H=>∃ xs x,SqL K H a xs∧xs[i]?=some x,fun i H x H'=>∃ p v,H p=none∧x=.ref p∧H'=upd H p (.tup [.int i,v])∧∀ xs,SqL K H a xs→xs[i]?=some v,fun i H=>∃ xs,SqL K H a xs∧xs.length≤i⟩
theorem turn_enum {P:Program} {w:World} {K:PySem.W.Frag} {es:List Expr} {k1:Nat} {tp:Pos} (a e it:Addr) (hne:e≠it) :
  Turn P w K (.Tuple es k1 tp) (Ite K a) [e,it] e (fun i h=>∃ old,IsEnum h e it ((i:Nat):Int) old∧h.IsListIter it a i) where
 mem:=by simp
 obj:=fun i h ⟨old,he,hit⟩ b hb=>by
  rcases List.mem_cons.mp hb with z | z
  ·subst z
   exact ⟨_,he,fun v z=>by
    have z':Data.fields _=Data.cell v:=z
    cases z'⟩
  ·have z:=List.mem_singleton.mp z
   subst z
   obtain ⟨o,e,c,d⟩:=hit
   exact ⟨o,e,fun v z=>by rw [d] at z; cases z⟩
 keep:=fun i h h' ⟨old,he,hit⟩ k=>⟨old,k e (by simp) _ he,hit.at fun o x=>k it (by simp) o x⟩
 item:=by
  intro X hP hw hK hc i pins s σ H E I hf st hg
  subst hP hw hK
  obtain ⟨old,he,hit⟩:=st
  obtain ⟨xs,x,hq,hx⟩:=hg
  obtain ⟨its,rv,p,hz⟩:=I.list hq
  obtain ⟨u,hu,ru⟩:=rv.get hx
  have fe:=hf e (by simp)
  have fi:=hf it (by simp)
  have hes:e<s.heap.objs.size:=Heap.lt_size he
  refine wpAny_pyNext_enum_item he hit p.isList (x:=u) (by simpa using hu) hne fun h₁ heo hit₁ ht₁ hz₁ hk₁=>?_
  refine ⟨_,rfl,wpAny_letOwnedTupleGo_enum heo fun h₂ he₂ hs₂=>?_⟩
  replace hs₂:Heap.SameBut e h₁ h₂:=hs₂
  have k2:∀ b o,b≠e→b≠it→s.heap.get? b=some o→h₂.get? b=some o:=fun b o h1 h2 q=>(hs₂.2 b h1).trans (hk₁ b o h1 h2 q)
  have t2:h₂.get? s.heap.objs.size=some { cls:=.type "tuple",data:=.seq #[.int i s.toks,u] }:=(hs₂.2 _ (Nat.ne_of_gt hes)).trans ht₁
  have nch:∀ b,b∉[e,it]→b≠e∧b≠it:=fun b h=>⟨fun z=>h (by simp [z]),fun z=>h (by simp [z])⟩
  have ntr:∀ b o,H b=some o→b≠e∧b≠it:=fun b o q=>⟨z07 q fe.1,z07 q fi.1⟩
  have hfr:H s.heap.objs.size=none:=I.fresh
  have ei:((i+1:Nat):Int)=(i:Int)+1:=by omega
  refine ⟨.ref s.heap.objs.size,upd H s.heap.objs.size (.tup [.int i,x]),?_,rfl,⟨_,x,hfr,rfl,rfl,fun ys hy=>by rw [I.list_inj hy hq]; exact hx⟩,⟨u,by rw [ei]; exact he₂,hit₁.extBut hs₂.extBut (Ne.symm hne)⟩,fun b hb=>?_⟩
  ·refine Inv.step (s:=s) (h':=h₂) (t':=s.toks+1) (g':=s.gens) (d':=s.drawn) (ch:=[e,it]) I (fun b hb=>?_) (fun b o _ _ h q _=>k2 b o (nch b h).1 (nch b h).2 q) (fun b o _ _ h q _=>⟨o.slots,k2 b o (nch b h).1 (nch b h).2 q⟩)
    (fun b o _ q n=>by rw [z01 (Nat.ne_of_lt (Heap.lt_size q))]; exact n) (fun b o h q=>⟨o,k2 b o (nch b h).1 (nch b h).2 q⟩) (fun b ys q=>by rw [z01 (z07 q hfr)]; exact q) (fun b o u' q=>by rw [z01 (z07 q hfr)]; exact q)
    (fun b ps q=>⟨#[],by rw [z01 (z07 q hfr),q]; simp⟩) (fun m hm=>?_) (fun b ob q=>?_) I.bare
   ·rcases List.mem_cons.mp hb with z | z
    ·rw [z]; exact ⟨fe.2.2.2.1,fe.2.1,fe.2.2.2.2.1,fe.2.2.2.2.2⟩
    ·rw [List.mem_singleton.mp z]; exact ⟨fi.2.2.2.1,fi.2.1,fi.2.2.2.2.1,fi.2.2.2.2.2⟩
   ·obtain ⟨o,es',ep,ho,r⟩:=hm
    exact ⟨o,es',ep,k2 _ o (Ne.symm fe.2.1) (Ne.symm fi.2.1) ho,r⟩
   ·by_cases hb:b=s.heap.objs.size
    ·subst hb
     rw [z02] at q
     cases q
     exact ⟨by show 2≤sizeLine; decide,[.int i s.toks,u],.cons ⟨_,rfl⟩ (.cons ru .nil),_,t2,rfl,_,rfl⟩
    ·rw [z01 hb] at q
     refine (I.hok b ob q).stay (fun c v hc r=>?_) (fun c r=>by rw [z01 (z07 r hfr)]; exact r) (fun c ys r=>by rw [z01 (z07 r hfr)]; exact r)
     rcases hc with z | z
     ·rw [z] at r ⊢
      exact k2 b v (ntr b ob q).1 (ntr b ob q).2 r
     ·exact k2 c v (ntr c _ z).1 (ntr c _ z).2 r
  ·have hb':b<s.heap.objs.size:=by
    rcases List.mem_cons.mp hb with z | z
    ·rw [z]; exact hes
    ·rw [List.mem_singleton.mp z]
     obtain ⟨o,q,_⟩:=hit
     exact Heap.lt_size q
   rw [z01 (Nat.ne_of_lt hb')]
   exact (hf b hb).1
 done:=by
  intro X hP hw hK hc i pins s σ H E I hf st hg
  subst hP hw hK
  obtain ⟨old,he,hit⟩:=st
  obtain ⟨xs,hq,hx⟩:=hg
  obtain ⟨its,rv,p,hz⟩:=I.list hq
  obtain ⟨f0,f1,f2,f3,f4,f5⟩:=hf it (by simp)
  have hl:=rv.length
  exact wpAny_pyNext_enum_end (I.ok.hd hc) he hit p.isList (by simp; omega) fun h' eb=>⟨rfl,I.turned (t':=s.toks) (fun b o hb e=>eb b o hb e) f0 f1 f3 f4 f5⟩
 self:=fun _ _ _ _ _ st h=>by
  obtain ⟨old,he,_⟩:=st
  exact wpAny_pyIter_enum he h
section
variable {X:Cx}
def iEnum (K:PySem.W.Frag) (ta:TA):TI:=fun σ H R=>ta σ H fun vs H1=>∃ a,vs=[.ref a]∧(∃ xs,SqL K H1 a xs)∧R (Ite K a) H1
theorem pi_enum {es:List Expr} {k1:Nat} {tp:Pos} {l:Expr} {ta:TA} {p pos:Pos} (hg:Gl X "enumerate") (hm:X.mg "enumerate"=none) (ha:PA X [l] ta) (hs:starEach [l] X.env=[(false,eval l X.env)]:=by rfl) :
  PI X (.Tuple es k1 tp) (.Call (.Name "enumerate" p) [l] [] pos) (iEnum X.K ta):=by
 intro pins s σ H R I h
 refine Call_ (ld_blt I hg hm boot_enumerate (PyProof.Rows.callWith_type1 (thn (ha pos pins s σ H _ I h) fun us s1 ⟨vs,H1,I1,r1,q1⟩=>?_) hs rfl))
 obtain ⟨a,e,⟨xs,hq⟩,q⟩:=q1
 subst e
 cases r1 with
 | cons r rr =>
  cases rr
  cases r
  obtain ⟨its,rv,p,hz⟩:=I1.list hq
  refine call_enumerate_list p.isList fun h' he hit hsz hk=>?_
  refine wpAny_pyIter_enum he ?_
  refine ⟨s1.heap.objs.size+1,[s1.heap.objs.size+1,s1.heap.objs.size],_,_,H1,rfl,I1.kept (t':=s1.toks) hk,turn_enum a _ _ (Nat.succ_ne_self _),⟨.none,he,hit⟩,fun b hb=>?_,q⟩
  rcases List.mem_cons.mp hb with z | z
  ·rw [z]
   exact I1.fpOk (Nat.le_succ _) (I1.hok.fresh (Nat.le_succ _))
  ·rw [List.mem_singleton.mp z]
   exact I1.fpOk (Nat.le_refl _) (I1.hok.fresh (Nat.le_refl _))
end
theorem for_enum {K:PySem.W.Frag} {a:Addr} {xs:List V} {g:TG} {tb:TS} {D:Ends} {σ:St} {H:Hp} (Pv:Nat→St→Hp→Prop) (h0:Pv 0 σ H) (hl:∀ i σ H,i≤xs.length→Pv i σ H→SqL K H a xs)
  (hs:∀ i x σ H p,xs[i]?=some x→Pv i σ H→H p=none→g (.ref p) σ (upd H p (.tup [.int i,x])) fun σ2 H2=>tb { D with nx:=Pv (i+1),ct:=Pv (i+1),bk:=D.nx } σ2 H2) (hd:∀ σ H,Pv xs.length σ H→D.nx σ H) :
  ∃ W:Nat→Nat→St→Hp→Prop,(∃ m,W 0 m σ H)∧∀ i m σ H,W i m σ H →
   ((Ite K a).stop i H∧D.nx σ H)∨((Ite K a).go i H∧∃ N:St→Hp→Prop,(∀ σ' H',N σ' H'→∃ m',m'<m∧W (i+1) m' σ' H')∧∀ x H',(Ite K a).yld i H x H'→g x σ H' fun σ2 H2=>tb { D with nx:=N,ct:=N,bk:=D.nx } σ2 H2):=by
 refine ⟨fun i m σ H=>m=xs.length - i∧i≤xs.length∧Pv i σ H,⟨xs.length,by simp,Nat.zero_le _,h0⟩,?_⟩
 rintro i m σ H ⟨rfl,hi,p⟩
 have q:=hl i σ H hi p
 by_cases hlt:i<xs.length
 ·refine .inr ⟨⟨xs,xs[i],q,by simp [hlt]⟩,Pv (i+1),fun σ' H' p'=>⟨xs.length - (i+1),by omega,rfl,hlt,p'⟩,fun x H' y=>?_⟩
  obtain ⟨pr,v,n,rfl,rfl,y⟩:=y
  exact hs i v σ _ pr (y xs q) p n
 ·have e:i=xs.length:=by omega
  subst e
  exact .inl ⟨⟨xs,q,Nat.le_refl _⟩,hd σ H p⟩
end L2
set_option Elab.async false
set_option linter.all false
set_option maxRecDepth 100000
namespace L2
open PySem PySem.Spec PyProof.Rows
theorem list_no_keys:typeLookup (.type "list") "keys"=pure none:=by rw [typeLookup_type,builtinLookup_eq_fast]; kernel_rfl
theorem no_keys_of_list {prog:Program} {w:World} {A:Around} {E:Value→Shared→Prop} {s:Shared} {a:Addr} {xs:Array Value} {k:Nat} {Q:Option Value→Shared→Prop}
  (hx:s.heap.get? a=some { cls:=.type "list",data:=.seq xs k }) (hA:A.handled=none)
  (h:∀ h' tk,(∀ b o,s.heap.get? b=some o→h'.get? b=some o)→Q none { s with heap:=h',toks:=tk }) :
  wpAny (model prog w) A (getAttr? (.ref a) "keys") Q E s:=by
 obtain ⟨hp,g,d,tk,os⟩:=s
 have hT:∀ tk',(⟨hp,g,d,tk',os⟩:Shared).TypeIs (.ref a) "list":=fun _=>⟨_,hx,rfl⟩
 have f1:=sub_AttributeError
 have f3:=F.slot_list_getattribute.lookup
 have f4:=F.slot_list_getattribute.bind (.ref a)
 have f5:=am_list_getattr_none
 unfold getAttr? getAttrBy? getAttrBy
 repeat (any_goals (first | assumption | exact hT _ | ((with_reducible show wpAny _ _ (call (Value.builtin "list.__getattribute__") _ _) _ _ _); refine call_meets F.slot_list_getattribute (hT _) am_entry_list_getattribute (F.args_list_getattribute_2 _ _) (meets_getattribute_miss_list a xs k #[] "keys" _ list_no_keys (by decide +kernel) (by size_fits)) ⟨hx,hA,fun h' tk' e hx'=>?_⟩) | wp_step))
 obtain ⟨t',u',he⟩:=hx'.there
 show wpAny _ _ (getattributeRaised _ _ _ _ _ _ _) _ _ _
 unfold getattributeRaised
 repeat (any_goals (first | assumption | wp_step))
 exact h _ _ hx'.of.keeps
theorem z1m:plainId "dict.update.loop"=true:=by decide +kernel
theorem z2w:entryFor table "dict.update.loop"=some Builtin.«dict.update.loop» := entryFor_of_tree (by kernel_rfl)
def PairAt (H:Hp) (x:V) (kv:Key × V):Prop:=∃ a,x=.ref a∧H a=some (.tup [kV kv.1,kv.2])
def putAll (m:List (Key × V)) (kvs:List (Key × V)):List (Key × V):=kvs.foldl (fun m kv=>putK m kv.1 kv.2) m
theorem upd_self {H:Hp} {a:Addr} {o:HO} (h:H a=some o):upd H a o=H:=by
 funext b
 unfold upd
 split
 ·rename_i e; rw [e,h]
 ·rfl
theorem update_loop {X:Cx} {pins:List (Addr × Obj)} {σ:St} {A:Around} {R:Result→Shared→Prop} {d p it:Addr} {ys:List V} {kvs:List (Key × V)} (hh:A.handled=none):∀ (n i:Nat) (s:Shared) (H:Hp) (m:List (Key × V)),
  ys.length - i=n→i≤ys.length→Inv X pins σ H s→H d=some (.dK m)→H p=some (.lst ys)→(∀ (j:Nat) (x:V),ys[j]?=some x→∃ kv,kvs[j]?=some kv∧PairAt H x kv)→kvs.length=ys.length→m.length+(ys.length - i)≤sizeLine →
  s.heap.IsListIter it p i→FpOk X pins H it→(∀ s',Inv X pins σ (upd H d (.dK (putAll m (kvs.drop i)))) s'→R (.ok (.ret .none)) s') →
  wpAny (model X.prog X.w) A.in1 (Builtin.«dict.update.loop» ⟨[.ref d,.ref it,rawInt i,.none],[]⟩)
   (fun fin s'=>match fin with | .done f=>R (.ok f) s' | .again c'=>c'.quiet=true∧codeAny (model X.prog X.w) A c' R s') (fun e s'=>R (.error e) s') s:=by
 intro n
 induction n with
 | zero =>
  intro i s H m hn hi I hd hp hP hl hz st hf q
  obtain ⟨its,rv,pl,_⟩:=I.list (SqL.of hp)
  have hlen:=rv.length
  show wpAny _ _ (pyNext (.ref it) >>= _) _ _ s
  refine wpAny_bind (wpAny_pyNext_list_end hh st pl.isList (by simp; omega) fun h' eb=>?_)
  obtain ⟨f0,f1,f2,f3,f4,f5⟩:=hf
  have I1:Inv X pins σ H { s with heap:=h' }:=I.turned (t':=s.toks) (fun b o hb e=>eb b o hb e) f0 f1 f3 f4 f5
  have e0:upd H d (.dK (putAll m (kvs.drop i)))=H:=by
   rw [List.drop_eq_nil_of_le (by omega)]
   exact upd_self hd
  show wpAny _ _ (Builtin.Dict.addKeywords d [] >>= _) _ _ _
  exact wpAny_bind (wpAny_pure (wpAny_pure (q _ (by rw [e0]; exact I1))))
 | succ n ih =>
  intro i s H m hn hi I hd hp hP hl hz st hf q
  obtain ⟨its,rv,pl,_⟩:=I.list (SqL.of hp)
  have hlen:=rv.length
  have hlt:i<ys.length:=by omega
  obtain ⟨kv,hkv,a,ea,ha⟩:=hP i ys[i] (List.getElem?_eq_getElem hlt)
  obtain ⟨u,hu,ru⟩:=rv.get (List.getElem?_eq_getElem hlt)
  rw [ea] at ru
  cases ru
  show wpAny _ _ (pyNext (.ref it) >>= _) _ _ s
  refine wpAny_bind (wpAny_pyNext_list_item st pl.isList (x:=.ref a) (by simpa using hu) fun h' st' sb=>?_)
  obtain ⟨f0,f1,f2,f3,f4,f5⟩:=hf
  have I1:Inv X pins σ H { s with heap:=h' }:=I.turned (t':=s.toks) (fun b o hb e=>(sb.2 b hb).trans e) f0 f1 f3 f4 f5
  obtain ⟨its2,r2,⟨o,ho,hc,n2,hdat⟩,_⟩:=I1.tuple (SqT.of ha)
  obtain ⟨cl,dd,dt,sl⟩:=o
  simp only at hc hdat
  subst hc hdat
  have hT:(⟨h',s.gens,s.drawn,s.toks,s.os⟩:Shared).TypeIs (.ref a) "tuple":=⟨_,ho,rfl⟩
  show wpAny _ _ (holding [.ref a] _ >>= _) _ _ _
  refine wpAny_bind (wpAny_holding (wpAny_bind (wpAny_tryCatch ?_)))
  unfold Builtin.Dict.pairItems
  refine wpAny_bind (wpAny_typeOf hT ?_)
  rw [if_pos (by decide)]
  refine wpAny_bind (wpAny_seqItems ho rfl (wpAny_pure ?_))
  obtain ⟨uk,uv,rfl,rk,rw2⟩:=r2.two
  show wpAny _ _ (holding [uk,uv] (dictSet d uk uv)) _ _ _
  refine wpAny_holding ?_
  obtain ⟨z,hds,vs,rel,dd'⟩:=dk_of I1.hok hd
  have hlm:(putK m kv.1 kv.2).length≤m.length+1:=z1k m kv.1 kv.2
  refine wpAny_dictSet_pairs (knd:=z19 X.prog X.w) (k:=kv.1) (kV_is rk) dd' (fun h2 dd2 hs2=>?_) (by rw [← rel.length]; exact z)
  have I2:Inv X pins σ (upd H d (.dK (putK m kv.1 kv.2))) { s with heap:=h2,toks:=s.toks+1 } :=
   d_write (s:={ s with heap:=h' }) I1 (by rw [hd]; exact True.intro) hs2 (let ⟨q,_,_,hq,_⟩:=dd2; ⟨q,hq⟩) (dk_new (by omega) hds (rel.put kv.1 rw2) dd2)
  have npd:p≠d:=z0x hp hd (fun z=>nomatch z)
  have nid:it≠d:=(z07 hd f0).symm
  have hc1:((i:Int)+1)=((i+1:Nat):Int):=by omega
  rw [hc1]
  refine wpAny_pure ⟨plainId_quiet z1m _,codeAny_builtin z2w ?_⟩
  rw [Around.under_plainId z1m _]
  refine ih (i+1) _ _ (putK m kv.1 kv.2) (by omega) (by omega) I2 z02 (by rw [z01 npd]; exact hp) (fun j x hx=>?_) hl (by omega) (st'.extBut hs2.extBut nid) ⟨by rw [z01 nid]; exact f0,f1,f2,f3,f4,f5⟩ fun s' I'=>q s' ?_
  ·obtain ⟨kv',h1,b,h2,h3⟩:=hP j x hx
   exact ⟨kv',h1,b,h2,by rw [z01 (z0x h3 hd (fun z=>nomatch z))]; exact h3⟩
  ·have e1:kvs.drop i=kv::kvs.drop (i+1):=by
    obtain ⟨hk,e⟩:=List.getElem?_eq_some_iff.mp hkv
    rw [← e]
    exact List.drop_eq_getElem_cons hk
   rw [upd_upd] at I'
   rw [e1]
   exact I'
def rDictP:List V→Hp→VK→Prop:=fun xs H Q=>∃ p ys kvs,xs=[.ref p]∧H p=some (.lst ys)∧(∀ (j:Nat) (x:V),ys[j]?=some x→∃ kv,kvs[j]?=some kv∧PairAt H x kv)∧kvs.length=ys.length∧ys.length≤1000 ∧
 ∀ d,H d=none→Q (.ref d) (upd H d (.dK (putAll [] kvs)))
theorem call_dictP {X:Cx} (hh:X.A.handled=none):CallR X (.type "dict") rDictP:=by
 intro pins s σ H xs us Q I rv h
 obtain ⟨p,ys,kvs,rfl,hp,hP,hl,hz,q⟩:=h
 obtain ⟨u,rfl,ru⟩:=rv.one
 cases ru
 refine callType_codes (Q₁:=fun obj s₁=>obj=.ref s.heap.objs.size∧s₁={ s with heap:=s.heap.push { cls:=.type "dict",data:=.dict #[] } }) F.kt_called_dict (F.kt_typeCall_dict_1 _) F.entry_dict_init (kt_code_dict_new _ ⟨rfl,rfl⟩) ?_
 rintro obj s₁ ⟨rfl,rfl⟩
 have I1:Inv X pins σ (upd H s.heap.objs.size (.dK [])) { s with heap:=s.heap.push { cls:=.type "dict",data:=.dict #[] } } :=
  I.laid (a:=s.heap.objs.size) (o:=.dK []) (t':=s.toks) (fun _ _ q=>Heap.get?_push_of_some _ q) (Nat.le_refl _) (dk_empty s.heap I.big)
 have fr:H s.heap.objs.size=none:=I.fresh
 have np:p≠s.heap.objs.size:=z07 hp fr
 have hnew:(s.heap.push { cls:=.type "dict",data:=.dict #[] }).DictOf (z19 X.prog X.w) s.heap.objs.size []:=Heap.DictOf.new s.heap
 refine ⟨hnew.typeIs,F.args_dict_init_2 _ _,?_⟩
 have hp1:(upd H s.heap.objs.size (.dK [])) p=some (.lst ys):=by rw [z01 np]; exact hp
 obtain ⟨_,its,n0,r0,e0,g0⟩:=I1.lstM hp1
 unfold Builtin.«dict.__init__»
 refine wpAny_bind ?_
 unfold Builtin.Dict.selfAndRest
 refine wpAny_bind (wpAny_notOrdered_dict hnew.typeIs ?_)
 show wpAny _ _ (pure (s.heap.objs.size,[Value.ref p])) _ _ _
 refine wpAny_pure ?_
 show wpAny _ _ (Builtin.Dict.updateFrom "dict.__init__" s.heap.objs.size (.ref p) [] .none) _ _ _
 unfold Builtin.Dict.updateFrom
 refine wpAny_bind (wpAny_typeOf (T:="list") ⟨_,g0,rfl⟩ ?_)
 rw [if_pos (by decide)]
 refine wpAny_bind (no_keys_of_list g0 hh fun h' tk kk=>?_)
 have I2:Inv X pins σ (upd H s.heap.objs.size (.dK [])) { s with heap:=h',toks:=tk }:=I1.kept (t':=tk) kk
 obtain ⟨its2,r2,pl,_⟩:=I2.list (SqL.of hp1)
 show wpAny _ _ (rule _ >>= fun _=>pyIter (.ref p) >>= _) _ _ _
 refine wpAny_bind (wpAny_rule (wpAny_bind (wpAny_pyIter_list pl.isList ?_)))
 refine wpAny_pure ⟨plainId_quiet z1m _,codeAny_builtin z2w ?_⟩
 rw [Around.under_plainId z1m _]
 have I3:=I2.kept (t':=tk) (h':=h'.push { cls:=.type "list_iterator",data:=.fields #[.ref p,.int 0 0] }) fun b o e=>Heap.get?_push_of_some _ e
 refine update_loop (A:=X.A.in1) (it:=h'.objs.size) (ys:=ys) (kvs:=kvs) (p:=p) hh ys.length 0 _ _ [] rfl (Nat.zero_le _) I3 z02 hp1 (fun j x hx=>?_) hl (by rw [List.length_nil,Nat.zero_add]; exact Nat.le_of_lt (small1000 hz)) ⟨_,Heap.get?_push_size _ rfl,rfl,rfl⟩ (I2.fpOk (Nat.le_refl _) (I2.hok.fresh (Nat.le_refl _))) fun s' I'=>?_
 ·obtain ⟨kv,h1,a,h2,h3⟩:=hP j x hx
  exact ⟨kv,h1,a,h2,by rw [z01 (z07 h3 fr)]; exact h3⟩
 ·rw [upd_upd,List.drop_zero] at I'
  exact ⟨rfl,.ref s.heap.objs.size,_,I',rfl,q _ fr⟩
end L2
set_option Elab.async false
set_option linter.all false
set_option maxRecDepth 100000
namespace L2
open PySem PySem.Spec PyProof.Rows
def All2 {α:Type} (R:α→V→Prop) (l:List α) (xs:List V):Prop:=l.length=xs.length∧∀ (i:Nat) (a:α) (x:V),l[i]?=some a→xs[i]?=some x→R a x
section
variable {α:Type} {R R':α→V→Prop} {l:List α} {xs:List V}
theorem All2.nil:All2 R [] []:=⟨rfl,fun i a x h _=>by simp at h⟩
theorem All2.get (h:All2 R l xs) {i:Nat} {x:V} (e:xs[i]?=some x):∃ a,l[i]?=some a∧R a x:=by
 have hi:i<xs.length:=(List.getElem?_eq_some_iff.mp e).1
 have hl:i<l.length:=by rw [h.1]; exact hi
 exact ⟨l[i],List.getElem?_eq_getElem hl,h.2 i _ x (List.getElem?_eq_getElem hl) e⟩
theorem All2.mono (h:All2 R l xs) (f:∀ a x,R a x→R' a x):All2 R' l xs:=⟨h.1,fun i a x h1 h2=>f a x (h.2 i a x h1 h2)⟩
theorem All2.snoc {a:α} {x:V} (h:All2 R l xs) (q:R a x):All2 R (l++[a]) (xs++[x]):=by
 refine ⟨by rw [List.length_append,List.length_append,h.1]; rfl,fun i b y h1 h2=>?_⟩
 by_cases hi:i<l.length
 ·rw [List.getElem?_append_left hi] at h1
  rw [List.getElem?_append_left (by rw [← h.1]; exact hi)] at h2
  exact h.2 i b y h1 h2
 ·rw [List.getElem?_append_right (by omega)] at h1
  have hx:xs.length≤i:=by rw [← h.1]; omega
  rw [List.getElem?_append_right hx,← h.1] at h2
  cases z:i - l.length with
  | zero =>
   rw [z] at h1 h2
   have e1:a=b:=Option.some.inj h1
   have e2:x=y:=Option.some.inj h2
   rw [← e1,← e2]
   exact q
  | succ n=>rw [z] at h1; simp at h1
theorem All2.drop (h:All2 R l xs) (n:Nat):All2 R (l.drop n) (xs.drop n):=by
 refine ⟨by rw [List.length_drop,List.length_drop,h.1],fun i a x h1 h2=>?_⟩
 rw [List.getElem?_drop] at h1 h2
 exact h.2 _ a x h1 h2
end
theorem z33 (ns:List Int) (j:Nat) (z:Int):(ns.map V.int).set j (.int z)=(ns.set j z).map V.int:=by rw [List.map_set]
theorem z2y {ns:List Int} {i:Nat} {z:Int} (h:ns[i]?=some z):(ns.map V.int)[i]?=some (.int z):=by rw [List.getElem?_map,h]; rfl
theorem z2q {ns:List Int} {k:Int} (h0:0≤k) (h1:k<(ns.length:Int)):∃ z,ns[k.toNat]?=some z∧atI (ns.map V.int) k=some (.int z):=by
 obtain ⟨v,e1,e2⟩:=atI_in (xs:=ns.map V.int) h0 (by rw [List.length_map]; exact h1)
 obtain ⟨z,rfl,e3⟩:=get_map_int e2
 exact ⟨z,e3,e1⟩
theorem flat_ints (ns:List Int):(ns.map V.int).all flatV=true:=by
 rw [List.all_eq_true]
 intro v hv
 obtain ⟨z,_,rfl⟩:=List.mem_map.mp hv
 rfl
theorem inV_ints (d:Int) (ns:List Int):inV (.int d) (ns.map V.int)=decide (d∈ns):=by
 unfold inV
 induction ns with
 | nil=>rfl
 | cons n r ih =>
  rw [List.map_cons,List.any_cons,ih]
  have e:eqV (.int n) (.int d)=(n == d):=rfl
  rw [e]
  by_cases h:n=d
  ·subst h
   simp
  ·have h':¬d=n:=fun z=>h z.symm
   simp [h,h']
theorem z2z {env:Env} {fv y:Str}:∀ {names:List (Str × NameKind)} {k:NameKind},(∀ z∈names,z.2≠.cell)→(∀ z∈names,z.2=.free→z.1=fv) →
  (names.map fun (n,k)=>if (k == NameKind.free && env.scope.kind == .function && env.kindOf n == some .cell) then (n,NameKind.cell) else (n,k)).lookup y=some k→(k=.cell∨k=.free)→y=fv
 | [],_,_,_,h,_=>by simp at h
 | (n,k0)::r,k,h1,h2,h,hk=>by
  rw [List.map_cons,List.lookup_cons] at h
  have hn0:=h1 (n,k0) List.mem_cons_self
  have hf0:=h2 (n,k0) List.mem_cons_self
  by_cases hc:(k0 == NameKind.free && env.scope.kind == .function && env.kindOf n == some .cell)=true
  ·simp only [hc,if_true] at h
   cases e:y == n with
   | true =>
    have:k0=.free:=by
     rw [Bool.and_eq_true,Bool.and_eq_true] at hc
     exact beq_iff_eq.mp hc.1.1
    rw [beq_iff_eq.mp e]
    exact hf0 this
   | false =>
    rw [e] at h
    exact z2z (fun z hz=>h1 z (List.mem_cons_of_mem _ hz)) (fun z hz=>h2 z (List.mem_cons_of_mem _ hz)) h hk
  ·simp only [hc,Bool.false_eq_true,if_false] at h
   cases e:y == n with
   | true =>
    rw [e] at h
    have h':some k0=some k:=h
    cases h'
    rw [beq_iff_eq.mp e]
    rcases hk with z | z
    ·exact absurd z hn0
    ·exact hf0 z
   | false =>
    rw [e] at h
    exact z2z (fun z hz=>h1 z (List.mem_cons_of_mem _ hz)) (fun z hz=>h2 z (List.mem_cons_of_mem _ hz)) h hk
theorem BlkOk.one {X:Cx} {x fv:Str} {j:Nat} {c:Addr} {scope:Scope} (hclos:closureFor scope X.env=pure [(fv,c)]) (hcell:∀ y∈scope.names,y.2≠.cell) (hfree:∀ y∈scope.names,y.2=.free→y.1=fv) (hkind:scope.kind=.function)
  (hnames:∀ y∈scope.names,y.2=.local→scope.names.lookup y.1=some .local) (hloc:scope.names.lookup x=some .local) (hc:X.env.cells.lookup fv=some c) (hne:x≠fv) (hN:X.N[j]?=some fv) (hk:X.env.scope.names.lookup fv=some .cell)
  (hr:(relabel scope X.env).names.lookup fv=some .cell):BlkOk X x [j] [x,fv] scope [(fv,c)] where
 clos:=hclos
 cell:=hcell
 kind:=hkind
 names:=hnames
 loc:=hloc
 sub:=fun y d e=>by
  rw [List.lookup_cons] at e
  cases z:y == fv with
  | true =>
   rw [z] at e
   have e':some c=some d:=e
   cases e'
   rw [beq_iff_eq.mp z]
   exact hc
  | false=>rw [z] at e; simp at e
 has:=fun y hy=>by
  have:y=fv:=by
   rcases hy with h | h
   ·exact z2z hcell hfree h (.inl rfl)
   ·exact z2z hcell hfree h (.inr rfl)
  subst this
  exact ⟨c,by rw [List.lookup_cons,beq_self_eq_true]⟩
 hx:=rfl
 len:=rfl
 nd:=by
  rw [List.nodup_cons]
  exact ⟨fun m=>hne (List.mem_singleton.mp m),by simp⟩
 see:=fun i k y h1 h2=>by
  cases i with
  | zero =>
   have e1:fv=y:=Option.some.inj h1
   have e2:j=k:=Option.some.inj h2
   subst e1 e2
   exact ⟨hN,hk,hr⟩
  | succ i=>simp at h2
theorem comp_pairs {K:PySem.W.Frag} {a:Addr} {ns:List Int} {te:TE} {σ':St} {Q:VK} {H:Hp} {acc:Addr} {w:V} (ha:H a=some (.lst (ns.map V.int))) (h0:H acc=none) (hz:ns.length≤1000)
  (he:∀ (z:Int) H3 (k:VK),(∀ p,H3 p=none→k (.ref p) (upd H3 p (.tup [.int z,w])))→te (some (.int z)::σ') H3 k)
  (q:∀ (ys:List V) (H':Hp),Same H H'→H' acc=some (.lst ys)→All2 (fun z x=>PairAt H' x (Sum.inl z,w)) ns ys→Q (.ref acc) H'):CompW (Itl K a) te σ' Q H acc:=by
 have nac:a≠acc:=z07 ha h0
 refine ⟨ns.length,fun i ys H2=>i≤ns.length∧Same H H2∧H2 acc=some (.lst ys)∧All2 (fun z x=>PairAt H2 x (Sum.inl z,w)) (ns.take i) ys,⟨Nat.zero_le _,z09 h0 _,z02,.nil⟩,?_⟩
 rintro i ys H2 ⟨hi,sm,hacc,hp⟩
 have ha2:=sm _ _ ha
 by_cases hlt:i<ns.length
 ·refine .inr ⟨⟨_,.int ns[i],SqL.of ha2,z2y (List.getElem?_eq_getElem hlt)⟩,hlt,?_⟩
  rintro v H3 ⟨rfl,hv⟩
  have ev:v=.int ns[i]:=by
   have:=hv _ (SqL.of ha2)
   rw [z2y (List.getElem?_eq_getElem hlt)] at this
   exact (Option.some.inj this).symm
  subst ev
  refine he _ _ _ fun p hpn=>?_
  have npa:p≠acc:=(z07 hacc hpn).symm
  have hacc3:(upd H3 p (.tup [.int ns[i],w])) acc=some (.lst ys):=by rw [z01 npa.symm]; exact hacc
  have lys:ys.length=i:=by rw [← hp.1,List.length_take]; omega
  refine ⟨hacc3,Nat.lt_of_le_of_lt (by omega:ys.length≤1000) (by decide),hlt,(sm.trans (z09 hpn _)).upd_new h0,z02,?_⟩
  rw [List.take_add_one,List.getElem?_eq_getElem hlt]
  refine All2.snoc (hp.mono fun z x hx=>?_) ⟨p,rfl,by rw [z01 npa,z02]; rfl⟩
  obtain ⟨b,e1,e2⟩:=hx
  exact ⟨b,e1,by rw [z01 (z0x e2 hacc (fun z=>nomatch z)),z01 (z07 e2 hpn)]; exact e2⟩
 ·have e:i=ns.length:=by omega
  subst e
  rw [List.take_length] at hp
  exact .inl ⟨⟨_,SqL.of ha2,by rw [List.length_map]; exact Nat.le_refl _⟩,q ys H2 sm hacc hp⟩
theorem putAll_has (w:V):∀ (ns:List Int) (m:List (Key × V)) (z:Int),(valV (putAll m (ns.map fun n=>((Sum.inl n:Key),w))) (Sum.inl z)).isSome=(decide (z∈ns) || (valV m (Sum.inl z)).isSome)
 | [],m,z=>by
  show (valV m (Sum.inl z)).isSome=_
  simp
 | n::r,m,z=>by
  have ih:=putAll_has w r (putK m (Sum.inl n) w) z
  show (valV (putAll (putK m (Sum.inl n) w) (r.map fun n=>((Sum.inl n:Key),w))) (Sum.inl z)).isSome=_
  rw [ih,valV_put]
  by_cases h:z=n
  ·subst h
   simp
  ·have h':¬((Sum.inl z:Key)=Sum.inl n):=fun e=>h (Sum.inl.inj e)
   simp [h,h']
end L2
set_option Elab.async false
set_option linter.all false
set_option maxRecDepth 100000
namespace L2
open PySem PySem.Spec PyProof.Rows
theorem compLoop_goT {prog:Program} {w:World} {A:Around} {R:Result→Shared→Prop} {s:Shared} {elt target iter c:Expr} {scope:Scope} {pos:Pos} {it acc:Value} {env:Env} (I:Nat→Shared→Prop)
  (turn:∀ n s,I n s→wpAny (model prog w) A (pyNext it) (fun r s₁=>match r with
   | none=>R (.ok .next) s₁
   | some v=>wpAny (model prog w) A (letOwnedTupleGo target it v) (fun _ s₂=>wpAny (model prog w) A (assign target env v) (fun _ s₃=>wpAny (model prog w) A (isTrue c env (eval c env)) (fun ok s₄ =>
     if ok=true then wpAny (model prog w) A (eval elt env) (fun x s₅ =>
      wpAny (model prog w) A (call (.builtin "list.append") [acc,x]) (fun _ s₆=>∃ m,m<n∧I m s₆) (fun _ _=>False) s₅) (fun _ _=>False) s₄
     else ∃ m,m<n∧I m s₄) (fun _ _=>False) s₃) (fun _ _=>False) s₂) (fun _ _=>False) s₁) (fun _ _=>False) s)
  (n:Nat) (h:I n s):codeAny (model prog w) A (.compLoop (.ListComp elt [⟨target,iter,[c],0⟩] scope pos) 0 it acc env) R s:=by
 refine codeAny_loop rfl I (fun n s hI=>?_) n h
 show wpAny _ A ((compTurn (.ListComp elt [⟨target,iter,[c],0⟩] scope pos) 0 it acc env).onRaise (fun x=>do noteFrame x env; theTreesLotGoes x)) _ _ s
 refine wpAny_noted ?_
 rw [compTurn_list]
 refine wpAny_bind (wpAny_standAt (wpAny_bind (wpAny_mono (turn n s hI) (fun r s₁ h₁=>?_) fun _ _ z=>False.elim z)))
 cases r with
 | none=>exact wpAny_pure h₁
 | some v =>
  refine wpAny_bind (wpAny_mono h₁ (fun _ s₂ h₂=>?_) fun _ _ z=>False.elim z)
  refine wpAny_bind (wpAny_mono h₂ (fun _ s₃ h₃=>wpAny_bind (wpAny_mono (wpAny_tests_one h₃) (fun ok s₄ h₄=>?_) fun _ _ z=>False.elim z)) fun _ _ z=>False.elim z)
  cases ok with
  | false=>exact wpAny_pure ⟨rfl,h₄⟩
  | true=>exact wpAny_bind (wpAny_bind (wpAny_mono h₄ (fun x s₅ h₅=>wpAny_bind (wpAny_mono h₅ (fun _ s₆ h₆=>wpAny_pure (wpAny_pure ⟨rfl,h₆⟩)) fun _ _ z=>False.elim z)) fun _ _ z=>False.elim z))
def CompWT (J:It) (tt:TT) (te:TE) (σ':St) (Q:VK) (H:Hp) (acc:Addr):Prop :=
 ∃ (n:Nat) (W:Nat→List V→Hp→Prop),W 0 [] (upd H acc (.lst []))∧∀ i ys H2,W i ys H2→(J.stop i H2∧Q (.ref acc) H2) ∨
  (J.go i H2∧i<n∧∀ v H3,J.yld i H2 v H3→tt (some v::σ') H3 fun b H3'=>if b=true then te (some v::σ') H3' fun y H4=>H4 acc=some (.lst ys)∧ys.length<sizeLine∧W (i+1) (ys++[y]) (upd H4 acc (.lst (ys++[y]))) else W (i+1) ys H3')
theorem comp_coreT {X:Cx} {pins:List (Addr × Obj)} {σ:St} {H:Hp} {s:Shared} {x:Str} {px:Pos} {elt iter c:Expr} {scope:Scope} {pos:Pos} {cl:List (Str × Addr)} {N':List Str} {fr:List Nat} {te:TE} {tt:TT} {J:It} {fp:List Addr} {it:Addr}
  {tn:Nat→Heap→Prop} {E:Value→Shared→Prop} {RR:Value→Addr→Result→Shared→Prop} {Q:VK} (B:BlkOk X x fr N' scope cl) (hc:X.calm=true) (I:Inv X pins σ H s) (T:Turn X.prog X.w X.K (.Name x px) J fp it tn)
  (st:tn 0 s.heap) (hf:∀ b∈fp,FpOk X pins H b) (hq:∀ C s' H',PT (blk X N' scope cl C s' H' fp) c tt) (he:∀ C s' H',PE (blk X N' scope cl C s' H' fp) elt te) (h:∀ acc,H acc=none→CompWT J tt te (pick σ fr) Q H acc)
  (hRR:∀ acc C H' s' m,Inv X pins σ H' s'→Q (.ref acc) H'→s'.heap.Ns C m→H' C=none→C≠X.env.locals→(C∈X.ex∨X.s₀.heap.objs.size≤C)→(∀ y c,X.env.cells.lookup y=some c→c≠C)→(∀ p∈X.pn++pins,p.1≠C)→RR (.ref acc) C (.ok .next) s') :
  wpAny (model X.prog X.w) X.A (newList []) (fun acc s₃=>wpAny (model X.prog X.w) X.A (newFunctionEnv scope X.env.globals cl [] X.env.qual none .none (some X.env)) (fun cenv s₄ =>
   codeAny (model X.prog X.w) X.A (.compStart (.ListComp elt [⟨.Name x px,iter,[c],0⟩] scope pos) 0 (.ref it) acc { cenv with scope:=relabel scope X.env }) (RR acc cenv.locals) s₄) E s₃) E s:=by
 refine wpAny_newObj_type (wpAny_newFunctionEnv B.cell (by intro y hy; simp at hy) (fun h₁ hns₁ hsb₁=>?_) B.kind)
 have I3:Inv X pins σ (upd H s.heap.objs.size (.lst [])) { s with heap:=s.heap.push { cls:=.type "list",data:=.seq ([]:List Value).toArray } }:=I.lnew (its:=[]) (t':=s.toks) .nil (Nat.zero_le _)
 obtain ⟨n,W,w0,turn⟩:=h s.heap.objs.size I.fresh
 dsimp only at hns₁ hsb₁ ⊢
 generalize hs3:({ s with heap:=s.heap.push { cls:=.type "list",data:=.seq ([]:List Value).toArray } }:Shared)=s3 at *
 have hh3:s.heap.push { cls:=.type "list",data:=.seq ([]:List Value).toArray }=s3.heap:=by rw [← hs3]
 have hh3':s.heap.push { cls:=.type "list",dict:=none,data:=.seq ([]:List Value).toArray }=s3.heap:=hh3
 rw [hh3'] at hns₁ hsb₁ ⊢
 have lt3:∀ b o,s3.heap.get? b=some o→b≠s3.heap.objs.size:=fun b o e=>Nat.ne_of_lt (Heap.lt_size e)
 have keep1:∀ b o,s3.heap.get? b=some o→h₁.get? b=some o:=fun b o e=>hsb₁.extBut b o (lt3 b o e) (Heap.get?_push_of_some _ e)
 have keep0:∀ b o,s.heap.get? b=some o→s3.heap.get? b=some o:=fun b o e=>by rw [← hh3]; exact Heap.get?_push_of_some _ e
 have st3:tn 0 h₁:=T.keep 0 _ _ st fun b _ o e=>keep1 b o (keep0 b o e)
 have obj3:∀ b∈fp,∃ o,s3.heap.get? b=some o:=fun b hb=>by
  obtain ⟨o,e,_⟩:=T.obj 0 _ st b hb
  exact ⟨o,keep0 b o e⟩
 have nstk:∀ b,b≠X.env.locals→b∉X.fs→b∉frs X.stack:=fun b h1 h2 hb=>by
  rcases List.mem_cons.mp (I3.stkSub b hb) with z | z
  ·exact h1 z
  ·exact h2 z
 have ok:(blk X N' scope cl s3.heap.objs.size s3 (upd H s.heap.objs.size (.lst [])) fp).Ok:=by
  refine ⟨I.ok.mod,?_,I.ok.glob,I.ok.blt,Nat.le_refl _,fun y z c h1 h2=>I.ok.inj y z c (B.sub y c h1) (B.sub z c h2),fun y hy=>B.has y hy,fun y c e _=>absurd (show false=true from e) Bool.false_ne_true,I.ok.hd,I.ok.frames,.inl rfl,fun b hb=>?_,I3.bs,
   Nat.le_trans I.ok.bsz I3.sz,fun b o e hb=>?_,fun b hb=>nstk b (hf b hb).2.1 (hf b hb).2.2.1,I3.stack,I3.stkFree⟩
  ·exact B.kind
  ·obtain ⟨o,e⟩:=obj3 b hb
   exact ⟨lt3 b o e,fun y c e=>(hf b hb).2.2.2.2.1 y c (B.sub y c e)⟩
  ·rcases (hf b hb).2.2.2.1 with z | z
   ·exact I.ok.noex b o e z
   ·exact absurd (Nat.lt_of_lt_of_le (Heap.lt_size (I.ok.bs b o e).1) z) (Nat.lt_irrefl _)
 have cellK:∀ c v,s3.heap.IsCell c v→h₁.IsCell c v:=fun c v ⟨o,ho,hd⟩=>⟨o,keep1 c o ho,hd⟩
 have stat:∀ {H':Hp},(∀ b∈fp,H' b=none)→∀ b∈fp,FpOk (blk X N' scope cl s3.heap.objs.size s3 (upd H s.heap.objs.size (.lst [])) fp) pins H' b:=fun hn b hb =>
  ⟨hn b hb,(ok.exf b hb).1,nstk b (hf b hb).2.1 (hf b hb).2.2.1,.inl hb,fun y c e=>(hf b hb).2.2.2.2.1 y c (B.sub y c e),(hf b hb).2.2.2.2.2⟩
 have I4:Inv (blk X N' scope cl s3.heap.objs.size s3 (upd H s.heap.objs.size (.lst [])) fp) pins (none::pick σ fr) (upd H s.heap.objs.size (.lst [])) { s3 with heap:=h₁ }:=by
  refine ⟨ok,rfl,I3.bare,Un.kept keep1,⟨_,hns₁,fun i y v h1 h2 h3=>?_⟩,fun y c e=>?_,I3.fresh,fun y c e=>I3.freeC y c (B.sub y c e),fun p hp=>?_,I3.hok.kept keep1,?_⟩
  ·cases i with
   | zero=>cases (show some none=some (some v) from h2)
   | succ i =>
    have h2:(pick σ fr)[i]?=some (some v):=h2
    unfold pick at h2
    rw [List.getElem?_map] at h2
    cases ej:fr[i]? with
    | none=>rw [ej] at h2; cases h2
    | some j =>
     rw [ej] at h2
     have h2':(σ[j]?).getD none=some v:=Option.some.inj h2
     have hσ:σ[j]?=some (some v):=by
      cases q:σ[j]? with
      | none=>rw [q] at h2'; cases h2'
      | some o =>
       rw [q] at h2'
       have:o=some v:=h2'
       rw [this]
     obtain ⟨b1,b2,b3⟩:=B.see i j y h1 ej
     obtain ⟨m3,_,hl3⟩:=I3.loc
     obtain ⟨u,ru,lk⟩:=hl3 j y v b1 hσ (.inr (.inl b2))
     refine ⟨u,ru,.inr ⟨.inl b3,?_⟩⟩
     rcases lk with ⟨k,_⟩ | ⟨_,c,e,z⟩
     ·have k':X.env.scope.names.lookup y=some .local:=k
      rw [b2] at k'
      cases k'
     ·obtain ⟨c',e'⟩:=B.has y (.inl b3)
      have:=B.sub y c' e'
      rw [e] at this
      cases this
      exact ⟨_,e',cellK _ _ z⟩
  ·obtain ⟨v,z⟩:=I3.cell y c (B.sub y c e)
   exact ⟨v,cellK c v z⟩
  ·obtain ⟨e,n0,ne,nf,d⟩:=I3.pin p hp
   exact ⟨keep1 _ _ e,n0,lt3 _ _ e,nstk _ ne nf,d⟩
  ·show (none::pick σ fr).length=N'.length
   rw [B.len,List.length_cons]
   unfold pick
   rw [List.length_map]
 have fin:∀ {H':Hp} {σ':St} {s':Shared},Inv (blk X N' scope cl s3.heap.objs.size s3 (upd H s.heap.objs.size (.lst [])) fp) pins σ' H' s'→Q (.ref s.heap.objs.size) H'→RR (.ref s.heap.objs.size) s3.heap.objs.size (.ok .next) s':=fun {H' σ' s'} J q=>by
  obtain ⟨m,hn,_⟩:=J.loc
  refine hRR _ _ H' s' m (I3.call' (ch:=fp) J.os J.base J.hok J.bare fun b hb=>⟨(hf b hb).2.2.2.1,(hf b hb).2.1,(hf b hb).2.2.2.2.1,(hf b hb).2.2.2.2.2⟩) q hn J.free (Nat.ne_of_gt I3.lt) (.inr I3.sz) (fun y c e=>?_) fun p hp=>?_
  ·obtain ⟨v,o,ho,_⟩:=I3.cell y c e
   exact lt3 c o ho
  ·exact lt3 _ _ (I3.pin p hp).1
 have loop:∀ s₃:Shared,s₃={ s3 with heap:=h₁ }→codeAny (model X.prog X.w) X.A (.compLoop (.ListComp elt [⟨.Name x px,iter,[c],0⟩] scope pos) 0 (.ref it) (.ref s.heap.objs.size) (compEnvC scope cl s3.heap.objs.size X.env)) (RR (.ref s.heap.objs.size) s3.heap.objs.size) s₃:=by
  rintro s₃ rfl
  refine compLoop_goT (fun m s'=>∃ i ys xo H',Inv (blk X N' scope cl s3.heap.objs.size s3 (upd H s.heap.objs.size (.lst [])) fp) pins (xo::pick σ fr) H' s'∧tn i s'.heap∧(∀ b∈fp,H' b=none)∧W i ys H'∧m=n - i) ?_ n ⟨0,[],none,_,I4,st3,fun b hb=>?_,w0,rfl⟩
  ·rintro m s' ⟨i,ys,xo,H',I',st',fr',w',rfl⟩
   rcases turn i ys H' w' with ⟨stop,q⟩ | ⟨go,hin,step⟩
   ·refine thn (T.done (blk X N' scope cl s3.heap.objs.size s3 (upd H s.heap.objs.size (.lst [])) fp) rfl rfl rfl hc i pins s' _ H' (fun _ _=>False) I' (stat fr') st' stop) fun r s1 ⟨hr,I1⟩=>?_
    subst hr
    exact fin I1 q
   ·refine thn (T.item (blk X N' scope cl s3.heap.objs.size s3 (upd H s.heap.objs.size (.lst [])) fp) rfl rfl rfl hc i pins s' _ H' (fun _ _=>False) I' (stat fr') st' go) fun r s1 ⟨u,hr,h4⟩=>?_
    subst hr
    refine thn h4 fun _ s5 ⟨v,H5,I5,r5,y5,st5,fr5⟩=>?_
    have I5':=I5.pinned (stat fr5) (T.obj _ _ st5)
    have kx:(relabel scope X.env).names.lookup x=some .local:=lookup_relabel_local B.loc
    refine thn (z1e (X:=blk X N' scope cl s3.heap.objs.size s3 (upd H s.heap.objs.size (.lst [])) fp) (i:=0) (x:=x) B.nd B.hx (.inl kx) (.inr kx) _ s5 _ H5 v u
     (fun σ' H6=>σ'=some v::pick σ fr∧H6=H5) I5' r5 ⟨rfl,rfl⟩) fun _ s6 ⟨σ6,H6,I6,e1,e2⟩=>?_
    subst e1 e2
    have again:∀ {H8:Hp} {zs:List V} {s8:Shared},Inv (blk X N' scope cl s3.heap.objs.size s3 (upd H s.heap.objs.size (.lst [])) fp) (pins++pinsAt fp s5.heap) (some v::pick σ fr) H8 s8→W (i+1) zs H8 →
      ∃ m,m<n - i∧∃ i ys xo H',Inv (blk X N' scope cl s3.heap.objs.size s3 (upd H s.heap.objs.size (.lst [])) fp) pins (xo::pick σ fr) H' s8∧tn i s8.heap∧(∀ b∈fp,H' b=none)∧W i ys H'∧m=n - i:=fun {H8 zs s8} I8 w8=>by
     refine ⟨n - (i+1),by omega,i+1,zs,some v,_,I8.unpinned,T.keep _ _ _ st5 fun b hb o e=>(I8.pin (b,o) (List.mem_append_right _ (List.mem_append_right _ (z2i hb e)))).1,fun b hb=>?_,w8,rfl⟩
     obtain ⟨o,e,d⟩:=T.obj _ _ st5 b hb
     exact (I8.pin (b,o) (List.mem_append_right _ (List.mem_append_right _ (z2i hb e)))).2.1
    refine thn (hq _ _ _ _ s6 _ _ _ I6 (step v _ y5)) fun ok s6' ⟨H6',I6',q6'⟩=>?_
    cases ok with
    | false=>exact again I6' q6'
    | true =>
     refine thn (he _ _ _ _ s6' _ _ _ I6' q6') fun y s7 ⟨vy,H7,I7,ry,hacc,hlen,w7⟩=>?_
     refine thn (z12 _ s7 _ H7 (.ref s.heap.objs.size) [vy] (.ref s.heap.objs.size) [y] (fun _ H8=>H8=upd H7 s.heap.objs.size (.lst (ys++[vy]))) I7 rfl (.cons ry .nil) ⟨_,ys,vy,rfl,rfl,hacc,hlen,rfl⟩) fun _ s8 ⟨_,H8,I8,_,e8⟩=>?_
     subst e8
     exact again I8 w7
  ·obtain ⟨o,e,_⟩:=T.obj 0 _ st b hb
   rw [z01 (Nat.ne_of_lt (Heap.lt_size e))]
   exact (hf b hb).1
 have e4:({ s with heap:=h₁,toks:=s.toks+([]:List (Str × Value)).length }:Shared)={ s3 with heap:=h₁ }:=by rw [← hs3]; rfl
 rw [e4]
 exact codeAny_compStart_list (loop _ rfl) (T.self _ 0 _ _ _ st3 (loop _ rfl))
section
variable {X:Cx} {x y:Str} {px py pos spos:Pos} {elt iter c:Expr} {scope:Scope} {cl:List (Str × Addr)} {N':List Str} {fr:List Nat} {wi:TI} {te:TE} {tt:TT}
def tCompT (wi:TI) (fr:List Nat) (tt:TT) (te:TE):TE:=fun σ H Q=>wi σ H fun J H1=>∀ acc,H1 acc=none→CompWT J tt te (pick σ fr) Q H1 acc
def sCompT (i:Nat) (wi:TI) (fr:List Nat) (tt:TT) (te:TE):TS:=fun D σ H=>tCompT wi fr tt te σ H fun v H1=>D.nx (σ.set i (some v)) H1
theorem ps_compT {i:Nat} (fr:List Nat) (N':List Str) (hN:X.N.Nodup) (hi':X.N[i]?=some y) (hy:X.env.kindOf y=some .local) (B:BlkOk X x fr N' scope cl) (hc:X.calm=true) (hi:PI X (.Name x px) iter wi)
  (hq:∀ C s' H' fp,PT (blk X N' scope cl C s' H' fp) c tt) (he:∀ C s' H' fp,PE (blk X N' scope cl C s' H' fp) elt te) (hsw:swapsWith (.ListComp elt [⟨.Name x px,iter,[c],0⟩] scope pos) (some (.Name y py)) spos.line X.env=pure true:=by rfl) (hs:∀ x,foldedSetIterable iter X.env x=pure x:=by intro _; rfl) :
  PS X (.Assign [.Name y py] (.ListComp elt [⟨.Name x px,iter,[c],0⟩] scope pos) spos) (sCompT i wi fr tt te):=by
 intro pins s σ H D I h
 rw [exec_Assign_Name_used _ _ _ _ hsw]
 refine wpAny_bind (wpAny_standAt (wpAny_bind ?_))
 show wpAny _ X.A (do let _ ← comprehension (.ListComp elt [⟨.Name x px,iter,[c],0⟩] scope pos) scope X.env _ (newList []) false (eval iter X.env) (some (assign (.Name y py) X.env))) _ _ s
 refine wpAny_bind (wpAny_mono (wpAny_comprehension_free (use:=some (assign (.Name y py) X.env)) (Q:=fun _ s'=>SP X pins D .next s') rfl hs B.clos B.kind B.names (thn (hi pins s σ H _ I h) fun v s1 h1=>thn h1 fun itv s2 h2=>?_))
  (fun _ s' hq=>wpAny_pure (wpAny_pure hq)) fun _ _ e=>e)
 obtain ⟨it,fp,tn,J,H2,e,I2,T,st2,f2,q2⟩:=h2
 subst e
 refine comp_coreT (RR:=fun acc C=>compPost (model X.prog X.w) X.A X.xe (some (assign (.Name y py) X.env)) (fun _ s'=>SP X pins D .next s') acc C) B hc I2 T st2 f2 (fun C s' H'=>hq C s' H' fp) (fun C s' H'=>he C s' H' fp) q2 ?_
 intro acc C H' s' m I' q hn h0 h1 h3 h4 h5
 show wpAny _ X.A (assign (.Name y py) X.env (.ref acc)) _ _ _
 refine wpAny_assign_Name (store_ok2 (v:=.ref acc) I' hN hi' (.inl hy) rfl (fun s'' I'' hsb=>?_) (.inr hy))
 obtain ⟨a,sb,ha⟩:=hsb
 have hCa:C≠a:=by
  rcases ha with z | z
  ·rw [z]; exact h1
  ·exact Ne.symm (h4 _ _ z)
 refine ⟨m,hn.sameBut sb hCa,fun h' sb'=>⟨_,H',I''.turned (t':=s''.toks) (fun b o hb e=>(sb'.2 b hb).trans e) h0 h1 h3 h4 h5,q⟩⟩
end
end L2
set_option Elab.async false
set_option linter.all false
set_option maxRecDepth 100000
namespace L2
open PySem
inductive LN where
 | put (d:Int) (p:Nat) (o n:Int)
 | fin (d:Int)
 deriving DecidableEq
def endedB (log:List LN) (d:Int):Bool:=log.any fun ln=>match ln with
 | .fin e=>e == d
 | .put .. => false
def firstLost (full:List LN):List LN→Nat→Option Int
 | [],_=>none
 | .put d p o _::r,q=>if p=q∧endedB full d=false then some o else firstLost full r q
 | .fin _::r,q=>firstLost full r q
def lastNew:List LN→Nat→Option Int→Option Int
 | [],_,a=>a
 | .put _ p _ n::r,q,a=>lastNew r q (if p=q then some n else a)
 | .fin _::r,q,a=>lastNew r q a
structure PgI (log:List LN) (ss:List Int) (q:Nat) (t dv kv:Int):Prop where
 tb:t = -1∨(0≤t∧t≤2)
 l1:∀ x,lastNew log q none=some x→x=dv
 l2:lastNew log q none=none→dv=kv
 fr:t = -1→dv=kv∧∀ d o n,LN.put d q o n∈log→endedB log d=true
 tk:0≤t→∃ d,ss[t.toNat]?=some d∧firstLost log log q=some kv∧∀ d' o n,LN.put d' q o n∈log→endedB log d'=false→d'=d
structure NumI (m:Int) (log:List LN) (ss:List Int):Prop where
 len:ss.length=3
 lt:∀ (s:Nat) (d:Int),ss[s]?=some d→d<m∧endedB log d=false
 inj:∀ (s s':Nat) (d:Int),ss[s]?=some d→ss[s']?=some d→s=s'
 fi:∀ d,LN.fin d∈log→d<m
 pu:∀ d p o n,LN.put d p o n∈log→d<m
structure KI (n:Nat) (m:Int) (log:List LN) (ds ks ss ts:List Int):Prop where
 num:NumI m log ss
 pg:∀ q,q<n→∃ t dv kv,ts[q]?=some t∧ds[q]?=some dv∧ks[q]?=some kv∧PgI log ss q t dv kv
def LNat (H:Hp):LN→V→Prop
 | .put d p o n,x=>∃ a,x=.ref a∧H a=some (.tup [.str "put",.int d,.int (p:Nat),.int o,.int n])
 | .fin d,x=>∃ a,x=.ref a∧H a=some (.tup [.str "end",.int d])
def LN.ok (c:Nat):LN→Prop
 | .put _ p _ _=>p<c
 | .fin _=>True
theorem LNat.mono {H H':Hp} (k:z1i H H'):∀ {ln:LN} {x:V},LNat H ln x→LNat H' ln x
 | .put d p o n,x,⟨a,e,h⟩=>⟨a,e,k _ _ h⟩
 | .fin d,x,⟨a,e,h⟩=>⟨a,e,k _ _ h⟩
abbrev LogAt (H:Hp) (log:List LN) (xs:List V):Prop:=All2 (LNat H) log xs
theorem ixN_nat {n j:Nat} (h:j<n):ixN n (j:Int)=some j:=by
 rw [ixN_in (Int.natCast_nonneg _) (by omega)]
 rfl
theorem cut_nat (xs:List V) (k:Nat):cutV xs (some (k:Int)) none=xs.drop k:=by
 unfold cutV
 rw [HT.sIx_none,HT.sIx_nat]
 rw [List.take_of_length_le (by rw [List.length_drop]; exact Nat.le_refl _)]
 by_cases h:k≤xs.length
 ·rw [Nat.min_eq_left h]
 ·rw [Nat.min_eq_right (by omega),List.drop_length,List.drop_eq_nil_of_le (by omega)]
theorem cut_ints (ns:List Int) (k:Nat):cutV (ns.map V.int) (some (k:Int)) none=(ns.drop k).map V.int:=by rw [cut_nat,List.map_drop]
theorem ints_of:∀ {ys:List V},(∀ v∈ys,∃ z:Int,v=.int z)→∃ ns:List Int,ys=ns.map V.int
 | [],_=>⟨[],rfl⟩
 | y::r,h=>by
  obtain ⟨z,rfl⟩:=h y List.mem_cons_self
  obtain ⟨ns,rfl⟩:=ints_of (ys:=r) fun v hv=>h v (List.mem_cons_of_mem _ hv)
  exact ⟨z::ns,rfl⟩
theorem reps_ints (H:Hp) (ns:List Int):∃ l,Reps H l (ns.map V.int)∧szs l≤ns.length:=by
 obtain ⟨l,h1,h2⟩:=reps_of (H:=H) (c:=1) (xs:=ns.map V.int) fun v hv=>by
  obtain ⟨z,_,rfl⟩:=List.mem_map.mp hv
  exact ⟨.int z,.ofInt,Nat.le_of_eq (sz_int z)⟩
 rw [List.length_map] at h2
 exact ⟨l,h1,by omega⟩
theorem line_lt {n:Nat} (h:n≤2000):n<sizeLine:=Nat.lt_of_le_of_lt h (by decide)
theorem pe_ne:¬(V.str "end"=V.str "put"):=by decide +kernel
end L2
set_option Elab.async false
set_option linter.all false
set_option maxRecDepth 100000
namespace L2
open PySem
structure GI (H0:Hp) (n:Nat) (r:Addr) (H:Hp) (i:Nat) (xs:List V) (log:List LN):Prop where
 sm:Same H0 H
 hl:H r=some (.lst xs)
 lg:LogAt H log xs
 ok:∀ ln∈log,ln.ok n
 le:log.length≤i
structure WI (H0:Hp) (n:Nat) (l dk kp sl tk:Addr) (H:Hp) (i:Nat) (xs:List V) (log:List LN) (ds ks ss ts:List Int):Prop where
 g:GI H0 n l H i xs log
 hd:H dk=some (.lst (ds.map V.int))
 hk:H kp=some (.lst (ks.map V.int))
 hs:H sl=some (.lst (ss.map V.int))
 ht:H tk=some (.lst (ts.map V.int))
 nd:ds.length=n
 nk:ks.length=n
 ns:ss.length=3
 nt:ts.length=n
structure Five (H0:Hp) (l dk kp sl tk:Addr):Prop where
 h1:H0 l=none
 h2:H0 dk=none
 h3:H0 kp=none
 h4:H0 sl=none
 h5:H0 tk=none
 n12:l≠dk
 n13:l≠kp
 n14:l≠sl
 n15:l≠tk
 n23:dk≠kp
 n24:dk≠sl
 n25:dk≠tk
 n34:kp≠sl
 n35:kp≠tk
 n45:sl≠tk
section
variable {H0:Hp} {n:Nat} {l dk kp sl tk:Addr} {H:Hp} {i:Nat} {xs:List V} {log:List LN} {ds ks ss ts:List Int}
end
theorem two_ix {K:PySem.W.Frag} {t:Addr} {x y:V} {H:Hp} {Q:VK} (ht:H t=some (.lst [x,y])) (h1:Q x H) (h2:Q y H) (k:Bool):rIxL K (.ref t) (.int (if k then 1 else 0)) H Q:=by
 cases k with
 | false=>exact ⟨t,_,0,x,rfl,rfl,SqL.of ht,rfl,h1⟩
 | true=>exact ⟨t,_,1,y,rfl,rfl,SqL.of ht,rfl,h2⟩
def z2r (q:Nat):LN→Bool
 | .put _ p _ _=>decide (p=q)
 | .fin _=>false
end L2
set_option Elab.async false
set_option linter.all false
set_option maxRecDepth 100000
namespace L2
open PySem
section
variable {X:Cx} {K:PySem.W.Frag}
theorem ix_listK (h:X.K=K):IxR X (rIxL K):=by subst h; exact z0w
end
end L2
set_option Elab.async false
set_option linter.all false
set_option maxRecDepth 100000
namespace L2
open PySem PySem.Spec PyProof.Rows
theorem vals_of_get:∀ {xs:List V} {us:List Value},us.length=xs.length→(∀ (j:Nat) (u:Value),us[j]?=some u→∃ x,xs[j]?=some x∧RelV x u)→Vals xs us
 | [],[],_,_=>.nil
 | [],_::_,h,_=>by simp at h
 | _::_,[],h,_=>by simp at h
 | x::xs,u::us,h,f=>by
  obtain ⟨y,e,r⟩:=f 0 u rfl
  have e':x=y:=Option.some.inj e
  subst e'
  refine .cons r (vals_of_get (by simpa using h) fun j u' hu=>?_)
  obtain ⟨z,e2,r2⟩:=f (j+1) u' (by simpa using hu)
  exact ⟨z,by simpa using e2,r2⟩
section
variable {X:Cx}
def rListD:List V→Hp→VK→Prop:=fun xs H Q=>∃ d kvs,xs=[.ref d]∧H d=some (.dK kvs)∧∀ l,H l=none→Q (.ref l) (upd H l (.lst (kvs.map fun z=>kV z.1)))
theorem call_listD (hh:X.A.handled=none):CallR X (.type "list") rListD:=by
 intro pins s σ H xs us Q I rv h
 obtain ⟨d,kvs,rfl,hd,q⟩:=h
 obtain ⟨u,rfl,ru⟩:=rv.one
 cases ru
 obtain ⟨z,hds,vs,rel,dd⟩:=dk_of I.hok hd
 obtain ⟨ep,da⟩:=dd.dictAt
 have hl:kvs.length=vs.length:=rel.length
 refine PySem.W.kdl_call (PySem.W.kdl_dict hds) hh da (by rw [← hl]; exact z) fun h' tk acc' c' hk hD hacc=>?_
 have hv:Vals (kvs.map fun z=>kV z.1) acc'.toList:=by
  refine vals_of_get (by rw [List.length_map,Array.length_toList,hacc.1,hl]) fun j u hu=>?_
  obtain ⟨k,x,e,hk⟩:=hacc.2 j u (by rw [← Array.getElem?_toList]; exact hu)
  have hj:j<kvs.length:=by rw [hl]; exact (List.getElem?_eq_some_iff.mp e).1
  have hkeys:=rel.keys
  have e2:(kvs.map (·.1))[j]?=some k:=by rw [hkeys,List.getElem?_map,e]; rfl
  rw [List.getElem?_map,List.getElem?_eq_getElem hj] at e2
  have e3:kvs[j].1=k:=Option.some.inj e2
  refine ⟨kV k,by rw [List.getElem?_map,List.getElem?_eq_getElem hj,← e3]; rfl,?_⟩
  rcases z18 hk with ⟨i,t,rfl,rfl⟩ | ⟨y,t,rfl,rfl⟩
  ·exact ⟨t,rfl⟩
  ·exact ⟨t,rfl⟩
 refine ⟨.ref s.heap.objs.size,_,I.laid (t':=tk) (o:=.lst (kvs.map fun z=>kV z.1)) hk (Nat.le_refl _) ⟨by rw [List.length_map]; exact z,acc'.toList,c',hv,by rw [Array.toArray_toList]; exact hD⟩,rfl,q _ I.fresh⟩
theorem preSum_take:∀ (ns:List Int) (j:Nat),j≤ns.length→preSum (fun i=>ns.getD i 0) j=(ns.take j).sum
 | _,0,_=>rfl
 | ns,j+1,h=>by
  have hj:j<ns.length:=by omega
  show preSum (fun i=>ns.getD i 0) j+ns.getD j 0=_
  rw [preSum_take ns j (by omega),List.take_add_one,List.getElem?_eq_getElem hj,List.sum_append,List.getD_eq_getElem?_getD,List.getElem?_eq_getElem hj]
  simp
def rSum (K:PySem.W.Frag):List V→Hp→VK→Prop:=fun xs H Q=>∃ (l:Addr) (ns:List Int),xs=[.ref l]∧SqL K H l (ns.map V.int)∧Q (.int ns.sum) H
theorem call_sum (hh:X.A.handled=none):CallR X (.builtin "sum") (rSum X.K):=by
 intro pins s σ H xs us Q I rv h
 obtain ⟨l,ns,rfl,hl,q⟩:=h
 obtain ⟨u,rfl,ru⟩:=rv.one
 cases ru
 obtain ⟨its,r,p,hz⟩:=I.list hl
 have lz:=r.length
 rw [List.length_map] at lz
 refine call_sum_walkAnyS ?_
 refine wpAny_pyIter_list p.isList ?_
 have hne:l≠s.heap.objs.size:=by
  obtain ⟨o,ho,_⟩:=p.isList
  exact Nat.ne_of_lt (Heap.lt_size ho)
 refine ⟨s.heap.objs.size,_,_,_,its.toArray.size,_,_,fun i=>ns.getD i 0,rfl,(Walks.list (A:=X.A.in1) hh s.heap.objs.size l hne its.toArray).toS,⟨⟨_,Heap.get?_push_size _ rfl,rfl,rfl⟩,p.isList.push _⟩,fun b hb=>?_,fun i v hv=>?_,fun s' t' M=>?_⟩
 ·rw [Heap.size_push]
  rcases List.mem_cons.mp hb with z | z
  ·rw [z]; exact Nat.lt_succ_self _
  ·rw [List.mem_singleton.mp z]
   obtain ⟨o,ho,_⟩:=p.isList
   exact Nat.lt_succ_of_lt (Heap.lt_size ho)
 ·have hv':its[i]?=some v:=by simpa using hv
  have hi:i<ns.length:=by rw [lz]; exact (List.getElem?_eq_some_iff.mp hv').1
  obtain ⟨u,e,ru⟩:=r.get (z2y (List.getElem?_eq_getElem hi))
  rw [hv'] at e
  cases e
  obtain ⟨t,et⟩:=ru
  refine ⟨t,?_⟩
  have eg:ns.getD i 0=ns[i]:=by rw [List.getD_eq_getElem?_getD,List.getElem?_eq_getElem hi]; rfl
  show _=Value.int (ns.getD i 0) t
  rw [et,eg]
 ·have e:preSum (fun i=>ns.getD i 0) its.toArray.size=ns.sum:=by
   rw [List.size_toArray,← lz,preSum_take ns ns.length (Nat.le_refl _),List.take_length]
  rw [e]
  have kk:∀ b o,s.heap.get? b=some o→s'.heap.get? b=some o:=fun b o eb=>M.heap b o (fun hb=>absurd (List.mem_singleton.mp hb) (Nat.ne_of_lt (Heap.lt_size eb))) (Heap.get?_push_of_some _ eb)
  obtain ⟨h',g',d',t0,os'⟩:=s'
  obtain rfl:g'=s.gens:=M.gens
  obtain rfl:d'=s.drawn:=M.drawn
  obtain rfl:os'=s.os:=M.os
  exact ⟨.int ns.sum,H,I.kept (t':=t0) kk,⟨t',rfl⟩,q⟩
end
end L2
set_option Elab.async false
set_option linter.all false
set_option maxRecDepth 100000
namespace L2
open PySem PySem.Spec PyProof.Rows
theorem lri_nolen:typeLookup (.type "list_reverseiterator") "__len__"=pure none:=by rw [typeLookup_type,builtinLookup_eq_fast]; kernel_rfl
theorem lri_hint:typeLookup (.type "list_reverseiterator") "__length_hint__"=pure (some (.builtin "list_reverseiterator.__length_hint__")):=by rw [typeLookup_type,builtinLookup_eq_fast]; kernel_rfl
theorem rev_hint {prog:Program} {w:World} {A:Around} {E:Value→Shared→Prop} {s:Shared} {r:Addr} {Q:Bool→Shared→Prop} (hT:s.TypeIs (.ref r) "list_reverseiterator") (h:Q false s):wpAny (model prog w) A (Builtin.List.listLengthHint (.ref r)) Q E s:=by
 unfold Builtin.List.listLengthHint
 refine wpAny_bind (wpAny_specialOf hT lri_nolen ?_)
 show wpAny _ A (specialOf (Value.ref r) (Str.ofString "__length_hint__") >>= _) _ _ _
 refine wpAny_bind (wpAny_specialOf hT lri_hint ?_)
 generalize hid:("list_reverseiterator.__length_hint__":String)=id0
 wp_delta
 rw [show splitId id0=some ("list_reverseiterator","__length_hint__") from by subst hid; decide +kernel]
 subst hid
 refine wpAny_bind (wpAny_isInstance (T:="list_reverseiterator") (b:=true) hT (by rw [isSubtype_type]; kernel_rfl) ?_)
 refine wpAny_ite_split (fun hab=>absurd hab (by decide)) (fun _=>?_)
 refine wpAny_ite_split (fun _=>?_) (fun hab=>absurd (by decide +kernel) hab)
 refine wpAny_ite_split (fun hab=>absurd hab (by decide +kernel)) (fun _=>?_)
 exact wpAny_pure h
theorem rev_list {prog:Program} {w:World} {A:Around} {E:Value→Shared→Prop} {s:Shared} {it l:Addr} {items:Array Value} {Q:Value→Shared→Prop} (hh:A.handled=none) (hit:s.heap.IsRevIter it l ((items.size:Int) - 1)) (hl:s.heap.IsList l items) (hne:l≠it) (hn:items.size≤sizeLine)
  (hQ:∀ h' tk acc c,(∀ b o,b≠it→s.heap.get? b=some o→h'.get? b=some o)→h'.get? s.heap.objs.size=some { cls:=.type "list",dict:=none,data:=.seq acc c,slots := #[] }→ItemsOf (fun i v=>items[items.size - 1 - i]?=some v) acc items.size→Q (.ref s.heap.objs.size) { s with heap:=h',toks:=tk }) :
  wpAny (model prog w) A (call (.type "list") [.ref it]) Q E s:=by
 refine callType_codes (Q₁:=fun ob s₁=>ob=.ref s.heap.objs.size∧s₁={ s with heap:=s.heap.push { cls:=.type "list",data:=.seq #[] } }) PySem.F.called_list (PySem.F.typeCall_list_1 _) PySem.F.entry_list_init (code_list_new _ ⟨rfl,rfl⟩) fun ob s₁ hob=>?_
 obtain ⟨rfl,rfl⟩:=hob
 have hitl:it<s.heap.objs.size:=by obtain ⟨o,ho,_⟩:=hit; exact Heap.lt_size ho
 have hll:l<s.heap.objs.size:=by obtain ⟨o,ho,_⟩:=hl; exact Heap.lt_size ho
 have g1:(s.heap.push { cls:=.type "list",data:=.seq #[] }).get? s.heap.objs.size=some { cls:=.type "list",data:=.seq #[] }:=Heap.get?_push_size _ rfl
 refine ⟨⟨_,g1,rfl⟩,PySem.F.args_list_init_2 _ _,?_⟩
 show wpAny _ _ (do let old ← Builtin.List.listItems (.ref s.heap.objs.size); Builtin.List.listUpdate (.ref s.heap.objs.size) (fun _ => #[]); letGo old.toList.reverse; Builtin.List.listExtendWith (.ref s.heap.objs.size) (.ref it) .none) _ _ _
 refine wpAny_bind ?_
 unfold Builtin.List.listItems
 refine wpAny_bind (wpAny_seqItems g1 rfl (wpAny_pure ?_))
 show wpAny _ _ (updateSeq s.heap.objs.size (fun _ => #[]) >>= fun _=>letGo (#[]:Array Value).toList.reverse >>= fun _=>Builtin.List.listExtendWith (.ref s.heap.objs.size) (.ref it) .none) _ _ _
 refine wpAny_bind (wpAny_updateSeq g1 rfl ?_)
 have g2:=Heap.get?_update_self (Obj.mapSeq (fun _=>(#[]:Array Value))) g1 rfl
 have old2:∀ b o,s.heap.get? b=some o→((s.heap.push { cls:=.type "list",data:=.seq #[] }).update s.heap.objs.size (Obj.mapSeq (fun _=>(#[]:Array Value)))).get? b=some o :=
  fun b o e=>(Heap.get?_update_other _ _ (Nat.ne_of_gt (Heap.lt_size e))).trans (Heap.get?_push_of_some _ e)
 refine wpAny_bind (wpAny_letGo ?_)
 have Wk:=(Walks.listRev (prog:=prog) (w:=w) (A:=A.in1.in1) hh it l hne items)
 have hSf:s.heap.objs.size∉[it,l]:=fun hm=>by
  rcases List.mem_cons.mp hm with z | z
  ·exact Nat.ne_of_gt hitl z
  ·exact Nat.ne_of_gt hll (List.mem_singleton.mp z)
 have e0:(items.size:Int) - 1 - ((0:Nat):Int)=(items.size:Int) - 1:=by omega
 have key:∀ (h:Heap) (c₁ tk:Nat),(∀ b o,s.heap.get? b=some o→h.get? b=some o)→h.get? s.heap.objs.size=some { cls:=.type "list",data:=.seq #[] c₁ } →
   codeAny (model prog w) A.in1 (.builtin "list.extend.loop" ⟨[.ref s.heap.objs.size,.ref it,.none],[]⟩) (wants (fun r s₂=>r=.none∧Q (.ref s.heap.objs.size) s₂) E) { s with heap:=h,toks:=tk }:=by
  intro h c₁ tk hk g
  refine codeAny_extend_loopS Wk.toS hn s.heap.objs.size hSf .none items.size 0 _ #[] c₁ rfl (Nat.zero_le _) ⟨Nat.zero_le _,by rw [e0]; exact hit.at fun o e=>hk it o e,hl.at fun o e=>hk l o e⟩ g (ItemsOf.nil _) fun s' acc' c' hm g' hacc=>?_
  rw [Moved.eq_with hm]
  refine ⟨rfl,hQ s'.heap s'.toks acc' c' (fun b o hb e=>hm.heap b o (fun hmem=>?_) (hk b o e)) g' hacc⟩
  rcases List.mem_cons.mp hmem with z | z
  ·exact absurd (Heap.lt_size e) (by rw [z]; exact Nat.lt_irrefl _)
  ·exact hb (List.mem_singleton.mp z)
 have hT:Shared.TypeIs { s with heap:=(s.heap.push { cls:=.type "list",data:=.seq #[] }).update s.heap.objs.size (Obj.mapSeq (fun _=>(#[]:Array Value))) } (.ref it) "list_reverseiterator":=(hit.at fun o e=>old2 it o e).typeIs
 unfold Builtin.List.listExtendWith
 refine wpAny_bind (wpAny_typeOf hT ?_)
 have h1:Builtin.List.listSameRef (.ref s.heap.objs.size) (.ref it)=false:=by simp [Builtin.List.listSameRef,Nat.ne_of_gt hitl]
 rw [if_neg (by rw [h1]; decide)]
 refine wpAny_bind (wpAny_pyIter_revIter (hit.at fun o e=>old2 it o e) ?_)
 refine wpAny_bind (wpAny_holding (rev_hint hT ?_))
 refine wpAny_ite_split (fun _=>?_) (fun _=>wpAny_pure ⟨plainId_quiet PySem.F.plain_extend_loop _,key _ _ _ old2 g2⟩)
 refine wpAny_bind (wpAny_rule ?_)
 refine wpAny_bind ?_
 show wpAny _ _ (updateSeq s.heap.objs.size (·.push .none) >>= fun _=>updateSeq s.heap.objs.size (·.pop)) _ _ _
 refine wpAny_bind (wpAny_updateSeq g2 rfl ?_)
 have g3:=Heap.get?_update_self (Obj.mapSeq (·.push Value.none)) g2 rfl
 refine wpAny_updateSeq (hz:=by seq_fits) g3 rfl ?_
 have g4:=Heap.get?_update_self (Obj.mapSeq (·.pop)) g3 rfl
 refine wpAny_pure ⟨plainId_quiet PySem.F.plain_extend_loop _,key _ _ _ (fun b o e=>?_) g4⟩
 exact (Heap.get?_update_other _ _ (Nat.ne_of_gt (Heap.lt_size e))).trans ((Heap.get?_update_other _ _ (Nat.ne_of_gt (Heap.lt_size e))).trans (old2 b o e))
section
variable {X:Cx}
def tListRev (K:PySem.W.Frag) (te:TE):TE:=fun σ H Q=>te σ H fun x H1=>∃ a xs,x=.ref a∧SqL K H1 a xs∧∀ l,H1 l=none→Q (.ref l) (upd H1 l (.lst xs.reverse))
theorem pe_listRev {e:Expr} {te:TE} {p1 p2 p3 p4:Pos} (hh:X.A.handled=none) (hg:Gl X "list") (hm:X.mg "list"=none) (hg2:Gl X "reversed") (hm2:X.mg "reversed"=none) (he:PE X e te)
  (hs:starEach [.Call (.Name "reversed" p2) [e] [] p3] X.env=[(false,eval (.Call (.Name "reversed" p2) [e] [] p3) X.env)]:=by rfl) (hs2:starEach [e] X.env=[(false,eval e X.env)]:=by rfl) :
  PE X (.Call (.Name "list" p1) [.Call (.Name "reversed" p2) [e] [] p3] [] p4) (tListRev X.K te):=by
 intro pins s σ H Q I h
 refine Call_ (ld_blt I hg hm boot_list (PyProof.Rows.callWith_type1 ?_ hs rfl))
 rw [hs]
 show wpAny _ _ (spliced [(false,eval (.Call (.Name "reversed" p2) [e] [] p3) X.env)]) _ _ s
 refine Calls.spliced_cons ?_
 refine Call_ (ld_blt I hg2 hm2 boot_reversed (PyProof.Rows.callWith_type1 ?_ hs2 rfl))
 rw [hs2]
 show wpAny _ _ (spliced [(false,eval e X.env)]) _ _ s
 refine Calls.spliced_cons (thn (he pins s σ H _ I h) fun u s1 ⟨x,H1,I1,r1,a,xs,ex,hx,q⟩=>?_)
 subst ex
 cases r1
 obtain ⟨its,rv,pl,hz⟩:=I1.list hx
 have lz:=rv.length
 refine Calls.spliced_nil (call_reversed_list pl.isList ?_)
 refine Calls.spliced_nil ?_
 have hne:a≠s1.heap.objs.size:=by
  obtain ⟨o,ho,_⟩:=pl.isList
  exact Nat.ne_of_lt (Heap.lt_size ho)
 refine rev_list (items:=its.toArray) hh ⟨_,Heap.get?_push_size _ rfl,rfl,rfl⟩ (pl.isList.push _) hne (by rw [List.size_toArray]; omega) fun h' tk acc c hk hD hacc=>?_
 have hk1:∀ b o,s1.heap.get? b=some o→h'.get? b=some o:=fun b o eb=>hk b o (Nat.ne_of_lt (Heap.lt_size eb)) (Heap.get?_push_of_some _ eb)
 have hv:Vals xs.reverse acc.toList:=by
  refine vals_of_get (by rw [List.length_reverse,Array.length_toList,hacc.1,List.size_toArray,lz]) fun j u hu=>?_
  have e1:=hacc.2 j u (by rw [← Array.getElem?_toList]; exact hu)
  have hj:j<xs.length:=by
   have:=(List.getElem?_eq_some_iff.mp hu).1
   rw [Array.length_toList,hacc.1,List.size_toArray] at this
   omega
  rw [List.size_toArray] at e1
  have e2:its[its.length - 1 - j]?=some u:=by simpa using e1
  have hj2:its.length - 1 - j<xs.length:=by omega
  obtain ⟨u2,e3,r3⟩:=rv.get (List.getElem?_eq_getElem hj2)
  rw [e2] at e3
  cases e3
  refine ⟨_,?_,r3⟩
  rw [List.getElem?_reverse hj]
  have e4:xs.length - 1 - j=its.length - 1 - j:=by omega
  rw [e4]
  exact List.getElem?_eq_getElem hj2
 rw [Heap.size_push] at hD
 have e5:(s1.heap.push (revObj a ((its.toArray.size:Int) - 1))).objs.size=s1.heap.objs.size+1:=Heap.size_push ..
 have hfr:H1 (s1.heap.objs.size+1)=none:=I1.hok.fresh (Nat.le_succ _)
 show EP X pins σ Q (.ref (s1.heap.push (revObj a ((its.toArray.size:Int) - 1))).objs.size) _
 rw [e5]
 refine ⟨.ref (s1.heap.objs.size+1),upd H1 (s1.heap.objs.size+1) (.lst xs.reverse),?_,rfl,q _ hfr⟩
 refine Inv.laid (s:=s1) (t':=tk) (a:=s1.heap.objs.size+1) (o:=.lst xs.reverse) I1 hk1 (Nat.le_succ _) ⟨by rw [List.length_reverse]; exact hz,acc.toList,c,hv,by rw [Array.toArray_toList]; exact hD⟩
end
end L2
set_option Elab.async false
set_option linter.all false
set_option maxRecDepth 100000
namespace L2
open PySem PySem.Spec PyProof.Rows
def Itv (K:PySem.W.Frag) (a:Addr) (n:Nat):It :=
 ⟨fun i H=>i<n∧∃ xs x,SqL K H a xs∧xs[n - 1 - i]?=some x,fun i H x H'=>H'=H∧∀ xs,SqL K H a xs→xs[n - 1 - i]?=some x,fun i _=>i=n⟩
theorem turn_rev {P:Program} {w:World} {K:PySem.W.Frag} {tg:Expr} (a it:Addr) (n:Nat):Turn P w K tg (Itv K a n) [it] it (fun i h=>h.IsRevIter it a ((n:Int) - 1 - (i:Int))) where
 mem:=by simp
 obj:=fun i h st b hb=>by
  have e:b=it:=by simpa using hb
  subst e
  obtain ⟨o,e,c,d⟩:=st
  exact ⟨o,e,fun v z=>by rw [d] at z; cases z⟩
 keep:=fun i h h' st k=>st.at fun o e=>k it (by simp) o e
 item:=by
  intro X hP hw hK hc i pins s σ H E I hf st hg
  subst hP hw hK
  obtain ⟨hn,xs,x,hq,hx⟩:=hg
  obtain ⟨its,rv,p,hz⟩:=I.list hq
  obtain ⟨u,hu,ru⟩:=rv.get hx
  obtain ⟨f0,f1,f2,f3,f4,f5⟩:=hf it (by simp)
  have ei:(n:Int) - 1 - (i:Int)=((n - 1 - i:Nat):Int):=by omega
  have st1:s.heap.IsRevIter it a ((n - 1 - i:Nat):Int):=by rw [← ei]; exact st
  refine wpAny_pyNext_rev_item st1 p.isList (x:=u) (by simpa using hu) fun h' st' sb=>?_
  have I1:Inv X pins σ H { s with heap:=h' }:=I.turned (t':=s.toks) (fun b o hb e=>(sb.2 b hb).trans e) f0 f1 f3 f4 f5
  have ej:((n - 1 - i:Nat):Int) - 1=(n:Int) - 1 - ((i+1:Nat):Int):=by omega
  rw [ej] at st'
  obtain ⟨o,e,c,d⟩:=id st'
  exact ⟨u,rfl,go_of (s:={ s with heap:=h' }) e c d (by decide) ⟨x,H,I1,ru,⟨rfl,fun ys hy=>by rw [I.list_inj hy hq]; exact hx⟩,st',fun b hb=>(hf b hb).1⟩⟩
 done:=by
  intro X hP hw hK hc i pins s σ H E I hf st hg
  subst hP hw hK
  have hg:i=n:=hg
  subst hg
  obtain ⟨f0,f1,f2,f3,f4,f5⟩:=hf it (by simp)
  have ei:(i:Int) - 1 - (i:Int) = -1:=by omega
  rw [ei] at st
  exact wpAny_pyNext_rev_end (I.ok.hd hc) st fun h' eb=>⟨rfl,I.turned (t':=s.toks) (fun b o hb e=>eb b o hb e) f0 f1 f3 f4 f5⟩
 self:=fun _ _ _ _ _ st h=>wpAny_pyIter_revIter st h
section
variable {X:Cx} {tg:Expr}
def iRev (K:PySem.W.Frag) (te:TE):TI:=fun σ H R=>te σ H fun x H1=>∃ a xs,x=.ref a∧SqL K H1 a xs∧R (Itv K a xs.length) H1
theorem pi_rev {l:Expr} {tl:TE} {p pos:Pos} (hg:Gl X "reversed") (hm:X.mg "reversed"=none) (hl:PE X l tl) (hs:starEach [l] X.env=[(false,eval l X.env)]:=by rfl):PI X tg (.Call (.Name "reversed" p) [l] [] pos) (iRev X.K tl):=by
 intro pins s σ H R I h
 refine Call_ (ld_blt I hg hm boot_reversed (PyProof.Rows.callWith_type1 ?_ hs rfl))
 rw [hs]
 show wpAny _ _ (spliced [(false,eval l X.env)]) _ _ s
 refine Calls.spliced_cons (thn (hl pins s σ H _ I h) fun u s1 ⟨x,H1,I1,r1,a,xs,ex,hx,q⟩=>?_)
 subst ex
 cases r1
 obtain ⟨its,rv,pl,hz⟩:=I1.list hx
 have lz:=rv.length
 refine Calls.spliced_nil (call_reversed_list pl.isList ?_)
 have st:(s1.heap.push (revObj a ((its.toArray.size:Int) - 1))).IsRevIter s1.heap.objs.size a ((xs.length:Int) - 1 - ((0:Nat):Int)):=by
  have e:((its.toArray.size:Nat):Int) - 1=(xs.length:Int) - 1 - ((0:Nat):Int):=by rw [List.size_toArray]; omega
  rw [← e]
  exact ⟨_,Heap.get?_push_size _ rfl,rfl,rfl⟩
 refine wpAny_pyIter_revIter (s:={ s1 with heap:=s1.heap.push (revObj a ((its.toArray.size:Int) - 1)) }) st ?_
 refine ⟨s1.heap.objs.size,[s1.heap.objs.size],_,_,H1,rfl,I1.kept (t':=s1.toks) fun b o e=>Heap.get?_push_of_some _ e,turn_rev a _ xs.length,st,fun b hb=>?_,q⟩
 have e:b=s1.heap.objs.size:=by simpa using hb
 subst e
 exact I1.fpOk (Nat.le_refl _) (I1.hok.fresh (Nat.le_refl _))
end
end L2
set_option Elab.async false
set_option linter.all false
set_option maxRecDepth 100000
namespace L2
open PySem PySem.Spec PyProof.Rows
structure BlkG (X:Cx) (m:Nat) (fr:List Nat) (N':List Str) (scope:Scope) (cl:List (Str × Addr)):Prop where
 clos:closureFor scope X.env=pure cl
 cell:∀ y∈scope.names,y.2≠.cell
 kind:scope.kind=.function
 names:∀ y∈scope.names,y.2=.local→scope.names.lookup y.1=some .local
 sub:∀ y c,cl.lookup y=some c→X.env.cells.lookup y=some c
 has:∀ y,((relabel scope X.env).names.lookup y=some .cell∨(relabel scope X.env).names.lookup y=some .free)→∃ c,cl.lookup y=some c
 len:N'.length=m+fr.length
 nd:N'.Nodup
 see:∀ (i j:Nat) (y:Str),N'[i+m]?=some y→fr[i]?=some j→X.N[j]?=some y∧X.env.scope.names.lookup y=some .cell∧(relabel scope X.env).names.lookup y=some .cell
section
variable {X:Cx} {y:Str} {py pos spos:Pos} {tg:Expr} {g:TG} {m:Nat} {elt iter c:Expr} {scope:Scope} {cl:List (Str × Addr)} {N':List Str} {fr:List Nat} {wi:TI} {te:TE} {tt:TT}
end
end L2
set_option Elab.async false
set_option linter.all false
set_option maxRecDepth 100000
namespace L2
open PySem
def LN.D:LN→D
 | .put d p o n=>.tup [.str "put",.int d,.int (p:Nat),.int o,.int n]
 | .fin d=>.tup [.str "end",.int d]
inductive SM where
 | line (ln:LN)
 | page (p:Nat) (n:Int)
 | cut (k:Nat)
def SM.D:SM→D
 | .line ln=>.tup [.str "line",ln.D]
 | .page p n=>.tup [.str "page",.int (p:Nat),.int n]
 | .cut k=>.tup [.str "cut",.int (k:Nat)]
inductive Deed where
 | begin
 | put (d p n:Int)
 | fin (d:Int)
 | drop (d:Int)
 | look (p:Int)
 | carry (p:Int)
 | cut
def Deed.D:Deed→D
 | .begin=>.tup [.str "begin"]
 | .put d p n=>.tup [.str "put",.int d,.int p,.int n]
 | .fin d=>.tup [.str "end",.int d]
 | .drop d=>.tup [.str "drop",.int d]
 | .look p=>.tup [.str "look",.int p]
 | .carry p=>.tup [.str "carry",.int p]
 | .cut=>.tup [.str "cut"]
inductive Ans where
 | num (i:Int)
 | word (x:Str)
def Ans.D:Ans→D
 | .num i=>.int i
 | .word x=>.str x
def Ans.v:Ans→V
 | .num i=>.int i
 | .word x=>.str x
mutual
def D.flat:D→Bool
 | .int _=>true
 | .str _=>true
 | .tup l=>flats l
 | .lst _=>false
def flats:List D→Bool
 | []=>true
 | d::r=>d.flat && flats r
end
mutual
theorem Rep.keep {H H':Hp} (k:z1i H H'):∀ (d:D) (v:V),d.flat=true→Rep H d v→Rep H' d v
 | .int _,_,_,h=>h
 | .str _,_,_,h=>h
 | .tup l,_,f,h=>by
  unfold Rep at h ⊢
  obtain ⟨a,xs,e,q,r⟩:=h
  unfold D.flat at f
  exact ⟨a,xs,e,k _ _ q,Reps.keep k l xs f r⟩
 | .lst l,_,f,_=>by unfold D.flat at f; cases f
theorem Reps.keep {H H':Hp} (k:z1i H H'):∀ (l:List D) (xs:List V),flats l=true→Reps H l xs→Reps H' l xs
 | [],_,_,h=>h
 | d::r,_,f,h=>by
  unfold Reps at h ⊢
  unfold flats at f
  rw [Bool.and_eq_true] at f
  obtain ⟨x,t,e,q,z⟩:=h
  exact ⟨x,t,e,Rep.keep k d x f.1 q,Reps.keep k r t f.2 z⟩
end
theorem z0e {α:Type} {f:α→D} (h:∀ a,(f a).flat=true):∀ l:List α,flats (l.map f)=true
 | []=>by unfold flats; rfl
 | a::r=>by
  rw [List.map_cons]
  unfold flats
  rw [h a,z0e h r]
  rfl
theorem SM.D_flat (s:SM):s.D.flat=true:=by
 cases s with
 | line ln=>cases ln <;> rfl
 | page p n=>rfl
 | cut k=>rfl
theorem Deed.D_flat (d:Deed):d.D.flat=true:=by cases d <;> rfl
theorem rep_tup1 {H:Hp} {a:D} {v:V} (h:Rep H (.tup [a]) v):∃ c x,v=.ref c∧H c=some (.tup [x])∧Rep H a x:=by
 obtain ⟨c,xs,rfl,hc,r⟩:=h.tup_inv
 obtain ⟨x,t,rfl,h1,r⟩:=r.inv
 cases r.inv0
 exact ⟨c,x,rfl,hc,h1⟩
theorem z0y {H:Hp} {a b:D} {v:V} (h:Rep H (.tup [a,b]) v):∃ c x y,v=.ref c∧H c=some (.tup [x,y])∧Rep H a x∧Rep H b y:=by
 obtain ⟨c,xs,rfl,hc,r⟩:=h.tup_inv
 obtain ⟨x,t,rfl,h1,r⟩:=r.inv
 obtain ⟨y,t,rfl,h2,r⟩:=r.inv
 cases r.inv0
 exact ⟨c,x,y,rfl,hc,h1,h2⟩
theorem rep_tup3 {H:Hp} {a b d:D} {v:V} (h:Rep H (.tup [a,b,d]) v):∃ c x y z,v=.ref c∧H c=some (.tup [x,y,z])∧Rep H a x∧Rep H b y∧Rep H d z:=by
 obtain ⟨c,xs,rfl,hc,r⟩:=h.tup_inv
 obtain ⟨x,t,rfl,h1,r⟩:=r.inv
 obtain ⟨y,t,rfl,h2,r⟩:=r.inv
 obtain ⟨z,t,rfl,h3,r⟩:=r.inv
 cases r.inv0
 exact ⟨c,x,y,z,rfl,hc,h1,h2,h3⟩
theorem rep_tup4 {H:Hp} {a b d e:D} {v:V} (h:Rep H (.tup [a,b,d,e]) v):∃ c x y z u,v=.ref c∧H c=some (.tup [x,y,z,u])∧Rep H a x∧Rep H b y∧Rep H d z∧Rep H e u:=by
 obtain ⟨c,xs,rfl,hc,r⟩:=h.tup_inv
 obtain ⟨x,t,rfl,h1,r⟩:=r.inv
 obtain ⟨y,t,rfl,h2,r⟩:=r.inv
 obtain ⟨z,t,rfl,h3,r⟩:=r.inv
 obtain ⟨u,t,rfl,h4,r⟩:=r.inv
 cases r.inv0
 exact ⟨c,x,y,z,u,rfl,hc,h1,h2,h3,h4⟩
theorem rep_tup5 {H:Hp} {a b d e f:D} {v:V} (h:Rep H (.tup [a,b,d,e,f]) v):∃ c x y z u w,v=.ref c∧H c=some (.tup [x,y,z,u,w])∧Rep H a x∧Rep H b y∧Rep H d z∧Rep H e u∧Rep H f w:=by
 obtain ⟨c,xs,rfl,hc,r⟩:=h.tup_inv
 obtain ⟨x,t,rfl,h1,r⟩:=r.inv
 obtain ⟨y,t,rfl,h2,r⟩:=r.inv
 obtain ⟨z,t,rfl,h3,r⟩:=r.inv
 obtain ⟨u,t,rfl,h4,r⟩:=r.inv
 obtain ⟨w,t,rfl,h5,r⟩:=r.inv
 cases r.inv0
 exact ⟨c,x,y,z,u,w,rfl,hc,h1,h2,h3,h4,h5⟩
theorem LNat.ofRep {H:Hp} {ln:LN} {x:V} (h:Rep H ln.D x):LNat H ln x:=by
 cases ln with
 | put d p o n =>
  obtain ⟨c,x1,x2,x3,x4,x5,rfl,hc,h1,h2,h3,h4,h5⟩:=rep_tup5 h
  cases h1.str_inv
  cases h2.int_inv
  cases h3.int_inv
  cases h4.int_inv
  cases h5.int_inv
  exact ⟨c,rfl,hc⟩
 | fin d =>
  obtain ⟨c,x1,x2,rfl,hc,h1,h2⟩:=z0y h
  cases h1.str_inv
  cases h2.int_inv
  exact ⟨c,rfl,hc⟩
structure Hs where
 cellar:List Int
 desk:List Int
 log:List LN
 puts:List (Int × List (Nat × Int))
 room:Int
 begun:Nat
 strokes:List SM
namespace Hs
def isOpen (h:Hs) (d:Int):Bool:=h.puts.any fun z=>z.1 == d
def bound (h:Hs):Int:=(h.puts.map fun z=>(z.2.length:Int)+1).sum
def putsOf (h:Hs) (d:Int):List (Nat × Int):=((h.puts.find? fun z=>z.1 == d).map (·.2)).getD []
def taker (h:Hs) (p:Nat):Option Int:=(h.puts.find? fun z=>z.2.any fun y=>y.1 == p).map (·.1)
def stroke (h:Hs) (s:SM):Hs:=match s with
 | .line ln=>{ h with strokes:=h.strokes++[s],log:=h.log++[ln] }
 | .page p n=>{ h with strokes:=h.strokes++[s],cellar:=h.cellar.set p n }
 | .cut k=>{ h with strokes:=h.strokes++[s],log:=h.log.drop k }
end Hs
def z1h (ce de:List Int) (op:Int→Bool):List LN→Nat
 | []=>0
 | .fin _::r=>z1h ce de op r+1
 | .put d p _ _::r=>if op d=true∨(r.any (z2r p)=false∧ce[p]?≠de[p]?) then 0 else z1h ce de op r+1
namespace Hs
def cutIn (h:Hs):Hs:=if 0<z1h h.cellar h.desk h.isOpen h.log then h.stroke (.cut (z1h h.cellar h.desk h.isOpen h.log)) else h
def carryIn (h:Hs) (p:Nat):Hs:=if h.cellar[p]?=h.desk[p]? then h else h.stroke (.page p (h.desk.getD p 0))
def roomy (h:Hs) (more:Int):Bool:=decide ((h.log.length:Int)+h.bound+more≤h.room)
def madeRoom (h:Hs):Hs:=((List.range h.desk.length).foldl carryIn h).cutIn
def full (h:Hs) (more:Int):Hs × Bool:=if h.roomy more=true then (h,false) else (h.madeRoom, !h.madeRoom.roomy more)
def putIn (h:Hs) (d:Int) (p:Nat) (n:Int):Hs:={ h.stroke (.line (.put d p (h.desk.getD p 0) n)) with desk:=h.desk.set p n }
def undo (h:Hs) (d:Int):Hs:=(h.putsOf d).reverse.foldl (fun h z=>h.putIn d z.1 z.2) h
def endIn (h:Hs) (d:Int):Hs:={ h.stroke (.line (.fin d)) with puts:=h.puts.filter fun z=>z.1 != d }
def took (h:Hs) (d:Int) (p:Nat):Hs:={ h with puts:=h.puts.map fun z=>if z.1=d then (z.1,z.2++[(p,h.desk.getD p 0)]) else z }
def began (h:Hs):Hs:={ h with begun:=h.begun+1 }
def opened (h:Hs):Hs:={ h with puts:=h.puts++[(((h.begun:Int) - 1),[])] }
def refusal (h:Hs):Deed→Option Str
 | .begin=>none
 | .put d p _=>if h.isOpen d=false then some "no dealing" else if p<0∨(h.desk.length:Int)≤p then some "no page" else if h.taker p.toNat=none∨h.taker p.toNat=some d then none else some "taken"
 | .fin d=>if h.isOpen d=false then some "no dealing" else none
 | .drop d=>if h.isOpen d=false then some "no dealing" else none
 | .look p=>if p<0∨(h.desk.length:Int)≤p then some "no page" else none
 | .carry p=>if p<0∨(h.desk.length:Int)≤p then some "no page" else none
 | .cut=>none
def deed (h:Hs):Deed→Hs × Ans
 | .begin=>if (h.began.full 1).2=true then ((h.began.full 1).1,.word "no room") else ((h.began.full 1).1.opened,.num h.begun)
 | .put d p n=>if (h.full 2).2=true then ((h.full 2).1,.word "no room") else ((((h.full 2).1.took d p.toNat).putIn d p.toNat n),.word "done")
 | .fin d=>(h.endIn d,.word "done")
 | .drop d=>((h.undo d).endIn d,.word "done")
 | .look p=>(h,.num (h.desk.getD p.toNat 0))
 | .carry p=>(h.carryIn p.toNat,.word "done")
 | .cut=>(h.cutIn,.word "done")
def answered (h:Hs) (x:Deed):Hs × Ans:=match h.refusal x with
 | some w=>(h,.word w)
 | none=>h.deed x
end Hs
end L2
set_option Elab.async false
set_option linter.all false
set_option maxRecDepth 100000
namespace L2
open PySem
theorem rep_page {H:Hp} {a:Addr} {p:Nat} {n:Int} (h:H a=some (.tup [.str "page",.int (p:Nat),.int n])):Rep H (SM.page p n).D (.ref a) :=
 Rep.ofTup h (.cons .ofStr (.cons .ofInt (.cons .ofInt .nil)))
theorem rep_cut {H:Hp} {a:Addr} {k:Nat} (h:H a=some (.tup [.str "cut",.int (k:Nat)])):Rep H (SM.cut k).D (.ref a) :=
 Rep.ofTup h (.cons .ofStr (.cons .ofInt .nil))
theorem szs_strokes:∀ l:List SM,szs (l.map SM.D)≤l.length * 8
 | []=>by rw [List.map_nil,z26]; exact Nat.zero_le _
 | s::r=>by
  have:=szs_strokes r
  rw [List.map_cons,z1q,List.length_cons]
  have h:s.D.sz≤8:=by
   cases s with
   | line ln=>cases ln <;> exact Nat.le_of_ble_eq_true rfl
   | page p n=>exact Nat.le_of_ble_eq_true rfl
   | cut k=>exact Nat.le_of_ble_eq_true rfl
  omega
end L2
set_option Elab.async false
set_option linter.all false
set_option maxRecDepth 100000
namespace L2
open PySem
inductive SK where
 | line (v:V)
 | page (p:Nat) (n:Int)
 | cut (k:Int)
def SKat (H:Hp):SK→V→Prop
 | .line v,x=>∃ a,x=.ref a∧H a=some (.tup [.str "line",v])
 | .page p n,x=>∃ a,x=.ref a∧H a=some (.tup [.str "page",.int (p:Nat),.int n])
 | .cut k,x=>∃ a,x=.ref a∧H a=some (.tup [.str "cut",.int k])
def SK.ok (c:Nat):SK→Prop
 | .page p _=>p<c
 | _=>True
def SK.pg (ps:List V):SK→List V
 | .page p n=>ps.set p (.int n)
 | _=>ps
def SK.lg (ls:List V):SK→List V
 | .line v=>ls++[v]
 | .cut k=>cutV ls (some k) none
 | _=>ls
inductive SKs (H:Hp):List SK→List V→Prop where
 | nil:SKs H [] []
 | snoc {sks:List SK} {xs:List V} {sk:SK} {x:V} (h:SKs H sks xs) (q:SKat H sk x):SKs H (sks++[sk]) (xs++[x])
theorem cp_ne:¬(V.str "cut"=V.str "page"):=by decide +kernel
theorem pl2_ne:¬(("pages":Str)="log"):=by decide +kernel
def cflds (pg lg:Addr):List (Str × V):=putF "log" (.ref lg) (putF "pages" (.ref pg) [])
theorem cflds_eq (pg lg:Addr):cflds pg lg=([("pages",V.ref pg),("log",V.ref lg)]:List (Str × V)):=by
 show (if ("pages":Str)="log" then [(("pages":Str),V.ref lg)] else (("pages":Str),V.ref pg)::putF "log" (V.ref lg) [])=_
 rw [if_neg pl2_ne]
 rfl
theorem cflds_pages (pg lg:Addr):(cflds pg lg).lookup ("pages":Str)=some (.ref pg):=by
 unfold cflds
 rw [z1t,if_neg pl2_ne,z1t,if_pos rfl]
theorem cflds_log (pg lg:Addr):(cflds pg lg).lookup ("log":Str)=some (.ref lg):=by
 unfold cflds
 rw [z1t,if_pos rfl]
theorem cflds_no (pg lg:Addr) {m:Str} (h1:¬m="log") (h2:¬m="pages"):(cflds pg lg).lookup m=none:=by
 unfold cflds
 rw [z1t,if_neg h1,z1t,if_neg h2]
 rfl
theorem cflds_put (pg lg lg':Addr):putF "log" (.ref lg') (cflds pg lg)=cflds pg lg':=by
 rw [cflds_eq,cflds_eq]
 show (if ("pages":Str)="log" then _ else (("pages":Str),V.ref pg)::(if ("log":Str)="log" then [(("log":Str),V.ref lg')] else _))=_
 rw [if_neg pl2_ne,if_pos rfl]
structure CellAt (C:Addr) (H:Hp) (c pg lg:Addr) (ps ls:List V):Prop where
 ob:∃ dx,H c=some (.ins C dx (cflds pg lg))
 hp:H pg=some (.lst ps)
 hl:H lg=some (.lst ls)
 ne:pg≠lg
structure z2a (K:PySem.W.Frag) (mg:Str→Option Value) (C:Addr):Prop where
 cl:Cls K C
 nP:z2b K C "pages"
 nL:z2b K C "log"
 mgC:mg "Cellar"=some (.ref C)
def spCInit (C:Addr):Sp:=fun vs H Q _=>∃ (c dx a b:Addr) (ps ls:List V),vs=[.ref c,.ref a,.ref b]∧H c=some (.ins C dx [])∧H a=some (.lst ps)∧H b=some (.lst ls) ∧
 ∀ (pg lg:Addr) (H':Hp),H pg=none→H lg=none→CellAt C H' c pg lg ps ls→(∀ b o,H b=some o→b≠c→H' b=some o)→Q .non H'
end L2
set_option Elab.async false
set_option linter.all false
set_option maxRecDepth 100000
namespace L2
open PySem
end L2
set_option Elab.async false
set_option linter.all false
set_option maxRecDepth 100000
namespace L2
open PySem
def hk (ce de lo pu st:Addr) (room begun:Int):List (Key × V):=[(Sum.inr "cellar",.ref ce),(Sum.inr "desk",.ref de),(Sum.inr "log",.ref lo),(Sum.inr "puts",.ref pu),(Sum.inr "room",.int room),(Sum.inr "begun",.int begun),(Sum.inr "strokes",.ref st)]
section
variable (ce de lo pu st lo' st':Addr) (room begun begun':Int)
theorem hk_cellar:valV (hk ce de lo pu st room begun) (Sum.inr "cellar")=some (.ref ce):=by kernel_rfl
theorem hk_desk:valV (hk ce de lo pu st room begun) (Sum.inr "desk")=some (.ref de):=by kernel_rfl
theorem hk_log:valV (hk ce de lo pu st room begun) (Sum.inr "log")=some (.ref lo):=by kernel_rfl
theorem hk_puts:valV (hk ce de lo pu st room begun) (Sum.inr "puts")=some (.ref pu):=by kernel_rfl
theorem hk_room:valV (hk ce de lo pu st room begun) (Sum.inr "room")=some (.int room):=by kernel_rfl
theorem hk_begun:valV (hk ce de lo pu st room begun) (Sum.inr "begun")=some (.int begun):=by kernel_rfl
theorem hk_strokes:valV (hk ce de lo pu st room begun) (Sum.inr "strokes")=some (.ref st):=by kernel_rfl
theorem hk_setLog:putK (hk ce de lo pu st room begun) (Sum.inr "log") (.ref lo')=hk ce de lo' pu st room begun:=by kernel_rfl
theorem hk_setBegun:putK (hk ce de lo pu st room begun) (Sum.inr "begun") (.int begun')=hk ce de lo pu st room begun':=by kernel_rfl
theorem hk_setStrokes:putK (hk ce de lo pu st room begun) (Sum.inr "strokes") (.ref st')=hk ce de lo pu st' room begun:=by kernel_rfl
end
def pairD (z:Nat × Int):D:=.tup [.int (z.1:Nat),.int z.2]
theorem z0t (z:Nat × Int):(pairD z).flat=true:=rfl
def pk (pl:List (Int × Addr)):List (Key × V):=pl.map fun z=>(Sum.inl z.1,V.ref z.2)
def own (h ce de pu st:Addr) (pl:List (Int × Addr)):List Addr:=h::ce::de::pu::st::pl.map (·.2)
structure HA (H:Hp) (h ce de lo pu st:Addr) (pl:List (Int × Addr)) (x:Hs):Prop where
 hh:H h=some (.dK (hk ce de lo pu st x.room x.begun))
 hc:H ce=some (.lst (x.cellar.map V.int))
 hd:H de=some (.lst (x.desk.map V.int))
 hl:∃ xs,H lo=some (.lst xs)∧LogAt H x.log xs
 hp:H pu=some (.dK (pk pl))
 pe:pl.map (·.1)=x.puts.map (·.1)
 pv:∀ (i:Nat) z w,pl[i]?=some z→x.puts[i]?=some w→∃ ys,H z.2=some (.lst ys)∧Reps H (w.2.map pairD) ys
 pn:(x.puts.map (·.1)).Nodup
 sk:∃ zs,H st=some (.lst zs)∧Reps H (x.strokes.map SM.D) zs
 ap:(own h ce de pu st pl).Nodup
 nl:lo∉own h ce de pu st pl
 cd:x.cellar.length=x.desk.length
def Oth (ow:List Addr) (H H':Hp):Prop:=∀ b o,b∉ow→H b=some o→H' b=some o
theorem Oth.refl (ow:List Addr) (H:Hp):Oth ow H H:=fun _ _ _ h=>h
theorem Oth.trans {ow:List Addr} {H H1 H2:Hp} (a:Oth ow H H1) (b:Oth ow H1 H2):Oth ow H H2:=fun c o hc h=>b c o hc (a c o hc h)
theorem Same.oth {ow:List Addr} {H H':Hp} (s:Same H H'):Oth ow H H':=fun b o _ h=>s b o h
theorem z2s {ow:List Addr} {H:Hp} {a:Addr} {o:HO} (h:a∈ow):Oth ow H (upd H a o):=fun b u hb q=>by
 rw [z01 (fun e=>hb (by rw [e]; exact h))]
 exact q
section
variable {H H':Hp} {h ce de lo pu st:Addr} {pl:List (Int × Addr)} {x:Hs}
theorem HA.same (A:HA H h ce de lo pu st pl x) (s:Same H H'):HA H' h ce de lo pu st pl x:=by
 obtain ⟨xs,e1,e2⟩:=A.hl
 obtain ⟨zs,e3,e4⟩:=A.sk
 refine ⟨s _ _ A.hh,s _ _ A.hc,s _ _ A.hd,⟨xs,s _ _ e1,e2.mono fun a y q=>q.mono s.keepT⟩,s _ _ A.hp,A.pe,fun i z w a b=>?_,A.pn,⟨zs,s _ _ e3,Reps.mono s _ _ e4⟩,A.ap,A.nl,A.cd⟩
 obtain ⟨ys,q1,q2⟩:=A.pv i z w a b
 exact ⟨ys,s _ _ q1,Reps.mono s _ _ q2⟩
theorem HA.ne (A:HA H h ce de lo pu st pl x):h≠ce∧h≠de∧h≠pu∧h≠st∧ce≠de∧ce≠pu∧ce≠st∧de≠pu∧de≠st∧pu≠st∧lo≠h∧lo≠ce∧lo≠de∧lo≠pu∧lo≠st∧(∀ z∈pl,z.2≠h∧z.2≠ce∧z.2≠de∧z.2≠pu∧z.2≠st∧z.2≠lo):=by
 have ap:=A.ap
 have nl:=A.nl
 unfold own at ap nl
 simp only [List.nodup_cons,List.mem_cons,not_or] at ap nl
 obtain ⟨⟨a1,a2,a3,a4,a5⟩,⟨b2,b3,b4,b5⟩,⟨c3,c4,c5⟩,⟨d4,d5⟩,e5,_⟩:=ap
 obtain ⟨l1,l2,l3,l4,l5,l6⟩:=nl
 refine ⟨a1,a2,a3,a4,b2,b3,b4,c3,c4,d4,l1,l2,l3,l4,l5,fun z hz=>?_⟩
 have hm:z.2∈pl.map (·.2):=List.mem_map.mpr ⟨z,hz,rfl⟩
 exact ⟨fun e=>a5 (e ▸ hm),fun e=>b5 (e ▸ hm),fun e=>c5 (e ▸ hm),fun e=>d5 (e ▸ hm),fun e=>e5 (e ▸ hm),fun e=>l6 (e ▸ hm)⟩
theorem HA.setC (A:HA H h ce de lo pu st pl x) {c:List Int} (hc:c.length=x.desk.length):HA (upd H ce (.lst (c.map V.int))) h ce de lo pu st pl { x with cellar:=c }:=by
 obtain ⟨n1,n2,n3,n4,n5,n6,n7,n8,n9,n10,m1,m2,m3,m4,m5,np⟩:=A.ne
 have kt:z1i H (upd H ce (.lst (c.map V.int))):=keepT_upd A.hc
 obtain ⟨xs,e1,e2⟩:=A.hl
 obtain ⟨zs,e3,e4⟩:=A.sk
 refine ⟨by rw [z01 n1]; exact A.hh,z02,by rw [z01 n5.symm]; exact A.hd,⟨xs,by rw [z01 m2]; exact e1,e2.mono fun a y q=>q.mono kt⟩,by rw [z01 n6.symm]; exact A.hp,A.pe,fun i z w a b=>?_,A.pn,⟨zs,by rw [z01 n7.symm]; exact e3,Reps.keep kt _ _ (z0e SM.D_flat _) e4⟩,A.ap,A.nl,hc⟩
 obtain ⟨ys,q1,q2⟩:=A.pv i z w a b
 exact ⟨ys,by rw [z01 (np z (List.mem_of_getElem? a)).2.1]; exact q1,Reps.keep kt _ _ (z0e z0t _) q2⟩
theorem HA.setD (A:HA H h ce de lo pu st pl x) {c:List Int} (hc:c.length=x.desk.length):HA (upd H de (.lst (c.map V.int))) h ce de lo pu st pl { x with desk:=c }:=by
 obtain ⟨n1,n2,n3,n4,n5,n6,n7,n8,n9,n10,m1,m2,m3,m4,m5,np⟩:=A.ne
 have kt:z1i H (upd H de (.lst (c.map V.int))):=keepT_upd A.hd
 obtain ⟨xs,e1,e2⟩:=A.hl
 obtain ⟨zs,e3,e4⟩:=A.sk
 refine ⟨by rw [z01 n2]; exact A.hh,by rw [z01 n5]; exact A.hc,z02,⟨xs,by rw [z01 m3]; exact e1,e2.mono fun a y q=>q.mono kt⟩,by rw [z01 n8.symm]; exact A.hp,A.pe,fun i z w a b=>?_,A.pn,⟨zs,by rw [z01 n9.symm]; exact e3,Reps.keep kt _ _ (z0e SM.D_flat _) e4⟩,A.ap,A.nl,by rw [A.cd,hc]⟩
 obtain ⟨ys,q1,q2⟩:=A.pv i z w a b
 exact ⟨ys,by rw [z01 (np z (List.mem_of_getElem? a)).2.2.1]; exact q1,Reps.keep kt _ _ (z0e z0t _) q2⟩
theorem HA.setS (A:HA H h ce de lo pu st pl x) {s:SM} {v:V} {zs:List V} (e3:H st=some (.lst zs)) (e4:Reps H (x.strokes.map SM.D) zs) (hv:Rep H s.D v):HA (upd H st (.lst (zs++[v]))) h ce de lo pu st pl { x with strokes:=x.strokes++[s] }:=by
 obtain ⟨n1,n2,n3,n4,n5,n6,n7,n8,n9,n10,m1,m2,m3,m4,m5,np⟩:=A.ne
 have kt:z1i H (upd H st (.lst (zs++[v]))):=keepT_upd e3
 obtain ⟨xs,e1,e2⟩:=A.hl
 refine ⟨by rw [z01 n4]; exact A.hh,by rw [z01 n7]; exact A.hc,by rw [z01 n9]; exact A.hd,⟨xs,by rw [z01 m5]; exact e1,e2.mono fun a y q=>q.mono kt⟩,by rw [z01 n10]; exact A.hp,A.pe,fun i z w a b=>?_,A.pn,⟨zs++[v],z02,?_⟩,A.ap,A.nl,A.cd⟩
 ·obtain ⟨ys,q1,q2⟩:=A.pv i z w a b
  exact ⟨ys,by rw [z01 (np z (List.mem_of_getElem? a)).2.2.2.2.1]; exact q1,Reps.keep kt _ _ (z0e z0t _) q2⟩
 ·show Reps _ ((x.strokes++[s]).map SM.D) _
  rw [List.map_append]
  exact (Reps.keep kt _ _ (z0e SM.D_flat _) e4).append (.cons (Rep.keep kt _ _ (SM.D_flat s) hv) .nil)
theorem HA.setL (A:HA H h ce de lo pu st pl x) {lo':Addr} {log:List LN} {xs:List V} (e1:H lo'=some (.lst xs)) (e2:LogAt H log xs) (hn:lo'∉own h ce de pu st pl):HA (upd H h (.dK (putK (hk ce de lo pu st x.room x.begun) (Sum.inr "log") (.ref lo')))) h ce de lo' pu st pl { x with log:=log }:=by
 obtain ⟨n1,n2,n3,n4,n5,n6,n7,n8,n9,n10,m1,m2,m3,m4,m5,np⟩:=A.ne
 rw [hk_setLog]
 have kt:z1i H (upd H h (.dK (hk ce de lo' pu st x.room x.begun))):=fun b ys q=>by
  rw [z01 (z0x q A.hh (fun z=>nomatch z))]
  exact q
 obtain ⟨zs,e3,e4⟩:=A.sk
 have nlh:lo'≠h:=fun e=>hn (by rw [e]; exact List.mem_cons_self)
 refine ⟨z02,by rw [z01 n1.symm]; exact A.hc,by rw [z01 n2.symm]; exact A.hd,⟨xs,by rw [z01 nlh]; exact e1,e2.mono fun a y q=>q.mono kt⟩,by rw [z01 n3.symm]; exact A.hp,A.pe,fun i z w a b=>?_,A.pn,⟨zs,by rw [z01 n4.symm]; exact e3,Reps.keep kt _ _ (z0e SM.D_flat _) e4⟩,A.ap,hn,A.cd⟩
 obtain ⟨ys,q1,q2⟩:=A.pv i z w a b
 exact ⟨ys,by rw [z01 (np z (List.mem_of_getElem? a)).1]; exact q1,Reps.keep kt _ _ (z0e z0t _) q2⟩
theorem HA.setB (A:HA H h ce de lo pu st pl x) {n:Nat} {b:Int} (hb:b=(n:Int)):HA (upd H h (.dK (putK (hk ce de lo pu st x.room x.begun) (Sum.inr "begun") (.int b)))) h ce de lo pu st pl { x with begun:=n }:=by
 subst hb
 obtain ⟨n1,n2,n3,n4,n5,n6,n7,n8,n9,n10,m1,m2,m3,m4,m5,np⟩:=A.ne
 rw [hk_setBegun]
 have kt:z1i H (upd H h (.dK (hk ce de lo pu st x.room (n:Int)))):=fun b ys q=>by
  rw [z01 (z0x q A.hh (fun z=>nomatch z))]
  exact q
 obtain ⟨xs,e1,e2⟩:=A.hl
 obtain ⟨zs,e3,e4⟩:=A.sk
 refine ⟨z02,by rw [z01 n1.symm]; exact A.hc,by rw [z01 n2.symm]; exact A.hd,⟨xs,by rw [z01 m1]; exact e1,e2.mono fun a y q=>q.mono kt⟩,by rw [z01 n3.symm]; exact A.hp,A.pe,fun i z w a b=>?_,A.pn,⟨zs,by rw [z01 n4.symm]; exact e3,Reps.keep kt _ _ (z0e SM.D_flat _) e4⟩,A.ap,A.nl,A.cd⟩
 obtain ⟨ys,q1,q2⟩:=A.pv i z w a b
 exact ⟨ys,by rw [z01 (np z (List.mem_of_getElem? a)).1]; exact q1,Reps.keep kt _ _ (z0e z0t _) q2⟩
end
end L2
set_option Elab.async false
set_option linter.all false
set_option maxRecDepth 100000
namespace L2
open PySem
def SM.okIn (x:Hs):SM→Prop
 | .line ln=>ln.ok x.desk.length
 | .page p _=>p<x.desk.length
 | .cut _=>True
def Hs.fits (x:Hs) (k:Nat):Prop:=x.strokes.length+k≤100000∧x.log.length+k≤100000∧∀ ln∈x.log,ln.ok x.desk.length
theorem z2p {n:Nat} (h:n≤200000):n<sizeLine:=by
 rw [sizeLine_eq]
 omega
theorem z1i.of_lst {H:Hp} {a:Addr} {o:HO} {kvs:List (Key × V)} (h:H a=some (.dK kvs)):z1i H (upd H a o):=fun b ys q=>by
 rw [z01 (z0x q h (fun z=>nomatch z))]
 exact q
section
variable {H H':Hp} {h ce de lo pu st:Addr} {pl:List (Int × Addr)} {x:Hs}
theorem HA.gCellar (A:HA H h ce de lo pu st pl x):DGet H h (.str "cellar") (some (.ref ce)):=.inl ⟨_,Sum.inr "cellar",.inl A.hh,rfl,(hk_cellar ..).symm⟩
theorem HA.gDesk (A:HA H h ce de lo pu st pl x):DGet H h (.str "desk") (some (.ref de)):=.inl ⟨_,Sum.inr "desk",.inl A.hh,rfl,(hk_desk ..).symm⟩
theorem HA.gLog (A:HA H h ce de lo pu st pl x):DGet H h (.str "log") (some (.ref lo)):=.inl ⟨_,Sum.inr "log",.inl A.hh,rfl,(hk_log ..).symm⟩
theorem HA.gPuts (A:HA H h ce de lo pu st pl x):DGet H h (.str "puts") (some (.ref pu)):=.inl ⟨_,Sum.inr "puts",.inl A.hh,rfl,(hk_puts ..).symm⟩
theorem HA.gRoom (A:HA H h ce de lo pu st pl x):DGet H h (.str "room") (some (.int x.room)):=.inl ⟨_,Sum.inr "room",.inl A.hh,rfl,(hk_room ..).symm⟩
theorem HA.gBegun (A:HA H h ce de lo pu st pl x):DGet H h (.str "begun") (some (.int x.begun)):=.inl ⟨_,Sum.inr "begun",.inl A.hh,rfl,(hk_begun ..).symm⟩
theorem HA.gStrokes (A:HA H h ce de lo pu st pl x):DGet H h (.str "strokes") (some (.ref st)):=.inl ⟨_,Sum.inr "strokes",.inl A.hh,rfl,(hk_strokes ..).symm⟩
theorem HA.pLog (A:HA H h ce de lo pu st pl x) (v:V):DPut H h (.str "log") v (upd H h (.dK (putK (hk ce de lo pu st x.room x.begun) (Sum.inr "log") v))):=.inl ⟨_,Sum.inr "log",A.hh,rfl,(by show 7<sizeLine; rw [sizeLine_eq]; decide),rfl⟩
theorem HA.pBegun (A:HA H h ce de lo pu st pl x) (v:V):DPut H h (.str "begun") v (upd H h (.dK (putK (hk ce de lo pu st x.room x.begun) (Sum.inr "begun") v))):=.inl ⟨_,Sum.inr "begun",A.hh,rfl,(by show 7<sizeLine; rw [sizeLine_eq]; decide),rfl⟩
theorem HA.mh (h ce de pu st:Addr) (pl:List (Int × Addr)):h∈own h ce de pu st pl:=List.mem_cons_self
theorem HA.mc (h ce de pu st:Addr) (pl:List (Int × Addr)):ce∈own h ce de pu st pl:=List.mem_cons_of_mem _ List.mem_cons_self
theorem HA.md (h ce de pu st:Addr) (pl:List (Int × Addr)):de∈own h ce de pu st pl:=List.mem_cons_of_mem _ (List.mem_cons_of_mem _ List.mem_cons_self)
theorem HA.mp (h ce de pu st:Addr) (pl:List (Int × Addr)):pu∈own h ce de pu st pl:=List.mem_cons_of_mem _ (List.mem_cons_of_mem _ (List.mem_cons_of_mem _ List.mem_cons_self))
theorem HA.ms (h ce de pu st:Addr) (pl:List (Int × Addr)):st∈own h ce de pu st pl:=List.mem_cons_of_mem _ (List.mem_cons_of_mem _ (List.mem_cons_of_mem _ (List.mem_cons_of_mem _ List.mem_cons_self)))
theorem HA.ml {pl:List (Int × Addr)} {z:Int × Addr} (hz:z∈pl) (h ce de pu st:Addr):z.2∈own h ce de pu st pl:=List.mem_cons_of_mem _ (List.mem_cons_of_mem _ (List.mem_cons_of_mem _ (List.mem_cons_of_mem _ (List.mem_cons_of_mem _ (List.mem_map.mpr ⟨z,hz,rfl⟩)))))
theorem HA.there (A:HA H h ce de lo pu st pl x) {b:Addr} (hb:H b=none):b∉own h ce de pu st pl:=by
 intro hm
 unfold own at hm
 simp only [List.mem_cons,List.mem_map] at hm
 obtain ⟨zs,e3,_⟩:=A.sk
 rcases hm with e | e | e | e | e | ⟨z,hz,e⟩
 ·rw [e,A.hh] at hb; cases hb
 ·rw [e,A.hc] at hb; cases hb
 ·rw [e,A.hd] at hb; cases hb
 ·rw [e,A.hp] at hb; cases hb
 ·rw [e,e3] at hb; cases hb
 ·obtain ⟨i,hi⟩:=List.getElem?_of_mem hz
  have hl:i<x.puts.length:=by
   have:=congrArg List.length A.pe
   rw [List.length_map,List.length_map] at this
   rw [← this]
   exact (List.getElem?_eq_some_iff.mp hi).1
  obtain ⟨ys,q,_⟩:=A.pv i z _ hi (List.getElem?_eq_getElem hl)
  rw [e,hb] at q
  cases q
theorem valV_pk:∀ (pl:List (Int × Addr)) (d:Int),valV (pk pl) (Sum.inl d)=(pl.find? fun z=>z.1 == d).map fun z=>V.ref z.2
 | [],d=>rfl
 | z::r,d=>by
  show valV ((Sum.inl z.1,V.ref z.2)::pk r) (Sum.inl d)=_
  by_cases e:z.1=d
  ·rw [z1s (by rw [e]),List.find?_cons_of_pos (by rw [e]; exact beq_self_eq_true d)]
   rfl
  ·rw [z1r (fun y=>e (Sum.inl.inj y)),List.find?_cons_of_neg (by simpa using e)]
   exact valV_pk r d
theorem find_fst {α β γ:Type} [BEq α]:∀ {l:List (α × β)} {m:List (α × γ)} (d:α),l.map (·.1)=m.map (·.1)→(l.find? fun z=>z.1 == d).isSome=(m.find? fun z=>z.1 == d).isSome
 | [],[],_,_=>rfl
 | [],_::_,_,h=>by cases h
 | _::_,[],_,h=>by cases h
 | a::l,b::m,d,h=>by
  rw [List.map_cons,List.map_cons] at h
  injection h with h1 h2
  rw [List.find?_cons,List.find?_cons,h1]
  cases b.1 == d with
  | true=>rfl
  | false=>exact find_fst d h2
theorem HA.isOpen (A:HA H h ce de lo pu st pl x) (d:Int):(valV (pk pl) (Sum.inl d)).isSome=x.isOpen d:=by
 rw [valV_pk,Option.isSome_map,find_fst d A.pe]
 unfold Hs.isOpen
 induction x.puts with
 | nil=>rfl
 | cons z r ih =>
  rw [List.find?_cons,List.any_cons]
  cases z.1 == d with
  | true=>rfl
  | false=>exact ih
theorem HA.gOpen (A:HA H h ce de lo pu st pl x) (d:Int):DGet H pu (.int d) (valV (pk pl) (Sum.inl d)):=.inl ⟨_,Sum.inl d,.inl A.hp,rfl,rfl⟩
theorem HA.atC (A:HA H h ce de lo pu st pl x) {p:Nat} (hp:p<x.desk.length):∃ c,x.cellar[p]?=some c∧atI (x.cellar.map V.int) (p:Int)=some (.int c):=by
 obtain ⟨z,a,b⟩:=z2q (ns:=x.cellar) (k:=(p:Int)) (by omega) (by rw [A.cd]; omega)
 exact ⟨z,by simpa using a,b⟩
theorem HA.atD (A:HA H h ce de lo pu st pl x) {p:Nat} (hp:p<x.desk.length):∃ c,x.desk[p]?=some c∧atI (x.desk.map V.int) (p:Int)=some (.int c):=by
 obtain ⟨z,a,b⟩:=z2q (ns:=x.desk) (k:=(p:Int)) (by omega) (by omega)
 exact ⟨z,by simpa using a,b⟩
end
end L2
set_option Elab.async false
set_option linter.all false
set_option maxRecDepth 100000
namespace L2
open PySem
theorem comp_any {K:PySem.W.Frag} {a:Addr} {xs:List V} {te:TE} {σ':St} {Q:VK} {H:Hp} {acc:Addr} (W:Nat→List V→Hp→Prop) (hz:xs.length≤1000) (start:W 0 [] (upd H acc (.lst []))) (stay:∀ i ys H2,W i ys H2→H2 a=some (.lst xs)∧ys.length=i)
  (step:∀ (i:Nat) x ys H2 (k:VK),i<xs.length→xs[i]?=some x→W i ys H2→(∀ vy H7,H7 acc=some (.lst ys)→W (i+1) (ys++[vy]) (upd H7 acc (.lst (ys++[vy])))→k vy H7)→te (some x::σ') H2 k)
  (fin:∀ ys H2,W xs.length ys H2→Q (.ref acc) H2):CompW (Itl K a) te σ' Q H acc:=by
 refine ⟨xs.length,fun i ys H2=>i≤xs.length∧W i ys H2,⟨Nat.zero_le _,start⟩,?_⟩
 rintro i ys H2 ⟨hi,hW⟩
 obtain ⟨ha2,ly⟩:=stay i ys H2 hW
 by_cases hlt:i<xs.length
 ·have hx:xs[i]?=some xs[i]:=List.getElem?_eq_getElem hlt
  refine .inr ⟨⟨xs,xs[i],SqL.of ha2,hx⟩,hlt,?_⟩
  rintro v H3 ⟨rfl,hv⟩
  have ev:v=xs[i]:=by
   have:=hv _ (SqL.of ha2)
   rw [hx] at this
   exact (Option.some.inj this).symm
  subst ev
  exact step i _ ys _ _ hlt hx hW fun vy H7 h7 w7=>⟨h7,Nat.lt_of_le_of_lt (by omega:ys.length≤1000) (by decide),hlt,w7⟩
 ·have e:i=xs.length:=by omega
  subst e
  exact .inl ⟨⟨xs,SqL.of ha2,Nat.le_refl _⟩,fin ys H2 hW⟩
theorem comp_vals {K:PySem.W.Frag} {a:Addr} {xs zs:List V} {te:TE} {σ':St} {Q:VK} {H:Hp} {acc:Addr} (ha:H a=some (.lst xs)) (h0:H acc=none) (hz:xs.length≤1000) (hl:zs.length=xs.length)
  (he:∀ (i:Nat) x z H3 (k:VK),xs[i]?=some x→zs[i]?=some z→Same H H3→k z H3→te (some x::σ') H3 k)
  (q:Q (.ref acc) (upd H acc (.lst zs))):CompW (Itl K a) te σ' Q H acc:=by
 have nac:a≠acc:=z07 ha h0
 refine comp_any (fun i ys H2=>ys.length=i∧ys=zs.take i∧H2=upd H acc (.lst ys)) hz ⟨rfl,rfl,rfl⟩ (fun i ys H2 ⟨e0,e,e2⟩=>?_) (fun i x ys H2 k hi hx ⟨e0,e1,e2⟩ hk=>?_) (fun ys H2 ⟨e0,e1,e2⟩=>?_)
 ·subst e2
  exact ⟨by rw [z01 nac]; exact ha,e0⟩
 ·have hi2:i<zs.length:=by omega
  obtain ⟨z,hz2⟩:∃ z,zs[i]?=some z:=⟨_,List.getElem?_eq_getElem hi2⟩
  subst e2
  refine he i x z _ _ hx hz2 (z09 h0 _) (hk _ _ z02 ⟨by rw [List.length_append,e0]; rfl,?_,by rw [upd_upd]⟩)
  rw [List.take_add_one,hz2,← e1]
  rfl
 ·rw [← hl,List.take_length] at e1
  subst e1 e2
  exact q
section
variable {X:Cx} {K:PySem.W.Frag}
theorem call_len_seqK (h:X.K=K):CallR X (.builtin "len") (fun xs H Q=>∃ p ys,xs=[.ref p]∧(SqL K H p ys∨SqT K H p ys)∧Q (.int ys.length) H):=by subst h; exact z0k
end
section
variable {x:Hs} {s:SM} {k:Nat}
theorem Hs.fits.mono {j:Nat} (h:x.fits k) (hj:j≤k):x.fits j:=⟨by have:=h.1; omega,by have:=h.2.1; omega,h.2.2⟩
theorem z1v:(x.stroke s).desk=x.desk:=by cases s <;> rfl
theorem z1c:(x.stroke s).puts=x.puts:=by cases s <;> rfl
theorem stroke_room:(x.stroke s).room=x.room:=by cases s <;> rfl
theorem z1l:(x.stroke s).begun=x.begun:=by cases s <;> rfl
theorem stroke_strokes:(x.stroke s).strokes=x.strokes++[s]:=by cases s <;> rfl
theorem Hs.fits.stroke (h:x.fits (k+1)) (ok:s.okIn x):(x.stroke s).fits k:=by
 obtain ⟨h1,h2,h3⟩:=h
 refine ⟨?_,?_,?_⟩
 ·rw [stroke_strokes,List.length_append,List.length_singleton]
  omega
 ·cases s with
  | line ln =>
   show (x.log++[ln]).length+k≤_
   rw [List.length_append,List.length_singleton]
   omega
  | page p n =>
   show x.log.length+k≤_
   omega
  | cut j =>
   show (x.log.drop j).length+k≤_
   rw [List.length_drop]
   omega
 ·rw [z1v]
  intro l hl
  cases s with
  | line ln =>
   have hl':l∈x.log++[ln]:=hl
   rcases List.mem_append.mp hl' with z | z
   ·exact h3 l z
   ·rw [List.mem_singleton.mp z]; exact ok
  | page p n=>exact h3 l hl
  | cut j=>exact h3 l (List.mem_of_mem_drop hl)
theorem carryIn_desk {p:Nat}:(x.carryIn p).desk=x.desk:=by
 unfold Hs.carryIn
 split
 ·rfl
 ·exact z1v
theorem carryIn_puts {p:Nat}:(x.carryIn p).puts=x.puts:=by
 unfold Hs.carryIn
 split
 ·rfl
 ·exact z1c
theorem Hs.fits.carry {p:Nat} (h:x.fits (k+1)) (hp:p<x.desk.length):(x.carryIn p).fits k:=by
 unfold Hs.carryIn
 split
 ·exact h.mono (by omega)
 ·exact h.stroke hp
theorem cutIn_desk:x.cutIn.desk=x.desk:=by
 unfold Hs.cutIn
 split
 ·exact z1v
 ·rfl
theorem cutIn_puts:x.cutIn.puts=x.puts:=by
 unfold Hs.cutIn
 split
 ·exact z1c
 ·rfl
theorem Hs.fits.cutIn (h:x.fits (k+1)):x.cutIn.fits k:=by
 unfold Hs.cutIn
 split
 ·exact h.stroke True.intro
 ·exact h.mono (by omega)
def Hs.carries (x:Hs) (i:Nat):Hs:=(List.range i).foldl Hs.carryIn x
theorem z16 {i:Nat}:x.carries (i+1)=(x.carries i).carryIn i:=by
 unfold Hs.carries
 rw [List.range_succ,List.foldl_append]
 rfl
theorem z27:∀ {i:Nat},(x.carries i).desk=x.desk
 | 0=>rfl
 | i+1=>by rw [z16,carryIn_desk]; exact z27
theorem carries_puts:∀ {i:Nat},(x.carries i).puts=x.puts
 | 0=>rfl
 | i+1=>by rw [z16,carryIn_puts]; exact carries_puts
theorem Hs.fits.carries:∀ {i k:Nat},x.fits (i+k)→i≤x.desk.length→(x.carries i).fits k
 | 0,k,h,_=>by rw [Nat.zero_add] at h; exact h
 | i+1,k,h,hi=>by
  rw [z16]
  exact (Hs.fits.carries (k:=k+1) (by rw [← Nat.add_assoc,Nat.add_right_comm]; exact h) (by omega)).carry (by rw [z27]; omega)
theorem z1d:x.madeRoom=(x.carries x.desk.length).cutIn:=rfl
theorem madeRoom_desk:x.madeRoom.desk=x.desk:=by rw [z1d,cutIn_desk,z27]
theorem madeRoom_puts:x.madeRoom.puts=x.puts:=by rw [z1d,cutIn_puts,carries_puts]
end
theorem z1z {β:Type}:∀ {l:List (Int × β)},(l.map (·.1)).Nodup→∀ {i:Nat} {z:Int × β},l[i]?=some z→l.find? (fun y=>y.1 == z.1)=some z
 | [],_,i,z,h=>by simp at h
 | a::l,hn,i,z,h=>by
  rw [List.map_cons,List.nodup_cons] at hn
  cases i with
  | zero =>
   have e:a=z:=Option.some.inj h
   subst e
   rw [List.find?_cons,beq_self_eq_true]
  | succ i =>
   have h2:l[i]?=some z:=by simpa using h
   have ne:¬a.1=z.1:=fun e=>hn.1 (List.mem_map.mpr ⟨z,List.mem_of_getElem? h2,e.symm⟩)
   rw [List.find?_cons_of_neg (by simpa using ne)]
   exact z1z hn.2 h2
theorem find_first {α:Type} {f:α→Bool}:∀ {l:List α} {i:Nat} {z:α},l[i]?=some z→(l.take i).find? f=none→f z=true→l.find? f=some z
 | [],i,z,h,_,_=>by simp at h
 | a::l,0,z,h,_,hf=>by
  have e:a=z:=Option.some.inj h
  subst e
  rw [List.find?_cons_of_pos hf]
 | a::l,i+1,z,h,hn,hf=>by
  rw [List.take_succ_cons,List.find?_cons] at hn
  cases ha:f a with
  | true=>rw [ha] at hn; cases hn
  | false =>
   rw [ha] at hn
   rw [List.find?_cons_of_neg (by rw [ha]; decide)]
   exact find_first (by simpa using h) hn hf
theorem find_take {α:Type} {f:α→Bool} {l:List α} {i:Nat} {z:α} (h:l[i]?=some z) (hn:(l.take i).find? f=none) (hf:f z=false):(l.take (i+1)).find? f=none:=by
 rw [List.take_add_one,h,List.find?_append,hn]
 show ([z].find? f)=none
 rw [List.find?_cons_of_neg (by rw [hf]; decide)]
 rfl
theorem reps_get {α:Type} {f:α→D} {H:Hp}:∀ {l:List α} {ys:List V},Reps H (l.map f) ys→∀ {j:Nat} {v:V},ys[j]?=some v→∃ z,l[j]?=some z∧Rep H (f z) v
 | [],ys,r,j,v,h=>by
  rw [List.map_nil] at r
  cases r.inv0
  simp at h
 | a::l,ys,r,j,v,h=>by
  rw [List.map_cons] at r
  obtain ⟨x,t,rfl,r1,r2⟩:=r.inv
  cases j with
  | zero =>
   have e:x=v:=Option.some.inj h
   subst e
   exact ⟨a,rfl,r1⟩
  | succ j =>
   obtain ⟨z,z1,z2⟩:=reps_get r2 (j:=j) (v:=v) (by simpa using h)
   exact ⟨z,by simpa using z1,z2⟩
section
variable {H H':Hp} {h ce de lo pu st:Addr} {pl:List (Int × Addr)} {x:Hs}
theorem HA.lenP (A:HA H h ce de lo pu st pl x):pl.length=x.puts.length:=by
 have:=congrArg List.length A.pe
 rw [List.length_map,List.length_map] at this
 exact this
theorem HA.at_ (A:HA H h ce de lo pu st pl x) {i:Nat} {z:Int × Addr} (hz:pl[i]?=some z):∃ w ys,x.puts[i]?=some w∧w.1=z.1∧H z.2=some (.lst ys)∧Reps H (w.2.map pairD) ys∧DGet H pu (.int z.1) (some (.ref z.2)):=by
 have hi:i<x.puts.length:=by rw [← A.lenP]; exact (List.getElem?_eq_some_iff.mp hz).1
 have hw:x.puts[i]?=some x.puts[i]:=List.getElem?_eq_getElem hi
 obtain ⟨ys,q1,q2⟩:=A.pv i z _ hz hw
 have e1:(pl.map (·.1))[i]?=some z.1:=by rw [List.getElem?_map,hz]; rfl
 have e2:(x.puts.map (·.1))[i]?=some (x.puts[i]).1:=by rw [List.getElem?_map,hw]; rfl
 rw [A.pe,e2] at e1
 refine ⟨_,ys,hw,Option.some.inj e1,q1,q2,?_⟩
 have g:=A.gOpen z.1
 rw [valV_pk,z1z (by rw [A.pe]; exact A.pn) hz] at g
 exact g
theorem pk_keys (pl:List (Int × Addr)):((pk pl).map fun z=>kV z.1)=(pl.map (·.1)).map V.int:=by
 unfold pk
 rw [List.map_map,List.map_map]
 rfl
end
end L2
set_option Elab.async false
set_option linter.all false
set_option maxRecDepth 100000
namespace L2
open PySem
theorem pk_drop (pl:List (Int × Addr)) (d:Int):dropK (pk pl) (Sum.inl d)=pk (pl.filter fun z=>z.1 != d):=by
 unfold dropK pk
 induction pl with
 | nil=>rfl
 | cons z r ih =>
  rw [List.map_cons,List.filter_cons,List.filter_cons,ih]
  by_cases e:z.1=d
  ·rw [e]
   simp
  ·have e1:(z.1 != d)=true:=bne_iff_ne.mpr e
   have e2:decide ((Sum.inl z.1:Key)≠Sum.inl d)=true:=decide_eq_true fun y=>e (Sum.inl.inj y)
   rw [if_pos e1]
   show (if decide ((Sum.inl z.1:Key)≠Sum.inl d)=true then _ else _)=_
   rw [if_pos e2]
   rfl
theorem filter_align {R:Int × Addr→Int × List (Nat × Int)→Prop} (f:Int→Bool):∀ {l:List (Int × Addr)} {m:List (Int × List (Nat × Int))},l.map (·.1)=m.map (·.1)→(∀ (i:Nat) z w,l[i]?=some z→m[i]?=some w→R z w) →
  ((l.filter fun z=>f z.1).map (·.1)=(m.filter fun z=>f z.1).map (·.1))∧∀ (i:Nat) z w,(l.filter fun z=>f z.1)[i]?=some z→(m.filter fun z=>f z.1)[i]?=some w→R z w
 | [],[],_,_=>⟨rfl,fun i z w h=>by simp at h⟩
 | [],_::_,h,_=>by cases h
 | _::_,[],h,_=>by cases h
 | a::l,b::m,h,hr=>by
  rw [List.map_cons,List.map_cons] at h
  injection h with h1 h2
  obtain ⟨i1,i2⟩:=filter_align (R:=R) f h2 fun i z w p q=>hr (i+1) z w (by simpa using p) (by simpa using q)
  rw [List.filter_cons,List.filter_cons,h1]
  cases hf:f b.1 with
  | false =>
   rw [if_neg Bool.false_ne_true,if_neg Bool.false_ne_true]
   exact ⟨i1,i2⟩
  | true =>
   rw [if_pos rfl,if_pos rfl]
   refine ⟨by rw [List.map_cons,List.map_cons,h1,i1],fun i z w p q=>?_⟩
   cases i with
   | zero=>exact hr 0 z w (by simpa using p) (by simpa using q)
   | succ i=>exact i2 i z w (by simpa using p) (by simpa using q)
theorem z37 {h ce de pu st b:Addr} {pl:List (Int × Addr)}:b∈own h ce de pu st pl↔b=h∨b=ce∨b=de∨b=pu∨b=st∨∃ z∈pl,z.2=b:=by
 unfold own
 simp only [List.mem_cons,List.mem_map]
section
variable {H H':Hp} {h ce de lo pu st:Addr} {pl:List (Int × Addr)} {x:Hs}
theorem HA.ended (A:HA H h ce de lo pu st pl x) (d:Int):HA (upd H pu (.dK (dropK (pk pl) (Sum.inl d)))) h ce de lo pu st (pl.filter fun z=>z.1 != d) { x with puts:=x.puts.filter fun z=>z.1 != d }:=by
 obtain ⟨n1,n2,n3,n4,n5,n6,n7,n8,n9,n10,m1,m2,m3,m4,m5,np⟩:=A.ne
 have kt:z1i H (upd H pu (.dK (dropK (pk pl) (Sum.inl d)))):=z1i.of_lst A.hp
 obtain ⟨xs,e1,e2⟩:=A.hl
 obtain ⟨zs,e3,e4⟩:=A.sk
 obtain ⟨i1,i2⟩:=filter_align (R:=fun z w=>z∈pl∧∃ ys,H z.2=some (.lst ys)∧Reps H (w.2.map pairD) ys) (fun y=>y != d) A.pe fun i z w p q=>⟨List.mem_of_getElem? p,A.pv i z w p q⟩
 have sub:(own h ce de pu st (pl.filter fun z=>z.1 != d)).Sublist (own h ce de pu st pl):=by
  unfold own
  exact ((((List.filter_sublist.map _).cons_cons _).cons_cons _).cons_cons _).cons_cons _ |>.cons_cons _
 refine ⟨by rw [z01 n3]; exact A.hh,by rw [z01 n6]; exact A.hc,by rw [z01 n8]; exact A.hd,⟨xs,by rw [z01 m4]; exact e1,e2.mono fun a y q=>q.mono kt⟩,by rw [z02,pk_drop],i1,fun i z w a b=>?_,(List.filter_sublist.map _).nodup A.pn,⟨zs,by rw [z01 n10.symm]; exact e3,Reps.keep kt _ _ (z0e SM.D_flat _) e4⟩,sub.nodup A.ap,fun m=>A.nl (sub.mem m),A.cd⟩
 obtain ⟨hz,ys,q1,q2⟩:=i2 i z w a b
 exact ⟨ys,by rw [z01 (np z hz).2.2.2.1]; exact q1,Reps.keep kt _ _ (z0e z0t _) q2⟩
theorem HA.opened (A:HA H h ce de lo pu st pl x) {d:Int} {a:Addr} (ha:H a=some (.lst [])) (hn:a∉own h ce de pu st pl) (hl:a≠lo) (hd:x.isOpen d=false) :
  HA (upd H pu (.dK (putK (pk pl) (Sum.inl d) (.ref a)))) h ce de lo pu st (pl++[(d,a)]) { x with puts:=x.puts++[(d,[])] }:=by
 obtain ⟨n1,n2,n3,n4,n5,n6,n7,n8,n9,n10,m1,m2,m3,m4,m5,np⟩:=A.ne
 have kt:z1i H (upd H pu (.dK (putK (pk pl) (Sum.inl d) (.ref a)))):=z1i.of_lst A.hp
 obtain ⟨xs,e1,e2⟩:=A.hl
 obtain ⟨zs,e3,e4⟩:=A.sk
 have nv:valV (pk pl) (Sum.inl d)=none:=by
  have:=A.isOpen d
  rw [hd] at this
  exact Option.isNone_iff_eq_none.mp (by rw [← Option.not_isSome,this]; rfl)
 have ep:putK (pk pl) (Sum.inl d) (.ref a)=pk (pl++[(d,a)]):=by
  rw [putK_new _ nv]
  unfold pk
  rw [List.map_append]
  rfl
 have nd:¬d∈x.puts.map (·.1):=by
  intro m
  obtain ⟨z,hz,e⟩:=List.mem_map.mp m
  have:x.isOpen d=true:=List.any_eq_true.mpr ⟨z,hz,by rw [e]; exact beq_self_eq_true d⟩
  rw [hd] at this
  cases this
 have lp:=A.lenP
 have eo:own h ce de pu st (pl++[(d,a)])=own h ce de pu st pl++[a]:=by
  unfold own
  rw [List.map_append]
  rfl
 refine ⟨by rw [z01 n3]; exact A.hh,by rw [z01 n6]; exact A.hc,by rw [z01 n8]; exact A.hd,⟨xs,by rw [z01 m4]; exact e1,e2.mono fun a y q=>q.mono kt⟩,by rw [z02,ep],by rw [List.map_append,List.map_append,A.pe]; rfl,fun i z w p q=>?_,?_,⟨zs,by rw [z01 n10.symm]; exact e3,Reps.keep kt _ _ (z0e SM.D_flat _) e4⟩,?_,?_,A.cd⟩
 ·by_cases hi:i<pl.length
  ·rw [List.getElem?_append_left hi] at p
   rw [List.getElem?_append_left (by omega)] at q
   obtain ⟨ys,q1,q2⟩:=A.pv i z w p q
   exact ⟨ys,by rw [z01 (np z (List.mem_of_getElem? p)).2.2.2.1]; exact q1,Reps.keep kt _ _ (z0e z0t _) q2⟩
  ·have hi2:i=pl.length:=by
    have:=(List.getElem?_eq_some_iff.mp p).1
    rw [List.length_append,List.length_singleton] at this
    omega
   subst hi2
   rw [List.getElem?_append_right (Nat.le_refl _),Nat.sub_self] at p
   rw [lp,List.getElem?_append_right (Nat.le_refl _),Nat.sub_self] at q
   have ez:(d,a)=z:=Option.some.inj p
   have ew:((d,[]):Int × List (Nat × Int))=w:=Option.some.inj q
   subst ez ew
   have na:a≠pu:=fun e=>hn (by rw [e]; exact HA.mp ..)
   exact ⟨[],by rw [z01 na]; exact ha,.nil⟩
 ·rw [List.map_append,List.nodup_append]
  refine ⟨A.pn,by simp,fun u hu v hv=>?_⟩
  have hv':v=d:=by simpa using hv
  subst hv'
  exact fun e=>nd (e ▸ hu)
 ·rw [eo,List.nodup_append]
  refine ⟨A.ap,by simp,fun u hu v hv=>?_⟩
  have hv':v=a:=by simpa using hv
  subst hv'
  exact fun e=>hn (e ▸ hu)
 ·rw [eo]
  intro m
  rcases List.mem_append.mp m with z | z
  ·exact A.nl z
  ·exact hl (List.mem_singleton.mp z).symm
theorem put_at:∀ {l:List (Int × List (Nat × Int))} {d:Int} {y:Nat × Int} {j:Nat} {w:Int × List (Nat × Int)},(l.map fun z=>if z.1=d then (z.1,z.2++[y]) else z)[j]?=some w→∃ w',l[j]?=some w'∧w=if w'.1=d then (w'.1,w'.2++[y]) else w':=fun {l d y j w} h=>by
 rw [List.getElem?_map] at h
 cases e:l[j]? with
 | none=>rw [e] at h; cases h
 | some w' =>
  rw [e] at h
  exact ⟨w',rfl,(Option.some.inj h).symm⟩
theorem HA.took (A:HA H h ce de lo pu st pl x) {i:Nat} {d:Int} {a:Addr} {ys:List V} {y:Nat × Int} {v:V} (hi:pl[i]?=some (d,a)) (ha:H a=some (.lst ys)) (hv:Rep H (pairD y) v) :
  HA (upd H a (.lst (ys++[v]))) h ce de lo pu st pl { x with puts:=x.puts.map fun z=>if z.1=d then (z.1,z.2++[y]) else z }:=by
 obtain ⟨n1,n2,n3,n4,n5,n6,n7,n8,n9,n10,m1,m2,m3,m4,m5,np⟩:=A.ne
 obtain ⟨k1,k2,k3,k4,k5,k6⟩:=np _ (List.mem_of_getElem? hi)
 have kt:z1i H (upd H a (.lst (ys++[v]))):=keepT_upd ha
 obtain ⟨xs,e1,e2⟩:=A.hl
 obtain ⟨zs,e3,e4⟩:=A.sk
 have ek:(x.puts.map fun z=>if z.1=d then (z.1,z.2++[y]) else z).map (·.1)=x.puts.map (·.1):=by
  rw [List.map_map]
  refine List.map_congr_left fun z _=>?_
  show (if z.1=d then (z.1,z.2++[y]) else z).1=z.1
  split <;> rfl
 have ap:=A.ap
 have nda:(pl.map (·.2)).Nodup:=by
  unfold own at ap
  simp only [List.nodup_cons] at ap
  exact ap.2.2.2.2.2
 refine ⟨by rw [z01 (Ne.symm k1)]; exact A.hh,by rw [z01 (Ne.symm k2)]; exact A.hc,by rw [z01 (Ne.symm k3)]; exact A.hd,⟨xs,by rw [z01 (Ne.symm k6)]; exact e1,e2.mono fun a y q=>q.mono kt⟩,by rw [z01 (Ne.symm k4)]; exact A.hp,by rw [ek]; exact A.pe,fun j z w p q=>?_,by rw [ek]; exact A.pn,⟨zs,by rw [z01 (Ne.symm k5)]; exact e3,Reps.keep kt _ _ (z0e SM.D_flat _) e4⟩,A.ap,A.nl,A.cd⟩
 obtain ⟨w',q1,rfl⟩:=put_at q
 obtain ⟨us,u1,u2⟩:=A.pv j z w' p q1
 obtain ⟨w2,_,t1,t2,_,_,_⟩:=A.at_ p
 rw [q1] at t1
 cases t1
 by_cases e:z=(d,a)
 ·subst e
  rw [if_pos t2]
  rw [ha] at u1
  cases u1
  refine ⟨ys++[v],z02,?_⟩
  show Reps _ ((w'.2++[y]).map pairD) _
  rw [List.map_append]
  exact (Reps.keep kt _ _ (z0e z0t _) u2).append (.cons (Rep.keep kt _ _ (z0t y) hv) .nil)
 ·have nd:¬w'.1=d:=by
   intro y1
   have f1:=z1z (l:=pl) (by rw [A.pe]; exact A.pn) p
   have f2:=z1z (l:=pl) (by rw [A.pe]; exact A.pn) hi
   rw [← t2,y1] at f1
   have f3:pl.find? (fun y=>y.1 == d)=some (d,a):=f2
   rw [f3] at f1
   exact e (Option.some.inj f1).symm
  have na:z.2≠a:=by
   intro y1
   obtain ⟨jj,e5⟩:=List.getElem?_eq_some_iff.mp p
   have g1:(pl.map (·.2))[j]?=some a:=by rw [List.getElem?_map,p]; exact congrArg some y1
   have g2:(pl.map (·.2))[i]?=some a:=by rw [List.getElem?_map,hi]; rfl
   have hj:j=i:=by
    have l1:=(List.getElem?_eq_some_iff.mp g1).1
    exact (List.getElem?_inj l1 nda).mp (g1.trans g2.symm)
   subst hj
   rw [p] at hi
   exact e (Option.some.inj hi)
  rw [if_neg nd]
  exact ⟨us,by rw [z01 na]; exact u1,Reps.keep kt _ _ (z0e z0t _) u2⟩
theorem HA.open_at (A:HA H h ce de lo pu st pl x) {d:Int} (hd:x.isOpen d=true):∃ (i:Nat) (a:Addr) (ys:List V),pl[i]?=some (d,a)∧x.puts[i]?=some (d,x.putsOf d)∧H a=some (.lst ys)∧Reps H ((x.putsOf d).map pairD) ys∧DGet H pu (.int d) (some (.ref a)):=by
 obtain ⟨w,hw,e⟩:=List.any_eq_true.mp hd
 obtain ⟨i,hi⟩:=List.getElem?_of_mem hw
 have e':w.1=d:=beq_iff_eq.mp e
 have hl:i<pl.length:=by rw [A.lenP]; exact (List.getElem?_eq_some_iff.mp hi).1
 have hz:pl[i]?=some pl[i]:=List.getElem?_eq_getElem hl
 obtain ⟨w2,ys,q1,q2,q3,q4,q5⟩:=A.at_ hz
 rw [hi] at q1
 cases q1
 have ep:x.putsOf d=w.2:=by
  unfold Hs.putsOf
  have:=z1z A.pn hi
  rw [e'] at this
  rw [this]
  rfl
 have ez:pl[i]=(d,(pl[i]).2):=by
  rw [← e',q2]
 refine ⟨i,(pl[i]).2,ys,by rw [hz]; exact congrArg some ez,by rw [hi,ep,← e'],q3,by rw [ep]; exact q4,?_⟩
 rw [← q2,e'] at q5
 exact q5
end
end L2
set_option Elab.async false
set_option linter.all false
set_option maxRecDepth 100000
namespace L2
open PySem
section
variable {H H':Hp} {h ce de lo pu st:Addr} {pl:List (Int × Addr)} {x:Hs}
theorem HA.tupN (A:HA H h ce de lo pu st pl x) {b:Addr} {xs:List V} (hb:H b=some (.tup xs)):b∉own h ce de pu st pl:=by
 intro hm
 rw [z37] at hm
 obtain ⟨zs,e3,_⟩:=A.sk
 rcases hm with e | e | e | e | e | ⟨z,hz,e⟩
 ·rw [e,A.hh] at hb; cases hb
 ·rw [e,A.hc] at hb; cases hb
 ·rw [e,A.hd] at hb; cases hb
 ·rw [e,A.hp] at hb; cases hb
 ·rw [e,e3] at hb; cases hb
 ·obtain ⟨i,hi⟩:=List.getElem?_of_mem hz
  obtain ⟨w,ys,_,_,q,_,_⟩:=A.at_ hi
  rw [e,hb] at q
  cases q
theorem HA.keepT (A:HA H h ce de lo pu st pl x) (o:Oth (own h ce de pu st pl) H H'):z1i H H':=fun b xs q=>o b _ (A.tupN q) q
end
section
variable {x:Hs} {d n:Int} {p k:Nat}
theorem putIn_desk:(x.putIn d p n).desk.length=x.desk.length:=by
 show (x.desk.set p n).length=_
 rw [List.length_set]
theorem Hs.fits.putIn (h:x.fits (k+1)) (hp:p<x.desk.length):(x.putIn d p n).fits k:=by
 have h1:(x.stroke (.line (.put d p (x.desk.getD p 0) n))).fits k:=h.stroke (s:=.line (.put d p (x.desk.getD p 0) n)) hp
 obtain ⟨a,b,c⟩:=h1
 refine ⟨a,b,fun ln hl=>?_⟩
 rw [putIn_desk]
 exact c ln hl
def Hs.undone (x:Hs) (d:Int) (l:List (Nat × Int)):Hs:=l.foldl (fun h z=>h.putIn d z.1 z.2) x
theorem undone_snoc {l:List (Nat × Int)} {z:Nat × Int}:x.undone d (l++[z])=(x.undone d l).putIn d z.1 z.2:=by
 unfold Hs.undone
 rw [List.foldl_append]
 rfl
theorem z23:∀ {l:List (Nat × Int)} {x:Hs},(x.undone d l).puts=x.puts
 | [],_=>rfl
 | z::l,x=>by
  show ((x.putIn d z.1 z.2).undone d l).puts=_
  rw [z23]
  rfl
theorem z30:∀ {l:List (Nat × Int)} {x:Hs},(x.undone d l).desk.length=x.desk.length
 | [],_=>rfl
 | z::l,x=>by
  show ((x.putIn d z.1 z.2).undone d l).desk.length=_
  rw [z30,putIn_desk]
theorem undone_begun:∀ {l:List (Nat × Int)} {x:Hs},(x.undone d l).begun=x.begun
 | [],_=>rfl
 | z::l,x=>by
  show ((x.putIn d z.1 z.2).undone d l).begun=_
  rw [undone_begun]
  rfl
theorem Hs.fits.undone:∀ {l:List (Nat × Int)} {x:Hs} {k:Nat},x.fits (l.length+k)→(∀ z∈l,z.1<x.desk.length)→(x.undone d l).fits k
 | [],x,k,h,_=>by
  rw [List.length_nil,Nat.zero_add] at h
  exact h
 | z::l,x,k,h,hz=>by
  show ((x.putIn d z.1 z.2).undone d l).fits k
  refine Hs.fits.undone ?_ fun y hy=>by rw [putIn_desk]; exact hz y (List.mem_cons_of_mem _ hy)
  refine Hs.fits.putIn ?_ (hz z List.mem_cons_self)
  rw [List.length_cons] at h
  exact h.mono (by omega)
theorem z25:x.undo d=x.undone d (x.putsOf d).reverse:=rfl
end
def OthL (ow:List Addr) (lo lo':Addr) (H H':Hp):Prop:=Oth ow H H'∧(lo'=lo∨lo'∈ow∨H lo'=none)
theorem Oth.l {ow:List Addr} {lo:Addr} {H H':Hp} (o:Oth ow H H'):OthL ow lo lo H H':=⟨o,.inl rfl⟩
theorem OthL.trans {ow:List Addr} {l0 l1 l2:Addr} {H H1 H2:Hp} (a:OthL ow l0 l1 H H1) (b:OthL ow l1 l2 H1 H2):OthL ow l0 l2 H H2:=by
 refine ⟨a.1.trans b.1,?_⟩
 rcases b.2 with z | z | z
 ·rw [z]; exact a.2
 ·exact .inr (.inl z)
 ·by_cases m:l2∈ow
  ·exact .inr (.inl m)
  ·cases e:H l2 with
   | none=>exact .inr (.inr rfl)
   | some o=>rw [a.1 _ _ m e] at z; cases z
theorem OthL.fresh {ow:List Addr} {lo lo':Addr} {H H1 H':Hp} (a:Oth ow H H1) (h:H1 lo'=none) (b:Oth ow H H'):OthL ow lo lo' H H' :=
 ⟨b,by
  by_cases m:lo'∈ow
  ·exact .inr (.inl m)
  ·cases e:H lo' with
   | none=>exact .inr (.inr rfl)
   | some o=>rw [a _ _ m e] at h; cases h⟩
end L2
set_option Elab.async false
set_option linter.all false
set_option maxRecDepth 100000
namespace L2
open PySem
structure Hs.good (n:Nat) (x:Hs):Prop where
 d1:1≤x.desk.length
 d2:x.desk.length≤100
 pz:∀ z∈x.puts,0≤z.1∧z.1<x.begun∧z.2.length≤n∧∀ y∈z.2,y.1<x.desk.length
 pl:x.puts.length≤n
 sl:x.strokes.length≤300 * n
 ll:x.log.length≤300 * n
 ok:∀ ln∈x.log,ln.ok x.desk.length
section
variable {x:Hs} {n k:Nat} {m:Int}
theorem Hs.good.fits (g:x.good n) (hn:n≤150) (hk:k≤50000):x.fits k:=⟨by have:=g.sl; omega,by have:=g.ll; omega,g.ok⟩
theorem z35 {p:Nat}:(x.carryIn p).begun=x.begun:=by
 unfold Hs.carryIn
 split
 ·rfl
 ·exact z1l
theorem cutIn_begun:x.cutIn.begun=x.begun:=by
 unfold Hs.cutIn
 split
 ·exact z1l
 ·rfl
theorem carries_begun:∀ {i:Nat},(x.carries i).begun=x.begun
 | 0=>rfl
 | i+1=>by rw [z16,z35]; exact carries_begun
theorem madeRoom_begun:x.madeRoom.begun=x.begun:=by rw [z1d,cutIn_begun,carries_begun]
theorem z2t:(x.full m).1=x∨(x.full m).1=x.madeRoom:=by
 unfold Hs.full
 split
 ·exact .inl rfl
 ·exact .inr rfl
theorem full_desk:(x.full m).1.desk=x.desk:=by
 rcases z2t (x:=x) (m:=m) with e | e
 ·rw [e]
 ·rw [e,madeRoom_desk]
theorem z28:(x.full m).1.puts=x.puts:=by
 rcases z2t (x:=x) (m:=m) with e | e
 ·rw [e]
 ·rw [e,madeRoom_puts]
theorem z1x:(x.full m).1.begun=x.begun:=by
 rcases z2t (x:=x) (m:=m) with e | e
 ·rw [e]
 ·rw [e,madeRoom_begun]
theorem Hs.fits.full (h:x.fits (x.desk.length+1+k)):(x.full m).1.fits k:=by
 rcases z2t (x:=x) (m:=m) with e | e
 ·rw [e]; exact h.mono (by omega)
 ·rw [e,z1d]
  exact (Hs.fits.carries (i:=x.desk.length) (k:=k+1) (h.mono (by omega)) (Nat.le_refl _)).cutIn
theorem find_mem:∀ (l:List (Int × List (Nat × Int))) (d:Int),(l.any fun z=>z.1 == d)=true→(d,((l.find? fun z=>z.1 == d).map (·.2)).getD [])∈l
 | [],d,h=>by cases h
 | z::r,d,h=>by
  rw [List.find?_cons]
  cases e:z.1 == d with
  | true =>
   have e':z.1=d:=beq_iff_eq.mp e
   subst e'
   exact List.mem_cons_self
  | false =>
   rw [List.any_cons,e,Bool.false_or] at h
   exact List.mem_cons_of_mem _ (find_mem r d h)
theorem z24 {d:Int} (h:x.isOpen d=true):(d,x.putsOf d)∈x.puts:=find_mem x.puts d h
theorem z1w {e:Deed} {w:Str} (h:x.refusal e=some w):¬(V.str w=V.str "done"):=by
 have key:w="no dealing"∨w="no page"∨w="taken":=by
  cases e with
  | begin=>cases h
  | cut=>cases h
  | put d p n =>
   have h:(if x.isOpen d=false then some "no dealing" else if p<0∨(x.desk.length:Int)≤p then some "no page" else if x.taker p.toNat=none∨x.taker p.toNat=some d then none else some "taken":Option Str)=some w:=h
   split at h
   ·exact .inl (Option.some.inj h).symm
   split at h
   ·exact .inr (.inl (Option.some.inj h).symm)
   split at h
   ·cases h
   ·exact .inr (.inr (Option.some.inj h).symm)
  | fin d =>
   have h:(if x.isOpen d=false then some "no dealing" else none:Option Str)=some w:=h
   split at h
   ·exact .inl (Option.some.inj h).symm
   ·cases h
  | drop d =>
   have h:(if x.isOpen d=false then some "no dealing" else none:Option Str)=some w:=h
   split at h
   ·exact .inl (Option.some.inj h).symm
   ·cases h
  | look p =>
   have h:(if p<0∨(x.desk.length:Int)≤p then some "no page" else none:Option Str)=some w:=h
   split at h
   ·exact .inr (.inl (Option.some.inj h).symm)
   ·cases h
  | carry p =>
   have h:(if p<0∨(x.desk.length:Int)≤p then some "no page" else none:Option Str)=some w:=h
   split at h
   ·exact .inr (.inl (Option.some.inj h).symm)
   ·cases h
 rcases key with rfl | rfl | rfl <;> decide +kernel
theorem z2c {d:Int} {e:Deed} (he:(∃ p n,e=.put d p n)∨e=.fin d∨e=.drop d) (h:x.refusal e=none):x.isOpen d=true:=by
 cases ho:x.isOpen d with
 | true=>rfl
 | false =>
  rcases he with ⟨p,n,rfl⟩ | rfl | rfl <;> unfold Hs.refusal at h <;> dsimp only at h <;> rw [ho,if_pos rfl] at h <;> cases h
theorem z29 {p:Int} {e:Deed} (he:(∃ d n,e=.put d p n)∨e=.look p∨e=.carry p) (h:x.refusal e=none):0≤p∧p<x.desk.length:=by
 have key:¬(p<0∨(x.desk.length:Int)≤p):=by
  intro hc
  rcases he with ⟨d,n,rfl⟩ | rfl | rfl
  ·have ho:x.isOpen d=true:=z2c (.inl ⟨p,n,rfl⟩) h
   unfold Hs.refusal at h
   dsimp only at h
   rw [ho,if_neg (fun z=>nomatch z),if_pos hc] at h
   cases h
  ·unfold Hs.refusal at h
   dsimp only at h
   rw [if_pos hc] at h
   cases h
  ·unfold Hs.refusal at h
   dsimp only at h
   rw [if_pos hc] at h
   cases h
 omega
end
end L2
set_option Elab.async false
set_option linter.all false
set_option maxRecDepth 100000
namespace L2
open PySem
def Hs.grow (x y:Hs) (k:Nat):Prop:=y.strokes.length≤x.strokes.length+k∧y.log.length≤x.log.length+k
section
variable {x y z:Hs} {n k j:Nat} {m:Int} {d:Int} {p:Nat} {s:SM}
theorem Hs.grow.refl:x.grow x k:=⟨Nat.le_add_right _ _,Nat.le_add_right _ _⟩
theorem Hs.grow.trans (a:x.grow y j) (b:y.grow z k):x.grow z (j+k):=⟨by have:=a.1; have:=b.1; omega,by have:=a.2; have:=b.2; omega⟩
theorem Hs.grow.mono (a:x.grow y j) (h:j≤k):x.grow y k:=⟨by have:=a.1; omega,by have:=a.2; omega⟩
theorem z2m:x.grow (x.stroke s) 1:=by
 refine ⟨by rw [stroke_strokes,List.length_append,List.length_singleton]; exact Nat.le_refl _,?_⟩
 cases s with
 | line ln =>
  show (x.log++[ln]).length≤_
  rw [List.length_append,List.length_singleton]
  exact Nat.le_refl _
 | page p n=>exact Nat.le_add_right _ _
 | cut j =>
  show (x.log.drop j).length≤_
  rw [List.length_drop]
  omega
theorem grow_carry:x.grow (x.carryIn p) 1:=by
 unfold Hs.carryIn
 split
 ·exact .refl
 ·exact z2m
theorem grow_cut:x.grow x.cutIn 1:=by
 unfold Hs.cutIn
 split
 ·exact z2m
 ·exact .refl
theorem grow_carries:∀ {i:Nat},x.grow (x.carries i) i
 | 0=>.refl
 | i+1=>by
  rw [z16]
  exact grow_carries.trans grow_carry
theorem grow_full:x.grow (x.full m).1 (x.desk.length+1):=by
 rcases z2t (x:=x) (m:=m) with e | e
 ·rw [e]; exact .refl
 ·rw [e,z1d]
  exact grow_carries.trans grow_cut
theorem grow_put {nn:Int}:x.grow (x.putIn d p nn) 1:=by
 have h:=z2m (x:=x) (s:=.line (.put d p (x.desk.getD p 0) nn))
 exact ⟨h.1,h.2⟩
theorem grow_undone:∀ {l:List (Nat × Int)} {x:Hs},x.grow (x.undone d l) l.length
 | [],_=>.refl
 | w::l,x=>by
  show x.grow ((x.putIn d w.1 w.2).undone d l) (l.length+1)
  exact ((grow_put (x:=x) (d:=d) (p:=w.1) (nn:=w.2)).trans (grow_undone (l:=l))).mono (by omega)
theorem Hs.good.more (g:x.good n):x.good (n+1):=⟨g.d1,g.d2,fun z hz=>⟨(g.pz z hz).1,(g.pz z hz).2.1,Nat.le_succ_of_le (g.pz z hz).2.2.1,(g.pz z hz).2.2.2⟩,Nat.le_succ_of_le g.pl,by have:=g.sl; omega,by have:=g.ll; omega,g.ok⟩
theorem Hs.good.step (g:x.good n) (hg:x.grow y 300) (hd:y.desk.length=x.desk.length) (hb:x.begun≤y.begun) (hp:y.puts=x.puts) (hf:y.fits 0):y.good (n+1):=by
 refine ⟨by rw [hd]; exact g.d1,by rw [hd]; exact g.d2,fun z hz=>?_,by rw [hp]; exact Nat.le_succ_of_le g.pl,by have:=g.sl; have:=hg.1; omega,by have:=g.ll; have:=hg.2; omega,hf.2.2⟩
 rw [hp] at hz
 obtain ⟨a,b,c,e⟩:=g.pz z hz
 exact ⟨a,by omega,Nat.le_succ_of_le c,by rw [hd]; exact e⟩
theorem Hs.good.puts (g:x.good (n+1)) {ps:List (Int × List (Nat × Int))} (h:∀ z∈ps,0≤z.1∧z.1<x.begun∧z.2.length≤n+1∧∀ y∈z.2,y.1<x.desk.length) (hl:ps.length≤n+1):({ x with puts:=ps }:Hs).good (n+1):=⟨g.d1,g.d2,h,hl,g.sl,g.ll,g.ok⟩
theorem Hs.good.answered (g:x.good n) (hn:n≤110) (e:Deed):(x.answered e).1.good (n+1):=by
 cases hrf:x.refusal e with
 | some ww =>
  have ea:x.answered e=(x,.word ww):=by unfold Hs.answered; rw [hrf]
  rw [ea]
  exact g.more
 | none =>
  have ea:x.answered e=x.deed e:=by unfold Hs.answered; rw [hrf]
  rw [ea]
  have gd2:=g.d2
  have F:∀ k,k≤50000→x.fits k:=fun k hk=>g.fits (by omega) hk
  cases e with
  | begin =>
   have gb:x.began.good n:=⟨g.d1,g.d2,fun z hz=>⟨(g.pz z hz).1,(by have:=(g.pz z hz).2.1; show z.1<((x.begun+1:Nat):Int); omega),(g.pz z hz).2.2⟩,g.pl,g.sl,g.ll,g.ok⟩
   have fb:x.began.fits (x.began.desk.length+1+0):=F _ (by show x.desk.length+1+0≤_; omega)
   have gf:(x.began.full 1).1.good (n+1):=gb.step (grow_full.mono (by show x.desk.length+1≤_; omega)) (by rw [full_desk]) (by rw [z1x]; exact Nat.le_refl _) z28 fb.full
   show (if (x.began.full 1).2=true then ((x.began.full 1).1,Ans.word "no room") else ((x.began.full 1).1.opened,Ans.num x.begun)).1.good (n+1)
   split
   ·exact gf
   ·refine gf.puts (fun z hz=>?_) ?_
    ·have eb:(x.began.full 1).1.begun=x.begun+1:=z1x
     rcases List.mem_append.mp hz with hz | hz
     ·exact gf.pz z hz
     ·rw [List.mem_singleton.mp hz]
      refine ⟨?_,?_,Nat.zero_le _,fun y hy=>by cases hy⟩
      ·show 0≤(((x.began.full 1).1.begun:Nat):Int) - 1
       rw [eb]
       omega
      ·show (((x.began.full 1).1.begun:Nat):Int) - 1<(((x.began.full 1).1.begun:Nat):Int)
       omega
    ·rw [List.length_append,List.length_singleton,z28]
     have:=g.pl
     show x.puts.length+1≤_
     omega
  | put d p nn =>
   obtain ⟨p0,p1⟩:=z29 (.inl ⟨d,nn,rfl⟩) hrf
   have hpn:p.toNat<x.desk.length:=by omega
   have fb:x.fits (x.desk.length+1+1):=F _ (by omega)
   have g1:x.grow (x.full 2).1 (x.desk.length+1):=grow_full
   have fy:(x.full 2).1.fits 1:=fb.full
   have gf:(x.full 2).1.good (n+1):=g.step (g1.mono (by omega)) (by rw [full_desk]) (by rw [z1x]; exact Nat.le_refl _) z28 (fy.mono (by omega))
   have ep:(x.full 2).1.puts=x.puts:=z28
   have ed:(x.full 2).1.desk=x.desk:=full_desk
   show (if (x.full 2).2=true then ((x.full 2).1,Ans.word "no room") else (((x.full 2).1.took d p.toNat).putIn d p.toNat nn,Ans.word "done")).1.good (n+1)
   split
   ·exact gf
   ·generalize (x.full 2).1=y at g1 fy gf ep ed
    have gt:(y.took d p.toNat).good (n+1):=by
     refine gf.puts (fun z hz=>?_) (by rw [List.length_map]; exact gf.pl)
     obtain ⟨w,hw,e⟩:=List.mem_map.mp hz
     have hw2:=gf.pz w hw
     have hw3:=g.pz w (ep ▸ hw)
     by_cases ew:w.1=d
     ·rw [if_pos ew] at e
      subst e
      refine ⟨hw2.1,hw2.2.1,?_,fun q hq=>?_⟩
      ·show (w.2++[_]).length≤_
       rw [List.length_append,List.length_singleton]
       have:=hw3.2.2.1
       omega
      ·rcases List.mem_append.mp hq with hq | hq
       ·exact hw2.2.2.2 q hq
       ·rw [List.mem_singleton.mp hq,ed]
        exact hpn
     ·rw [if_neg ew] at e
      subst e
      exact hw2
    have fp:((y.took d p.toNat).putIn d p.toNat nn).fits 0:=Hs.fits.putIn (k:=0) (x:=y.took d p.toNat) fy (by show p.toNat<y.desk.length; rw [ed]; exact hpn)
    have g2:x.grow ((y.took d p.toNat).putIn d p.toNat nn) (x.desk.length+1+1):=g1.trans (show y.grow ((y.took d p.toNat).putIn d p.toNat nn) 1 from (⟨(grow_put (x:=y.took d p.toNat) (d:=d) (p:=p.toNat) (nn:=nn)).1,(grow_put (x:=y.took d p.toNat) (d:=d) (p:=p.toNat) (nn:=nn)).2⟩:(y.took d p.toNat).grow _ 1))
    have ld:((y.took d p.toNat).putIn d p.toNat nn).desk.length=y.desk.length:=putIn_desk (x:=y.took d p.toNat)
    show ((y.took d p.toNat).putIn d p.toNat nn).good (n+1)
    refine ⟨by rw [ld]; exact gf.d1,by rw [ld]; exact gf.d2,fun z hz=>?_,gt.pl,by have:=g2.1; have:=g.sl; omega,by have:=g2.2; have:=g.ll; omega,fp.2.2⟩
    obtain ⟨a,b,c,dd⟩:=gt.pz z hz
    exact ⟨a,b,c,by rw [ld]; exact dd⟩
  | fin d =>
   show (x.endIn d).good (n+1)
   have f1:=(F 1 (by omega)).stroke (k:=0) (s:=.line (.fin d)) True.intro
   have gs:(x.stroke (.line (.fin d))).good (n+1):=g.step (z2m.mono (by omega)) (by rw [z1v]) (by rw [z1l]; exact Nat.le_refl _) z1c f1
   exact gs.puts (fun z hz=>gs.pz z ((List.mem_filter.mp hz).1)) (Nat.le_trans (List.length_filter_le _ _) (Nat.le_succ_of_le g.pl))
  | drop d =>
   show ((x.undo d).endIn d).good (n+1)
   have ho:x.isOpen d=true:=z2c (.inr (.inr rfl)) hrf
   have mz:=g.pz _ (z24 ho)
   have lz:(x.putsOf d).length≤n:=mz.2.2.1
   have hz:∀ y∈(x.putsOf d).reverse,y.1<x.desk.length:=fun y hy=>mz.2.2.2 y (List.mem_reverse.mp hy)
   have fu:(x.undo d).fits 1:=by
    rw [z25]
    exact Hs.fits.undone (k:=1) (F _ (by rw [List.length_reverse]; omega)) hz
   have gu:x.grow (x.undo d) (x.putsOf d).length:=by
    have:=grow_undone (d:=d) (l:=(x.putsOf d).reverse) (x:=x)
    rw [List.length_reverse] at this
    exact this
   have f1:=fu.stroke (k:=0) (s:=.line (.fin d)) True.intro
   have pu3:(x.undo d).puts=x.puts:=by rw [z25,z23]
   have gs:((x.undo d).stroke (.line (.fin d))).good (n+1):=g.step ((gu.trans z2m).mono (by omega)) (by rw [z1v,z25,z30]) (by rw [z1l,z25,undone_begun]; exact Nat.le_refl _) (by rw [z1c]; exact pu3) f1
   exact gs.puts (fun z hz=>gs.pz z (by rw [z1c]; exact (List.mem_filter.mp hz).1)) (Nat.le_trans (List.length_filter_le _ _) (by rw [pu3]; exact Nat.le_succ_of_le g.pl))
  | look p=>exact g.more
  | carry p =>
   obtain ⟨p0,p1⟩:=z29 (.inr (.inr rfl)) hrf
   show (x.carryIn p.toNat).good (n+1)
   exact g.step (grow_carry.mono (by omega)) (by rw [carryIn_desk]) (by rw [z35]; exact Nat.le_refl _) carryIn_puts ((F 1 (by omega)).carry (k:=0) (by omega))
  | cut =>
   show x.cutIn.good (n+1)
   exact g.step (grow_cut.mono (by omega)) (by rw [cutIn_desk]) (by rw [cutIn_begun]; exact Nat.le_refl _) cutIn_puts ((F 1 (by omega)).cutIn (k:=0))
end
def Hs.run (x:Hs):List Deed→Hs
 | []=>x
 | e::r=>Hs.run (x.answered e).1 r
theorem run_snoc:∀ (l:List Deed) (x:Hs) (e:Deed),x.run (l++[e])=((x.run l).answered e).1
 | [],_,_=>rfl
 | _::l,x,e=>run_snoc l _ e
theorem Hs.good.run:∀ (l:List Deed) {x:Hs} {n:Nat},x.good n→n+l.length≤110→(x.run l).good (n+l.length)
 | [],_,_,g,_=>g
 | e::l,x,n,g,h=>by
  rw [List.length_cons] at h ⊢
  have:=Hs.good.run l (g.answered (by omega) e) (by omega)
  have ee:n+1+l.length=n+(l.length+1):=by omega
  rw [ee] at this
  exact this
end L2
set_option Elab.async false
set_option linter.all false
set_option maxRecDepth 100000
namespace L2
open PySem
theorem comp_rangeS {lo:Int} {n:Nat} {te:TE} {σ':St} {Q:VK} {H:Hp} {acc:Addr} (R:V→Prop) (h0:H acc=none) (hn:n≤1000)
  (he:∀ (i:Nat) H3 (k:VK),i<n→(∀ v H4,R v→Same H3 H4→k v H4)→te (some (.int (lo+i))::σ') H3 k)
  (q:∀ (ys:List V) (H':Hp),ys.length=n→(∀ v∈ys,R v)→Same H H'→H' acc=some (.lst ys)→Q (.ref acc) H'):CompW (Itr lo n) te σ' Q H acc:=by
 refine ⟨n,fun i ys H2=>i≤n∧ys.length=i∧(∀ v∈ys,R v)∧Same H H2∧H2 acc=some (.lst ys),⟨Nat.zero_le _,rfl,fun v hv=>by simp at hv,z09 h0 _,z02⟩,?_⟩
 rintro i ys H2 ⟨hi,hl,hR,sm,hacc⟩
 by_cases hlt:i<n
 ·refine .inr ⟨hlt,hlt,?_⟩
  rintro v H3 ⟨rfl,rfl⟩
  refine he i _ _ hlt fun v H4 hv s4=>⟨s4 _ _ hacc,Nat.lt_of_le_of_lt (by omega:ys.length≤1000) (by decide),hlt,by rw [List.length_append,hl]; rfl,fun w hw=>?_,(sm.trans s4).upd_new h0,z02⟩
  rcases List.mem_append.mp hw with z | z
  ·exact hR w z
  ·rw [List.mem_singleton.mp z]; exact hv
 ·have e:i=n:=by omega
  subst e
  exact .inl ⟨Nat.le_refl _,q ys H2 hl hR sm hacc⟩
end L2
set_option Elab.async false
set_option linter.all false
set_option maxRecDepth 100000
namespace L2
open PySem PySem.Spec PyProof.Rows
section
variable {X:Cx}
def rEqNil:R2:=fun x y H Q=>∃ a b xs,x=.ref a∧y=.ref b∧H a=some (.lst xs)∧H b=some (.lst [])∧Q (.bl xs.isEmpty) H
theorem op_eqNil (hu:X.A.units<cLine):OpR X (compareOp .Eq) rEqNil:=by
 intro pins s σ H x y v u Q I rx ry h
 obtain ⟨a,b,xs,rfl,rfl,ha,hb,q⟩:=h
 cases rx
 cases ry
 obtain ⟨its,r,p,_⟩:=I.list (SqL.of ha)
 obtain ⟨its2,r2,p2,_⟩:=I.list (SqL.of hb)
 cases r2
 cases xs with
 | nil =>
  cases r
  exact SeqAt.RcAt.lists (e:=fun _=>true) p.isList p2.isList rfl hu (fun j h1 _=>absurd h1 (by simp)) X.prog X.w X.xe _ ⟨.bl true,H,I,rfl,q⟩
 | cons x xs =>
  cases r
  exact SeqAt.RcAt.lists_lengths p.isList p2.isList (by simp) hu X.prog X.w X.xe _ ⟨.bl false,H,I,rfl,q⟩
end
end L2
set_option Elab.async false
set_option linter.all false
set_option maxRecDepth 100000
namespace L2
open PySem
theorem compT_ints {K:PySem.W.Frag} {a:Addr} {ns:List Int} {tt:TT} {te:TE} {σ':St} {Q:VK} {H:Hp} {acc:Addr} (p:Int→Bool) (ha:H a=some (.lst (ns.map V.int))) (h0:H acc=none) (hz:ns.length≤1000)
  (ht:∀ (z:Int) H3 (k:Bool→Hp→Prop),k (p z) H3→tt (some (.int z)::σ') H3 k)
  (he:∀ (z:Int) H3 (k:VK),k (.int z) H3→te (some (.int z)::σ') H3 k)
  (q:Q (.ref acc) (upd H acc (.lst ((ns.filter p).map V.int)))):CompWT (Itl K a) tt te σ' Q H acc:=by
 have nac:a≠acc:=z07 ha h0
 have lx:(ns.map V.int).length=ns.length:=List.length_map _
 refine ⟨ns.length,fun i ys H2=>i≤ns.length∧ys=((ns.take i).filter p).map V.int∧H2=upd H acc (.lst ys),⟨Nat.zero_le _,rfl,rfl⟩,?_⟩
 rintro i ys H2 ⟨hi,rfl,rfl⟩
 have ha2:(upd H acc (.lst (((ns.take i).filter p).map V.int))) a=some (.lst (ns.map V.int)):=by rw [z01 nac]; exact ha
 by_cases hlt:i<ns.length
 ·have hx0:ns[i]?=some ns[i]:=List.getElem?_eq_getElem hlt
  have hx:(ns.map V.int)[i]?=some (.int ns[i]):=z2y hx0
  refine .inr ⟨⟨_,_,SqL.of ha2,hx⟩,hlt,?_⟩
  rintro v H3 ⟨rfl,hv⟩
  have ev:v=.int ns[i]:=by
   have:=hv _ (SqL.of ha2)
   rw [hx] at this
   exact (Option.some.inj this).symm
  subst ev
  have et:(ns.take (i+1)).filter p=(ns.take i).filter p++[ns[i]].filter p:=by
   rw [List.take_add_one,hx0,List.filter_append]
   rfl
  refine ht _ _ _ ?_
  cases hp:p ns[i] with
  | false =>
   refine iteF ⟨hlt,?_,rfl⟩
   rw [et,List.filter_cons,hp]
   simp
  | true =>
   refine iteT (he _ _ _ ?_)
   have lf:(((ns.take i).filter p).map V.int).length≤1000:=by
    rw [List.length_map]
    have h1:=List.length_filter_le p (ns.take i)
    rw [List.length_take] at h1
    omega
   refine ⟨z02,Nat.lt_of_le_of_lt lf (by decide),hlt,?_,by rw [upd_upd]⟩
   rw [et,List.filter_cons,hp]
   simp
 ·have e:i=ns.length:=by omega
  subst e
  refine .inl ⟨⟨_,SqL.of ha2,by rw [lx]; exact Nat.le_refl _⟩,?_⟩
  rw [List.take_length]
  exact q
end L2
set_option Elab.async false
set_option linter.all false
set_option maxRecDepth 100000
namespace L2
open PySem PySem.Spec PyProof.Rows
structure Held (fs ex:List Addr) (h h':Heap):Prop where
 keep:∀ b o,h.get? b=some o→b∉fs→b∉ex→h'.get? b=some o
 slot:∀ b o,h.get? b=some o→b∈fs→b∉ex→∃ sl,h'.get? b=some { o with slots:=sl }
theorem Held.there {fs ex:List Addr} {h h':Heap} (x:Held fs ex h h') {b:Addr} {o:Obj} (e:h.get? b=some o) (hb:b∉ex):∃ o',h'.get? b=some o':=by
 by_cases z:b∈fs
 ·obtain ⟨sl,q⟩:=x.slot b o e z hb
  exact ⟨_,q⟩
 ·exact ⟨_,x.keep b o e z hb⟩
theorem HOk.held {P:Program} {w:World} {fs ex:List Addr} {h h':Heap} {H:Hp} (k:HOk P w H h) (x:Held fs ex h h') (hf:∀ b∈fs,H b=none) (he:∀ b∈ex,H b=none):HOk P w H h':=fun a o e =>
 (k a o e).stay (fun b u hb q=>by
  have hn:H b≠none:=by
   rcases hb with z | z
   ·rw [z,e]; exact fun y=>nomatch y
   ·rw [z]; exact fun y=>nomatch y
  exact x.keep b u q (fun z=>hn (hf b z)) fun z=>hn (he b z)) (fun _ q=>q) fun _ _ q=>q
theorem z1n.obj {P:Program} {w:World} {H:Hp} {h:Heap} {a:Addr} {o:HO} (x:z1n P w H h a o):∃ ob,h.get? a=some ob:=by
 cases o with
 | lst xs=>obtain ⟨_,_,_,_,e⟩:=x; exact ⟨_,e⟩
 | tup xs=>obtain ⟨_,_,_,ob,e,_⟩:=x; exact ⟨_,e⟩
 | dK kvs=>obtain ⟨_,_,_,_,o,_,_,e,_⟩:=x; exact ⟨_,e⟩
 | dT kvs=>obtain ⟨_,_,_,_,o,_,_,e,_⟩:=x; exact ⟨_,e⟩
 | set S n=>obtain ⟨o,_,_,_,e,_⟩:=x; exact ⟨_,e⟩
 | ins C dx fs=>obtain ⟨_,_,_,e,_⟩:=x; exact ⟨_,e⟩
 | own y=>obtain ⟨_,e⟩:=x; exact ⟨_,e⟩
 | xd fs=>obtain ⟨_,⟨_,_,_,e,_⟩,_⟩:=x; exact ⟨_,e⟩
 | rng lo hi=>obtain ⟨_,_,_,e⟩:=x; exact ⟨_,e⟩
 | frz ob u=>obtain ⟨e,_⟩:=x; exact ⟨_,e⟩
 | tbl ps=>exact ⟨_,(show h.get? a=some _ from x)⟩
 | met f y=>exact ⟨_,(show h.get? a=some _ from x)⟩
 | ext φ=>obtain ⟨_,⟨_,e⟩,_⟩:=x; exact ⟨_,e⟩
section
variable {X:Cx} {pins:List (Addr × Obj)} {σ:St} {H:Hp} {s:Shared} {h':Heap}
theorem Inv.held {ex:List Addr} {t':Nat} (I:Inv X pins σ H s) (hX:X.ex=[]) (x:Held (frs X.stack) ex s.heap h') (hH:∀ b∈ex,H b=none) (h0:∀ b∈ex,X.s₀.heap.get? b=none) (hl:∀ b∈ex,b≠X.env.locals) (hc:∀ b∈ex,∀ y c,X.env.cells.lookup y=some c→c≠b)
  (hp:∀ b∈ex,∀ p∈X.pn++pins,p.1≠b):Inv X pins σ H { s with heap:=h',toks:=t' }:=by
 have hok:HOk X.prog X.w H h':=HOk.held I.hok x I.stkFree hH
 have stk:∀ b,b≠X.env.locals→b∉X.fs→b∉frs X.stack:=fun b h1 h2 hb=>(List.mem_cons.mp (I.stkSub b hb)).elim h1 h2
 have nex:∀ b o,X.s₀.heap.get? b=some o→b∉ex:=fun b o e hb=>by rw [h0 b hb] at e; cases e
 have anyS:∀ b o,s.heap.get? b=some o→b∉ex→∃ sl,h'.get? b=some { o with slots:=sl }:=fun b o e hb=>by
  by_cases z:b∈frs X.stack
  ·exact x.slot b o e z hb
  ·exact ⟨o.slots,x.keep b o e z hb⟩
 have cellK:∀ y c,X.env.cells.lookup y=some c→∀ v,s.heap.IsCell c v→h'.IsCell c v:=fun y c e v ⟨o,ho,hd⟩=>by
  obtain ⟨sl,q⟩:=anyS c o ho fun z=>hc c z y c e rfl
  exact ⟨_,q,hd⟩
 have neL:∀ b o,X.s₀.heap.get? b=some o→b≠X.env.locals:=fun b o e=>Nat.ne_of_lt (Nat.lt_of_lt_of_le (Heap.lt_size e) I.ok.above)
 refine ⟨I.ok,I.os,I.bare,⟨fun b o e n hb hx=>?_,fun b o e n hb hx=>?_,fun b o e n hx=>I.base.free b o e n hx,fun b o e hx=>?_,I.base.tups,I.base.frzs,I.base.tbls⟩,?_,fun y c e=>?_,I.free,I.freeC,fun p hp'=>?_,hok,I.len⟩
 ·exact x.keep b o (I.base.keep b o e n hb hx) (stk b (neL b o e) hb) (nex b o e)
 ·obtain ⟨sl,e1⟩:=I.base.slot b o e n hb hx
  obtain ⟨sl',e2⟩:=anyS b _ e1 (nex b o e)
  exact ⟨sl',e2⟩
 ·obtain ⟨o',e1⟩:=I.base.there b o e hx
  exact x.there e1 (nex b o e)
 ·obtain ⟨m,⟨oL,es,ep,ho,hd,hk,hf⟩,hl'⟩:=I.loc
  obtain ⟨sl,q⟩:=anyS _ oL ho fun z=>hl _ z rfl
  refine ⟨m,⟨_,es,ep,q,hd,hk,hf⟩,fun i y v e1 e2 e3=>?_⟩
  obtain ⟨u,r,l⟩:=hl' i y v e1 e2 e3
  refine ⟨u,r,?_⟩
  rcases l with l | ⟨k,c,e,z⟩
  ·exact .inl l
  ·exact .inr ⟨k,c,e,cellK y c e _ z⟩
 ·obtain ⟨v,z⟩:=I.cell y c e
  exact ⟨v,cellK y c e v z⟩
 ·obtain ⟨e,n,ne,nf,d⟩:=I.pin p hp'
  exact ⟨x.keep p.1 p.2 e (stk p.1 ne nf) fun z=>hp p.1 z p hp' rfl,n,ne,nf,d⟩
end
def Fly (h0:Heap) (H:Hp) (h:Heap) (e:Addr) (cls:Value):Prop :=
 ∃ oe vs T oT ts a0,h.get? e=some oe∧oe.cls=cls∧oe.data=.fields vs∧vs[0]?=some a0∧vs[1]?=some (.ref T)∧T≠e∧h.get? T=some oT∧oT.data=.fields ts∧ts[3]?=some .none∧h0.get? e=none∧h0.get? T=none∧H e=none∧H T=none
def CX1 (P:Program) (w:World):CXT:=fun outer H s E e s'=>∃ ea cls H',e=.ref ea∧s'.os=s.os∧AllBare s'.gens∧Un (frs outer) [] H H' s.heap s'.heap∧HOk P w H' s'.heap∧Fly s.heap H' s'.heap ea cls∧E cls none H'
theorem held_of {h h':Heap} {fs ex:List Addr} (st:(PySem.W.hideAll h (ex++fs)).StaysIn h') (up:h.UpToSlots h') (hf:∀ b∈fs,∀ o,h.get? b=some o→∀ vs,o.data≠.fields vs):Held fs ex h h' :=
 ⟨fun b o e h1 h2=>st b o (PySem.W.hideAll_get _ e fun z=>(List.mem_append.mp z).elim h2 h1),fun b o e h1 _=>up b o e (hf b h1 o e)⟩
theorem fly_of {P:Program} {w:World} {h0 h h':Heap} {H:Hp} {fs ex:List Addr} {e:Addr} {cls a0:Value} (tr:h'.TracedW (PySem.W.hideAll h (ex++fs)) e cls a0) (d:Held fs ex h h') (hin:∀ b,h.get? b=none→h0.get? b=none) (k:HOk P w H h)
  (hx:∀ b∈ex,h0.get? b=none∧H b=none) (hf:∀ b∈fs,∃ o,h.get? b=some o∧∀ vs,o.data≠.fields vs) (he:e∈ex):Fly h0 H h' e cls:=by
 obtain ⟨oe,vs,T,oT,ts,g1,⟨g2,g3⟩,g4,g5,g6,g7,g8,g9,g10⟩:=tr
 have hT:h0.get? T=none∧H T=none:=by
  cases q:h.get? T with
  | none =>
   refine ⟨hin T q,?_⟩
   cases z:H T with
   | none=>rfl
   | some u =>
    obtain ⟨ob,y⟩:=(k T u z).obj
    rw [q] at y
    cases y
  | some o =>
   by_cases hm:T∈ex++fs
   ·rcases List.mem_append.mp hm with z | z
    ·exact hx T z
    ·by_cases zx:T∈ex
     ·exact hx T zx
     ·obtain ⟨o2,y1,y2⟩:=hf T z
      obtain ⟨sl,y3⟩:=d.slot T o2 y1 z zx
      rw [g8] at y3
      have y4:oT={ o2 with slots:=sl }:=Option.some.inj y3
      rw [y4] at g9
      exact absurd g9 (y2 ts)
   ·rw [PySem.W.hideAll_get _ q hm] at g6
    cases g6
 exact ⟨oe,vs,T,oT,ts,a0,g1,g2,g4,g3,g5,g7,g8,g9,g10,(hx e he).1,hT.1,(hx e he).2,hT.2⟩
section
variable {X:Cx} {pins:List (Addr × Obj)} {σ:St} {H:Hp} {s:Shared}
theorem Inv.frObj (I:Inv X pins σ H s):∀ b∈frs X.stack,∃ o,s.heap.get? b=some o∧∀ vs,o.data≠.fields vs:=fun b hb=>(I.stack.mem hb).2
theorem Inv.in0 (I:Inv X pins σ H s) (hX:X.ex=[]):∀ b,s.heap.get? b=none→X.s₀.heap.get? b=none:=fun b e=>by
 cases q:X.s₀.heap.get? b with
 | none=>rfl
 | some o =>
  obtain ⟨o',y⟩:=I.base.there b o q (by rw [hX]; simp)
  rw [e] at y
  cases y
theorem Inv.fun_hide (I:Inv X pins σ H s) (ex:List Addr):s.heap.FunFrames (PySem.W.hideAll s.heap (ex++frs X.stack)) X.stack :=
 PySem.W.funFrames_hide I.stack fun env he a hf=>List.mem_append_right _ (List.mem_filterMap.mpr ⟨env,he,hf⟩)
theorem Inv.far (I:Inv X pins σ H s) {b:Addr} (e:s.heap.get? b=none):b≠X.env.locals∧(∀ y c,X.env.cells.lookup y=some c→c≠b)∧∀ p∈X.pn++pins,p.1≠b:=by
 refine ⟨fun z=>?_,fun y c q z=>?_,fun p hp z=>?_⟩
 ·obtain ⟨m,⟨o,_,_,ho,_⟩,_⟩:=I.loc
  rw [← z,e] at ho
  cases ho
 ·obtain ⟨v,o,ho,_⟩:=I.cell y c q
  rw [z,e] at ho
  cases ho
 ·have:=(I.pin p hp).1
  rw [z,e] at this
  cases this
end
structure Up (X:Cx) (pins:List (Addr × Obj)) (σ:St) (H:Hp) (s:Shared) (e:Addr) (cls:Value):Prop where
 inv:Inv X pins σ H s
 fly:Fly X.s₀.heap H s.heap e cls
 far:∀ b,(b=e∨∃ oe vs,s.heap.get? e=some oe∧oe.data=.fields vs∧vs[1]?=some (.ref b))→b≠X.env.locals∧(∀ y c,X.env.cells.lookup y=some c→c≠b)∧∀ p∈X.pn++pins,p.1≠b
section
variable {X:Cx} {pins:List (Addr × Obj)} {σ:St} {H H':Hp} {s s':Shared} {E:XK} {e:Value}
theorem Inv.arrives (I:Inv X pins σ H s) (hX:X.ex=[]) (h:CX1 X.prog X.w X.stack H s E e s'):∃ ea cls H',e=.ref ea∧Up X pins σ H' s' ea cls∧E cls none H':=by
 obtain ⟨ea,cls,H',rfl,os,bare,un,hok,fl,q⟩:=h
 refine ⟨ea,cls,H',rfl,⟨I.call' (ch:=[]) os un hok bare (fun b z=>absurd z (by simp)),?_,?_⟩,q⟩
 ·obtain ⟨oe,vs,T,oT,ts,a0,g1,g2,g3,g4,g5,g6,g7,g8,g9,g10,g11,g12,g13⟩:=fl
  exact ⟨oe,vs,T,oT,ts,a0,g1,g2,g3,g4,g5,g6,g7,g8,g9,I.in0 hX _ g10,I.in0 hX _ g11,g12,g13⟩
 ·obtain ⟨oe,vs,T,oT,ts,a0,g1,g2,g3,g4,g5,g6,g7,g8,g9,g10,g11,g12,g13⟩:=fl
  rintro b (rfl | ⟨oe',vs',y1,y2,y3⟩)
  ·exact I.far g10
  ·rw [g1] at y1
   cases y1
   rw [g3] at y2
   cases y2
   rw [g5] at y3
   cases y3
   exact I.far g11
theorem Up.leaves {P:Program} {w:World} {K:PySem.W.Frag} {mg:Str→Option Value} {base:Heap} {N:List Str} {qual:Str} {scope:Scope} {f:Addr} {cd:Value} {A:Around} {outer:List Env} {s0:Shared} {H0:Hp} {E:XK} {ea:Addr} {cls:Value}
  (U:Up (cxOf (CX1 P w) P w K mg base N qual scope f cd A outer s0 H0 E) pins σ H s ea cls) (q:E cls none H):(cxOf (CX1 P w) P w K mg base N qual scope f cd A outer s0 H0 E).xe (.ref ea) s:=by
 obtain ⟨I,fl,far⟩:=U
 obtain ⟨oe,vs,T,oT,ts,a0,g1,g2,g3,g4,g5,g6,g7,g8,g9,g10,g11,g12,g13⟩:=id fl
 have hx:∀ b∈[ea,T],s0.heap.get? b=none∧H b=none:=fun b hb=>by
  rcases List.mem_cons.mp hb with z | z
  ·rw [z]; exact ⟨g10,g12⟩
  ·rw [List.mem_singleton.mp z]; exact ⟨g11,g13⟩
 have hfar:∀ b∈[ea,T],_:=fun b hb=>far b (by
  rcases List.mem_cons.mp hb with z | z
  ·exact .inl z
  ·exact .inr ⟨oe,vs,g1,g3,by rw [List.mem_singleton.mp z]; exact g5⟩)
 refine wpAny_leaving_nextW (base:=PySem.W.hideAll s.heap ([ea,T]++frs (cxOf (CX1 P w) P w K mg base N qual scope f cd A outer s0 H0 E).stack)) (L:=(cxOf (CX1 P w) P w K mg base N qual scope f cd A outer s0 H0 E).env.locals) (a0:=a0) (cls:=cls) I.ok.frames (I.fun_hide _) rfl
  ⟨oe,vs,T,oT,ts,g1,⟨g2,g4⟩,g3,g5,PySem.W.hideAll_none _ (by simp),g6,g7,g8,g9⟩ (fun b o y=>PySem.W.of_hideAll _ y) (PySem.W.hideAll_none _ (by simp)) fun h' hL=>?_
 obtain ⟨k1,k2,k3,k4⟩:=hL
 have d:=held_of k1 k4 fun b hb o ho vs=>by
  obtain ⟨o',y1,y2⟩:=I.frObj b hb
  rw [ho] at y1
  cases y1
  exact y2 vs
 have I':=I.held (t':=s.toks) rfl d (fun b hb=>(hx b hb).2) (fun b hb=>(hx b hb).1) (fun b hb=>(hfar b hb).1) (fun b hb=>(hfar b hb).2.1) fun b hb=>(hfar b hb).2.2
 exact ⟨ea,cls,H,rfl,I'.os,I'.bare,I'.base,I'.hok,fly_of k3 d (I.in0 rfl) I.hok hx I.frObj (by simp),q⟩
theorem pass1 {P:Program} {w:World} {K:PySem.W.Frag} {mg:Str→Option Value} {base:Heap} {N:List Str} {qual:Str} {scope:Scope} {f:Addr} {cd:Value} {A:Around} {outer:List Env} {s0:Shared} {H0:Hp} {E E':XK} (hE:∀ c H,E' c none H→E c none H) :
  Passes (CX1 P w) (cxOf (CX1 P w) P w K mg base N qual scope f cd A outer s0 H0 E) E':=fun pins σ H s e s' I h=>by
 obtain ⟨ea,cls,H',rfl,U,q⟩:=I.arrives rfl h
 exact U.leaves (hE _ _ q)
end
end L2
set_option Elab.async false
set_option linter.all false
set_option maxRecDepth 100000
namespace L2
open PySem PySem.Spec PyProof.Rows
abbrev TJ:=St→Hp→(Hp→Prop)→Prop
def PJ (X:Cx) (es:List Expr) (n:Nat) (t:TJ):Prop :=
 ∀ (pins:List (Addr × Obj)) (s:Shared) (σ:St) (H:Hp) (out:Str) (Q:Hp→Prop),Inv X pins σ H s→out.length+n≤sizeLine→t σ H Q →
  wpAny (model X.prog X.w) X.A (joinParts out (evalEach es X.env)) (fun v s'=>∃ y tk,v=.str y tk∧∃ H',Inv X pins σ H' s'∧Q H') X.xe s
section
variable {X:Cx}
theorem pj_nil:PJ X [] 0 (fun σ H Q=>Q H):=fun pins s σ H out Q I hz q =>
 joinParts_nil ⟨out,_,rfl,H,I.kept (h':=s.heap) (t':=s.toks+1) fun _ _ e=>e,q⟩ (by omega)
def jPart (te:TE) (m:Nat) (t:TJ):TJ:=fun σ H Q=>te σ H fun v H1=>∃ y:Str,v=.str y∧y.length≤m∧t σ H1 Q
theorem z2d {e:Expr} {es:List Expr} {te:TE} {n:Nat} {t:TJ} (m:Nat) (he:PE X e te) (h:PJ X es n t) (hv:evalEach (e::es) X.env=eval e X.env::evalEach es X.env:=by rfl):PJ X (e::es) (n+m) (jPart te m t):=by
 intro pins s σ H out Q I hz hq
 rw [hv]
 refine joinParts_cons (thn (he pins s σ H _ I hq) fun v s1 ⟨x,H1,I1,r1,y,ex,hy,q⟩=>?_)
 subst ex
 obtain ⟨tk,rfl⟩:∃ tk,v=.str y tk:=r1
 have hl:(out++y).length=out.length+y.length:=strLen_append out y
 exact ⟨by rw [hl]; omega,h pins s1 σ H1 (out++y) Q I1 (by rw [hl]; omega) q⟩
def tFmt (te:TE):TE:=fun σ H Q=>te σ H fun v H1=>∃ i:Int,v=.int i∧i.natAbs.log2<1920∧Q (.str (toString i)) H1
theorem pe_fmt {e:Expr} {te:TE} {pos:Pos} (he:PE X e te):PE X (.FormattedValue e (-1) none pos) (tFmt te):=by
 intro pins s σ H Q I hq
 refine FormattedValue_plain (thn (he pins s σ H _ I hq) fun v s1 ⟨x,H1,I1,r1,i,ex,hi,q⟩=>?_)
 subst ex
 obtain ⟨tk,rfl⟩:∃ tk,v=.int i tk:=r1
 exact formatField_int_small hi ⟨.str (toString i),H1,I1.kept (h':=s1.heap) (t':=s1.toks+1+1) fun _ _ e=>e,⟨_,rfl⟩,q⟩
theorem pe_joined {e1 e2:Expr} {es:List Expr} {n:Nat} {t:TJ} {pos:Pos} (h:PJ X (e1::e2::es) n t) (hn:n≤sizeLine:=by decide) (hv:evalEach (e1::e2::es) X.env=eval e1 X.env::eval e2 X.env::evalEach es X.env:=by rfl) :
  PE X (.JoinedStr (e1::e2::es) pos) (fun σ H Q=>t σ H fun H1=>∀ y:Str,Q (.str y) H1):=by
 intro pins s σ H Q I hq
 refine JoinedStr_many ?_
 rw [← hv]
 refine thn (h pins s σ H Str.empty _ I (by have:(Str.empty).length=0:=rfl; omega) hq) fun v s1 ⟨y,tk,ev,H1,I1,q⟩=>?_
 subst ev
 exact ⟨.str y,H1,I1,⟨tk,rfl⟩,q y⟩
theorem z2j {i:Int} (h:i.natAbs.log2<1920):(toString i:Str).length≤1921:=by
 have e:=int_text_length_le (k:=1920) (by decide) h
 show (Str.ofString (toString i)).length≤1921
 rw [PySem.ofString_length]
 omega
theorem small_log {i:Int} (h:i.natAbs<2 ^ 1900):i.natAbs.log2<1920:=by
 by_cases z:i.natAbs=0
 ·rw [z]
  decide
 ·exact (Nat.log2_lt z).mpr (Nat.lt_trans h (Nat.pow_lt_pow_right (by decide) (by decide)))
end
theorem own_in {K:PySem.W.Frag} {h:Heap} {mg:Str→Option Value} {x:Str} {C:Addr} {bmB:List Value} {newId:String} (X:K.In h) (hb:mg x=some (.ref C)) (q:PySem.W.excIn K C bmB newId=true):OwnCls x C bmB newId mg h:=by
 constructor
 ·exact hb
 ·unfold PySem.W.excIn at q
  split at q
  case h_2=>cases q
  case h_1 dd cd sl ho =>
   split at q
   case h_2=>cases q
   case h_1 C' bm k0 k1 k2 k3 n k5 hm hs =>
    rw [Bool.and_eq_true,Bool.and_eq_true,Bool.and_eq_true,Bool.and_eq_true,Bool.and_eq_true] at q
    obtain ⟨⟨⟨⟨⟨q1,q2⟩,q3⟩,q4⟩,q5⟩,q6⟩:=q
    have e1:=beq_iff_eq.mp q1
    have e2:=beq_iff_eq.mp q2
    have e6:=beq_iff_eq.mp q6
    have e3:cd.hasDel=false:=by simpa using q3
    subst e1 e2
    cases cd with
    | mk nm bs mro ns qn hd sn sub ab col del =>
     cases sl with
     | mk l =>
      have hm:mro=_:=hm
      have hs:l=_:=hs
      have e3:del=false:=e3
      subst hm hs e3
      exact ⟨bm,ns,nm,qn,bs,hd,sn,sub,ab,col,dd,k0,k1,k2,k3,k5,_,X _ _ ho,.of_isNs (PySem.W.isNs_of_in X q5),PySem.W.nsMap_none_of_in X q5 e6,PySem.W.tail_of_in X q4⟩
section
variable {P:Program} {w:World} {K:PySem.W.Frag} {mg:Str→Option Value} {base:Heap} {N:List Str} {qual:Str} {scope:Scope} {f:Addr} {cd:Value} {A:Around} {outer:List Env} {s0:Shared} {H0:Hp} {E:XK} {pins:List (Addr × Obj)} {σ:St} {H:Hp} {s:Shared}
theorem Inv.thrown {h':Heap} {ea:Addr} {cls:Value} {args:List Value} (I:Inv (cxOf (CX1 P w) P w K mg base N qual scope f cd A outer s0 H0 E) pins σ H s) (hx:Heap.MadeExcOf s.heap h' ea cls args) (q:E cls none H) :
  (cxOf (CX1 P w) P w K mg base N qual scope f cd A outer s0 H0 E).xe (.ref ea) { s with heap:=h' }:=by
 have far:=I.far hx.new
 have n0:s0.heap.get? ea=none:=I.in0 rfl _ hx.new
 have nH:H ea=none:=by
  cases z:H ea with
  | none=>rfl
  | some u =>
   obtain ⟨ob,y⟩:=(I.hok ea u z).obj
   rw [hx.new] at y
   cases y
 have I1:=I.kept (t':=s.toks) hx.keeps
 obtain ⟨t,he,_,_⟩:=hx.there
 have hx1:∀ b∈[ea],s0.heap.get? b=none∧H b=none:=fun b hb=>by rw [List.mem_singleton.mp hb]; exact ⟨n0,nH⟩
 refine wpAny_leaving_firstW (s:={ s with heap:=h' }) (base:=PySem.W.hideAll h' ([ea]++frs (cxOf (CX1 P w) P w K mg base N qual scope f cd A outer s0 H0 E).stack)) (L:=(cxOf (CX1 P w) P w K mg base N qual scope f cd A outer s0 H0 E).env.locals) (a0:=.ref t) I1.ok.frames (I1.fun_hide _) rfl
  he (fun b o y=>PySem.W.of_hideAll _ y) (PySem.W.hideAll_none _ (by simp)) rfl rfl rfl fun h2 hL=>?_
 obtain ⟨k1,k2,k3,k4⟩:=hL
 have d:=held_of k1 k4 fun b hb o ho vs=>by
  obtain ⟨o',y1,y2⟩:=I1.frObj b hb
  rw [ho] at y1
  cases y1
  exact y2 vs
 have I2:=I1.held (t':=s.toks) rfl d (fun b hb=>(hx1 b hb).2) (fun b hb=>(hx1 b hb).1) (fun b hb=>by rw [List.mem_singleton.mp hb]; exact far.1) (fun b hb=>by rw [List.mem_singleton.mp hb]; exact far.2.1) fun b hb=>by rw [List.mem_singleton.mp hb]; exact far.2.2
 exact ⟨ea,cls,H,rfl,I2.os,I2.bare,I2.base,I2.hok,fly_of k3 d (I1.in0 rfl) I1.hok hx1 I1.frObj (by simp),q⟩
def sRaise (C:Addr) (E:XK) (te:TE):TS:=fun _ σ H=>te σ H fun _ H1=>E (.ref C) none H1
theorem ps_raise {x:Str} {C:Addr} {bm:List Value} {newId initId B:String} {e:Expr} {te:TE} {np cpos pos:Pos} (hC:PySem.W.excIn K C bm newId=true) (hm:mg x=some (.ref C)) (FB:ExcBaseFacts B newId initId bm) (hg:Gl (cxOf (CX1 P w) P w K mg base N qual scope f cd A outer s0 H0 E) x)
  (he:PE (cxOf (CX1 P w) P w K mg base N qual scope f cd A outer s0 H0 E) e te) (hd:(x == ("__debug__":Str))=false:=by decide)
  (hs:starEach [e] (cxOf (CX1 P w) P w K mg base N qual scope f cd A outer s0 H0 E).env=[(false,eval e (cxOf (CX1 P w) P w K mg base N qual scope f cd A outer s0 H0 E).env)]:=by rfl) :
  PS (cxOf (CX1 P w) P w K mg base N qual scope f cd A outer s0 H0 E) (.Raise (some (.Call (.Name x np) [e] [] cpos)) none pos) (sRaise C E te):=by
 intro pins s σ H D I h
 have O:=own_in (bmB:=bm) (newId:=newId) I.ok.mod.kin hm hC
 obtain ⟨tl,Nn,nm,q,bs,hdct,sn,sub,ab,col,dd,k0,k1,k2,k3,k5,mN,hCo,hN,hni,T⟩:=O.obj
 refine wpAny_Raise_call_subT (C:=C) (nm:=nm) (q:=q) (N:=Nn) (bs:=bs) (bm:=tl) (hdct:=hdct) (sn:=sn) (sub:=sub) (ab:=ab) (col:=col) (dd:=dd) (k0:=k0) (k1:=k1) (k2:=k2) (k3:=k3) (k5:=k5)
  FB (mN:=mN) (T.hasType FB.hasBase) (I.ok.hd rfl) (by rw [hs]; rfl) hni (ld_glob I hg hm ⟨rfl,?_⟩ hd)
 rw [hs]
 refine Calls.evalArgs_plain ?_
 show wpAny _ _ (spliced [(false,eval e (cxOf (CX1 P w) P w K mg base N qual scope f cd A outer s0 H0 E).env)]) _ _ s
 refine Calls.spliced_cons (thn (he pins s σ H _ I h) fun u s1 ⟨v,H1,I1,r1,q1⟩=>?_)
 refine Calls.spliced_nil ⟨rfl,by show 1≤sizeLine; decide,I1.bk _ _ hCo,hN.keeps I1.bk,T.keeps I1.bk,fun h' ea hx=>?_⟩
 exact I1.thrown hx q1
end
section
variable {P:Program} {w:World} {K:PySem.W.Frag} {mg:Str→Option Value} {base:Heap}
theorem Fun.okX {x qual:Str} {st:Stmt} {f:Addr} {fd:FuncData} {N ps:List Str} {k:Nat} {sp:Sp} (F:Fun K x qual st f fd) (S:z0h N ps (z06 st)) (len:∀ vs H Q E,sp vs H Q E→vs.length=ps.length)
  (hbody:∀ (cdv:Value) (A:Around) (outer:List Env) (s:Shared) (H:Hp) (vs:List V) (Q:VK) (E:XK),Room k (A.deeper (envOfC qual (z06 st) s.heap.objs.size f cdv))→sp vs H Q E →
   ∃ t,PSs (cxOf (CX1 P w) P w K mg base N qual (z06 st) f cdv A outer s H E) (z0c st) t∧t { nx:=fun _ H'=>Q .non H',rt:=Q } (start N vs) H):FnOk P w K mg base (CX1 P w) (k+1) f fd ps sp:=by
 obtain ⟨oc,od,kV,doc,pm,an,cdv,ct,osl,rfl,lk,hcd⟩:=F.ex
 exact fn_of lk hcd S len fun A outer s H vs Q E hr hsp=>hbody cdv A outer s H vs Q E hr hsp
end
end L2
set_option Elab.async false
set_option linter.all false
set_option maxRecDepth 100000
namespace L2
open PySem PySem.Spec PyProof.Rows
def tryX (X:Cx) (pp:List (Addr × Obj)) (cs:List (Addr × Str)) (Q:VK):Cx :=
 { X with pn:=X.pn++pp,xe:=fun e s'=>∃ ea C r σ H,e=.ref ea∧Up X pp σ H s' ea (.ref C)∧cs.lookup C=some r∧Q (.str r) H }
theorem Inv.toTry {X:Cx} {pp:List (Addr × Obj)} {cs:List (Addr × Str)} {Q:VK} {σ:St} {H:Hp} {s:Shared} (I:Inv X pp σ H s):Inv (tryX X pp cs Q) [] σ H s :=
 ⟨⟨I.ok.mod,I.ok.kind,I.ok.glob,I.ok.blt,I.ok.above,I.ok.inj,I.ok.has,I.ok.cab,I.ok.hd,I.ok.frames,I.ok.stk,I.ok.exf,I.ok.bs,I.ok.bsz,I.ok.noex,I.ok.exfs,I.ok.funs,I.ok.frf⟩,I.os,I.bare,I.base,I.loc,I.cell,I.free,I.freeC,fun p hp=>I.pin p (by
  have hp:p∈(X.pn++pp)++[]:=hp
  rw [List.append_nil] at hp
  exact hp),I.hok,I.len⟩
theorem Inv.ofTry {X:Cx} {pp pins:List (Addr × Obj)} {cs:List (Addr × Str)} {Q:VK} {σ:St} {H:Hp} {s:Shared} (I:Inv (tryX X pp cs Q) pins σ H s):Inv X pp σ H s :=
 ⟨⟨I.ok.mod,I.ok.kind,I.ok.glob,I.ok.blt,I.ok.above,I.ok.inj,I.ok.has,I.ok.cab,I.ok.hd,I.ok.frames,I.ok.stk,I.ok.exf,I.ok.bs,I.ok.bsz,I.ok.noex,I.ok.exfs,I.ok.funs,I.ok.frf⟩,I.os,I.bare,I.base,I.loc,I.cell,I.free,I.freeC,fun p hp=>I.pin p (List.mem_append_left _ hp),I.hok,I.len⟩
theorem passT {X:Cx} {P:Program} {w:World} {pp:List (Addr × Obj)} {cs:List (Addr × Str)} {Q:VK} {E:XK} (hP:X.prog=P) (hw:X.w=w) (hX:X.ex=[]) (hE:∀ c H,E c none H→∃ C r,c=.ref C∧cs.lookup C=some r∧Q (.str r) H):Passes (CX1 P w) (tryX X pp cs Q) E:=by
 subst hP hw
 intro pins σ H s e s' I h
 have I0:=I.ofTry
 obtain ⟨ea,cls,H',rfl,U,q⟩:=I0.arrives hX h
 obtain ⟨C,r,rfl,hr,hq⟩:=hE _ _ q
 exact ⟨ea,C,r,σ,H',rfl,U,hr,hq⟩
inductive Clauses (X:Cx):List ExceptHandler→List (Addr × Str)→Prop where
 | nil:Clauses X [] []
 | cons {x:Str} {np rp cp pos:Pos} {r:Str} {k:Nat} {C:Addr} {hs:List ExceptHandler} {cs:List (Addr × Str)} (hm:X.mg x=some (.ref C)) (hg:Gl X x) (hd:(x == ("__debug__":Str))=false) (h:Clauses X hs cs) :
   Clauses X (.ExceptHandler (some (.Name x np)) none [.Return (some (.Constant (.str r) k cp)) rp] pos::hs) ((C,r)::cs)
def sTry (Q:VK) (tb:TS):TS:=fun D σ H=>(∀ v H,Q v H→D.rt v H)∧tb D σ H
section
variable {X:Cx} {pp:List (Addr × Obj)} {σ:St} {H:Hp}
structure Lies (X:Cx) (pp:List (Addr × Obj)) (σ:St) (H:Hp) (s1:Shared) (ex:List Addr) (ea:Addr) (cls a0:Value) (s:Shared):Prop where
 inv:Inv X pp σ H s
 fl:Heap.FlyingW (PySem.W.hideAll s1.heap (ex++frs X.stack)) X.stack ea cls a0 s.heap
 up:s1.heap.UpToSlots s.heap
 eq:∃ h',s={ s1 with heap:=h' }
def markX (X:Cx) (e:Value):Cx:={ X with A:=X.A.mark (some e),calm:=false }
theorem Inv.toMark {e:Value} {s:Shared} (I:Inv X pp σ H s):Inv (markX X e) pp σ H s :=
 ⟨⟨I.ok.mod,I.ok.kind,I.ok.glob,I.ok.blt,I.ok.above,I.ok.inj,I.ok.has,I.ok.cab,(fun z=>absurd (show false=true from z) Bool.false_ne_true),I.ok.frames,I.ok.stk,I.ok.exf,I.ok.bs,I.ok.bsz,I.ok.noex,I.ok.exfs,I.ok.funs,I.ok.frf⟩,I.os,I.bare,I.base,I.loc,I.cell,I.free,I.freeC,I.pin,I.hok,I.len⟩
theorem Inv.ofMark {e:Value} {s:Shared} (I:Inv (markX X e) pp σ H s) (hd:X.calm=true→X.A.handled=none):Inv X pp σ H s :=
 ⟨⟨I.ok.mod,I.ok.kind,I.ok.glob,I.ok.blt,I.ok.above,I.ok.inj,I.ok.has,I.ok.cab,hd,I.ok.frames,I.ok.stk,I.ok.exf,I.ok.bs,I.ok.bsz,I.ok.noex,I.ok.exfs,I.ok.funs,I.ok.frf⟩,I.os,I.bare,I.base,I.loc,I.cell,I.free,I.freeC,I.pin,I.hok,I.len⟩
theorem clauses_run {M:Addr} {e0:Env} {outer:List Env} {ea C:Addr} {r:Str} {a0:Value} {h1:Shared} {ex:List Addr} {Qf:Flow→Shared→Prop} {Ex:Value→Shared→Prop}
  (land:∀ (Af:Around) (s:Shared) (Q':Unit→Shared→Prop) (E':Value→Shared→Prop),Lies X pp σ H h1 ex ea (.ref C) a0 s→(∀ s',Lies X pp σ H h1 ex ea (.ref C) a0 s'→Q' () s')→wpAny (model X.prog X.w) Af (setFlight (.ref ea) none) Q' E' s)
  (fin:∀ (σ':St) (s:Shared) (u:Value),Inv X pp σ' H s→RelV (.str r) u→Qf (.ret u) s) :
  ∀ {hs:List ExceptHandler} {cs:List (Addr × Str)},Clauses X hs cs→(∀ p∈cs,PySem.W.exmOne X.K (.ref C) (.ref p.1)=some (C == p.1))→cs.lookup C=some r →
   ∀ s,Lies X pp σ H h1 ex ea (.ref C) a0 s→wpAny (model X.prog X.w) X.A (handleBy (.ref ea) X.env hs) Qf Ex s:=by
 intro hs cs hc
 induction hc with
 | nil=>intro _ hl; cases hl
 | @cons x np rp cp pos r' k C' hs cs hm gx hd hc ih =>
  intro hx hl s L
  refine wpAny_handleBy_cons ?_ (by intro q; cases q)
  have I:=L.inv
  refine codeAny_handlers_test ?_
  have I2:Inv (markX X (.ref ea)) pp σ H s:=I.toMark
  refine ld_glob (X:=markX X (.ref ea)) I2 gx hm ?_ hd
  have hty:PySem.W.Looks (model X.prog X.w) s.heap (typeOf (.ref ea)) (.ref C):=by
   obtain ⟨ob,hob,hc⟩:=L.fl.there
   rw [← hc]
   exact (PySem.W.Looks.ld hob).andThen .now
  refine (PySem.W.exm_one (M:=model X.prog X.w) I.kIn hty (hx _ List.mem_cons_self)).here ?_
  cases e:C == C' with
  | true =>
   refine codeAny_handlers_suite (land _ s _ _ L fun s' L'=>?_)
   have er:r'=r:=by
    rw [List.lookup_cons] at hl
    rw [show (C == C')=true from e] at hl
    exact Option.some.inj hl
   subst er
   have I3:Inv ((markX X (.ref ea)).wish (notedBy (model X.prog X.w) (X.A.mark (some (.ref ea))) X.env fun x s₂=>cameBackBy (model X.prog X.w) X.A X.env Ex x s₂)) pp σ H s':=(L'.inv.toMark).wish _
   refine thn (z04 (z0q z0a) pp s' σ H { nx:=fun _ _=>False,rt:=fun v H'=>v=.str r'∧H'=H } I3 ⟨rfl,rfl⟩) fun fl s2 hs2=>?_
   cases fl with
   | ret u =>
    obtain ⟨v,σ2,H2,I4,rv,rfl,rfl⟩:=hs2
    exact fin σ2 s2 u (I4.unwish.ofMark I.ok.hd) rv
   | next=>obtain ⟨_,_,_,z⟩:=hs2; exact z.elim
   | brk=>obtain ⟨_,_,_,z⟩:=hs2; exact z.elim
   | cont=>obtain ⟨_,_,_,z⟩:=hs2; exact z.elim
  | false =>
   refine ih (fun p hp=>hx p (List.mem_cons_of_mem _ hp)) ?_ s L
   rw [List.lookup_cons,show (C == C')=false from e] at hl
   exact hl
theorem ps_try {body:List Stmt} {h₀:ExceptHandler} {hs:List ExceptHandler} {cs:List (Addr × Str)} {Q:VK} {tb:TS} {pos:Pos} {e0:Env} {outer:List Env} (hX:X.ex=[]) (hst:X.stack=X.env::X.outer) (hf:X.env.frame=some X.env.locals) (hc:Clauses X (h₀::hs) cs)
  (hx:∀ p∈cs,∀ q∈cs,PySem.W.exmOne X.K (.ref p.1) (.ref q.1)=some (p.1 == q.1))
  (hb:∀ pp,PSs (tryX X pp cs Q) body tb):PS X (.Try body (h₀::hs) [] [] pos) (sTry Q tb):=by
 intro pins s σ H D I h
 obtain ⟨hQ,h⟩:=h
 refine wpAny_Try_except (wpAny_mono (hb pins [] s σ H D I.toTry h) (fun fl s1 h1=>?_) fun e s1 h1=>?_)
 ·cases fl with
  | next =>
   obtain ⟨σ1,H1,I1,q1⟩:=h1
   show wpAny _ _ (execs [] X.env) _ _ s1
   exact wpAny_pure ⟨σ1,H1,I1.ofTry,q1⟩
  | brk=>obtain ⟨σ1,H1,I1,q1⟩:=h1; exact ⟨σ1,H1,I1.ofTry,q1⟩
  | cont=>obtain ⟨σ1,H1,I1,q1⟩:=h1; exact ⟨σ1,H1,I1.ofTry,q1⟩
  | ret u=>obtain ⟨v,σ1,H1,I1,rv,q1⟩:=h1; exact ⟨v,σ1,H1,I1.ofTry,rv,q1⟩
 ·obtain ⟨ea,C,r,σ1,H1,rfl,U,hl,q⟩:=h1
  obtain ⟨I1,fly,far⟩:=U
  obtain ⟨oe,vs,T,oT,ts,a0,g1,g2,g3,g4,g5,g6,g7,g8,g9,g10,g11,g12,g13⟩:=id fly
  have hex:∀ b∈[ea,T],X.s₀.heap.get? b=none∧H1 b=none:=fun b hb=>by
   rcases List.mem_cons.mp hb with z | z
   ·rw [z]; exact ⟨g10,g12⟩
   ·rw [List.mem_singleton.mp z]; exact ⟨g11,g13⟩
  have hfar:∀ b∈[ea,T],_:=fun b hb=>far b (by
   rcases List.mem_cons.mp hb with z | z
   ·exact .inl z
   ·exact .inr ⟨oe,vs,g1,g3,by rw [List.mem_singleton.mp z]; exact g5⟩)
  have hfl:Heap.FlyingW (PySem.W.hideAll s1.heap ([ea,T]++frs X.stack)) X.stack ea (.ref C) a0 s1.heap :=
   ⟨fun b o y=>PySem.W.of_hideAll _ y,PySem.W.hideAll_none _ (by simp),I1.fun_hide _,oe,vs,T,oT,ts,g1,⟨g2,g4⟩,g3,g5,PySem.W.hideAll_none _ (by simp),g6,g7,g8,g9⟩
  have mk:∀ s2:Shared,(∃ h',s2={ s1 with heap:=h' })→(PySem.W.hideAll s1.heap ([ea,T]++frs X.stack)).StaysIn s2.heap→s1.heap.UpToSlots s2.heap→Inv X pins σ1 H1 s2:=fun s2 ⟨h',e2⟩ st up=>by
   subst e2
   have d:=held_of st up fun b hb o ho vs=>by
    obtain ⟨o',y1,y2⟩:=I1.frObj b hb
    rw [ho] at y1
    cases y1
    exact y2 vs
   exact I1.held (t':=s1.toks) hX d (fun b hb=>(hex b hb).2) (fun b hb=>(hex b hb).1) (fun b hb=>(hfar b hb).1) (fun b hb=>(hfar b hb).2.1) fun b hb=>(hfar b hb).2.2
  have hfr:X.A.frames=some (X.env::X.outer):=by rw [← hst]; exact I1.ok.frames
  have hfl0:Heap.FlyingW (PySem.W.hideAll s1.heap ([ea,T]++frs X.stack)) (X.env::X.outer) ea (.ref C) a0 s1.heap:=by rw [← hst]; exact hfl
  refine wpAny_looks_onW (L:=X.env.locals) hfr hf hfl0 fun h4 held4 up4=>?_
  refine wpAny_landsW (s:={ s1 with heap:=h4 }) held4 fun h5 fl5 up5=>?_
  have fl5':Heap.FlyingW (PySem.W.hideAll s1.heap ([ea,T]++frs X.stack)) X.stack ea (.ref C) a0 h5:=by
   have z:=fl5
   rw [← hst] at z
   exact z
  have L5:Lies X pins σ1 H1 s1 [ea,T] ea (.ref C) a0 { s1 with heap:=h5 }:=⟨mk _ ⟨_,rfl⟩ fl5.1 (up4.trans up5),fl5',up4.trans up5,⟨_,rfl⟩⟩
  refine clauses_run (M:=ea) (e0:=X.env) (outer:=X.outer) (r:=r) (fun Af s2 Q' E' L hQ'=>?_) (fun σ' s2 u I2 rv=>⟨.str r,σ',H1,I2,rv,hQ _ _ q⟩) hc (fun p hp=>?_) hl _ L5
  ·refine lands_againW L.fl fun h6 fl6 up6=>hQ' _ ?_
   obtain ⟨h',rfl⟩:=L.eq
   exact ⟨mk _ ⟨h6,rfl⟩ fl6.1 (L.up.trans up6),fl6,L.up.trans up6,⟨h6,rfl⟩⟩
  ·obtain ⟨r',hm⟩:∃ r',(C,r')∈cs:=by
    refine ⟨r,?_⟩
    have:∀ {l:List (Addr × Str)},l.lookup C=some r→(C,r)∈l:=by
     intro l
     induction l with
     | nil=>intro z; cases z
     | cons a t ih =>
      intro z
      rw [List.lookup_cons] at z
      cases y:C == a.1 with
      | true =>
       rw [y] at z
       have z1:a.2=r:=Option.some.inj z
       have z2:C=a.1:=beq_iff_eq.mp y
       rw [← z1,z2]
       exact List.mem_cons_self
      | false =>
       rw [y] at z
       exact List.mem_cons_of_mem _ (ih z)
    exact this hl
   exact hx _ hm p hp
end
end L2
set_option Elab.async false
set_option linter.all false
set_option maxRecDepth 100000
namespace L2
open PySem
theorem upd_comm {H:Hp} {a b:Addr} {o u:HO} (h:a≠b):upd (upd H a o) b u=upd (upd H b u) a o:=by
 funext c
 by_cases h1:c=b
 ·subst h1
  rw [z02,z01 (Ne.symm h),z02]
 ·by_cases h2:c=a
  ·subst h2
   rw [z01 h1,z02,z02]
  ·rw [z01 h1,z01 h2,z01 h2,z01 h1]
def hf (c de st pu tk:Addr) (room begun bound:Int):List (Str × V) :=
 [("cellar",.ref c),("desk",.ref de),("room",.int room),("strokes",.ref st),("begins",.int begun),("puts",.ref pu),("takers",.ref tk),("bound",.int bound)]
section
variable (c de st pu tk:Addr) (room begun bound b':Int)
theorem hf_cellar:(hf c de st pu tk room begun bound).lookup ("cellar":Str)=some (.ref c):=by kernel_rfl
theorem z2x:(hf c de st pu tk room begun bound).lookup ("desk":Str)=some (.ref de):=by kernel_rfl
theorem hf_room:(hf c de st pu tk room begun bound).lookup ("room":Str)=some (.int room):=by kernel_rfl
theorem hf_strokes:(hf c de st pu tk room begun bound).lookup ("strokes":Str)=some (.ref st):=by kernel_rfl
theorem hf_begins:(hf c de st pu tk room begun bound).lookup ("begins":Str)=some (.int begun):=by kernel_rfl
theorem hf_puts:(hf c de st pu tk room begun bound).lookup ("puts":Str)=some (.ref pu):=by kernel_rfl
theorem hf_takers:(hf c de st pu tk room begun bound).lookup ("takers":Str)=some (.ref tk):=by kernel_rfl
theorem hf_bound:(hf c de st pu tk room begun bound).lookup ("bound":Str)=some (.int bound):=by kernel_rfl
theorem hf_setBegins:putF "begins" (.int b') (hf c de st pu tk room begun bound)=hf c de st pu tk room b' bound:=by kernel_rfl
theorem hf_setBound:putF "bound" (.int b') (hf c de st pu tk room begun bound)=hf c de st pu tk room begun b':=by kernel_rfl
end
structure Ad where
 h:Addr
 c:Addr
 ce:Addr
 de:Addr
 pu:Addr
 st:Addr
 tk:Addr
structure Takes (x:Hs) (ts:List (Key × V)):Prop where
 a:∀ z∈x.puts,∀ y∈z.2,valV ts (Sum.inl ((y.1:Nat):Int))=some (.int z.1)
 b:∀ k v,valV ts k=some v→∃ (p:Nat) (d:Int),k=Sum.inl ((p:Nat):Int)∧v=.int d∧0≤d∧d<x.begun∧(x.isOpen d=true→∃ z∈x.puts,z.1=d∧∃ y∈z.2,y.1=p)
abbrev Ad.own (a:Ad) (pl:List (Int × Addr)):List Addr:=L2.own a.h a.ce a.de a.pu a.st pl
def vh (H:Hp) (a:Ad) (lo:Addr) (x:Hs):Hp:=upd (upd H a.c (.own 0)) a.h (.dK (hk a.ce a.de lo a.pu a.st x.room x.begun))
theorem z1o {H:Hp} {a:Ad} {lo:Addr} {x:Hs} {b:Addr} (h1:b≠a.h) (h2:b≠a.c):vh H a lo x b=H b:=by
 unfold vh
 rw [z01 h1,z01 h2]
theorem vh_h {H:Hp} {a:Ad} {lo:Addr} {x:Hs}:vh H a lo x a.h=some (.dK (hk a.ce a.de lo a.pu a.st x.room x.begun)):=z02
theorem vh_c {H:Hp} {a:Ad} {lo:Addr} {x:Hs} (h:a.c≠a.h):vh H a lo x a.c=some (.own 0):=by
 unfold vh
 rw [z01 h,z02]
theorem vh_upd {H:Hp} {a:Ad} {lo:Addr} {x:Hs} {b:Addr} {o:HO} (h1:b≠a.h) (h2:b≠a.c):upd (vh H a lo x) b o=vh (upd H b o) a lo x:=by
 unfold vh
 rw [upd_comm h1.symm,upd_comm h2.symm]
theorem vh_updh {H:Hp} {a:Ad} {lo:Addr} {x:Hs} {o:HO}:vh (upd H a.h o) a lo x=vh H a lo x:=by
 funext b
 by_cases z:b=a.h
 ·subst z
  rw [vh_h,vh_h]
 ·by_cases y:b=a.c
  ·subst y
   rw [vh_c z,vh_c z]
  ·rw [z1o z y,z1o z y,z01 z]
structure PH (CC CH:Addr) (H:Hp) (a:Ad) (lo:Addr) (pl:List (Int × Addr)) (x:Hs) (ts:List (Key × V)):Prop where
 va:HA (vh H a lo x) a.h a.ce a.de lo a.pu a.st pl x
 ob:∃ dx,H a.h=some (.ins CH dx (hf a.c a.de a.st a.pu a.tk x.room x.begun x.bound))
 co:∃ dy,H a.c=some (.ins CC dy (cflds a.ce lo))
 kt:H a.tk=some (.dK ts)
 nc:a.c∉a.own pl
 nl:a.c≠lo
 nt:a.tk≠a.pu
 tf:Takes x ts
section
variable {CC CH:Addr} {H H':Hp} {a:Ad} {lo lo':Addr} {pl:List (Int × Addr)} {x:Hs} {ts:List (Key × V)}
theorem PH.cn (A:PH CC CH H a lo pl x ts):a.c≠a.h∧a.c≠a.ce∧a.c≠a.de∧a.c≠a.pu∧a.c≠a.st∧∀ z∈pl,z.2≠a.c:=by
 have h:=fun b (hb:b∈a.own pl) (e:a.c=b)=>A.nc (by rw [e]; exact hb)
 exact ⟨h _ (HA.mh ..),h _ (HA.mc ..),h _ (HA.md ..),h _ (HA.mp ..),h _ (HA.ms ..),fun z hz e=>h _ (HA.ml hz ..) e.symm⟩
theorem PH.hn (A:PH CC CH H a lo pl x ts):a.ce≠a.h∧a.de≠a.h∧a.pu≠a.h∧a.st≠a.h∧lo≠a.h∧∀ z∈pl,z.2≠a.h:=by
 obtain ⟨n1,n2,n3,n4,_,_,_,_,_,_,n5,_,_,_,_,n6⟩:=A.va.ne
 exact ⟨n1.symm,n2.symm,n3.symm,n4.symm,n5,fun z hz=>(n6 z hz).1⟩
theorem PH.hc (A:PH CC CH H a lo pl x ts):H a.ce=some (.lst (x.cellar.map V.int)):=by
 rw [← z1o (H:=H) (lo:=lo) (x:=x) A.hn.1 A.cn.2.1.symm]
 exact A.va.hc
theorem PH.hd (A:PH CC CH H a lo pl x ts):H a.de=some (.lst (x.desk.map V.int)):=by
 rw [← z1o (H:=H) (lo:=lo) (x:=x) A.hn.2.1 A.cn.2.2.1.symm]
 exact A.va.hd
theorem PH.hp (A:PH CC CH H a lo pl x ts):H a.pu=some (.dK (pk pl)):=by
 rw [← z1o (H:=H) (lo:=lo) (x:=x) A.hn.2.2.1 A.cn.2.2.2.1.symm]
 exact A.va.hp
theorem PH.keepV (A:PH CC CH H a lo pl x ts) {lo':Addr} {x':Hs}:z1i (vh H a lo' x') H:=fun b xs q=>by
 by_cases z:b=a.h
 ·subst z
  rw [vh_h] at q
  cases q
 ·by_cases y:b=a.c
  ·subst y
   rw [vh_c z] at q
   cases q
  ·rwa [z1o z y] at q
theorem PH.toV (A:PH CC CH H a lo pl x ts) {lo':Addr} {x':Hs}:z1i H (vh H a lo' x'):=fun b xs q=>by
 obtain ⟨dx,e1⟩:=A.ob
 obtain ⟨dy,e2⟩:=A.co
 rw [z1o (z0x q e1 (fun z=>nomatch z)) (z0x q e2 (fun z=>nomatch z))]
 exact q
theorem PH.hl (A:PH CC CH H a lo pl x ts):∃ xs,H lo=some (.lst xs)∧LogAt H x.log xs:=by
 obtain ⟨xs,e1,e2⟩:=A.va.hl
 rw [z1o A.hn.2.2.2.2.1 A.nl.symm] at e1
 exact ⟨xs,e1,e2.mono fun b y q=>q.mono A.keepV⟩
theorem PH.sk (A:PH CC CH H a lo pl x ts):∃ zs,H a.st=some (.lst zs)∧Reps H (x.strokes.map SM.D) zs:=by
 obtain ⟨zs,e1,e2⟩:=A.va.sk
 rw [z1o A.hn.2.2.2.1 A.cn.2.2.2.2.1.symm] at e1
 exact ⟨zs,e1,Reps.keep A.keepV _ _ (z0e SM.D_flat _) e2⟩
theorem same_vh {K:Hp} (hc:a.c≠a.h) (h:∀ b o,b≠a.h→b≠a.c→K b=some o→H' b=some o) (e1:K a.h=some (.dK (hk a.ce a.de lo a.pu a.st x.room x.begun))) (e2:∀ o,K a.c=some o→o=.own 0):Same K (vh H' a lo x):=fun b o q=>by
 by_cases z:b=a.h
 ·subst z
  rw [e1] at q
  rw [vh_h]
  exact q
 ·by_cases y:b=a.c
  ·subst y
   rw [vh_c hc,e2 o q]
  ·rw [z1o z y]
   exact h b o z y q
theorem PH.same (A:PH CC CH H a lo pl x ts) (s:Same H H'):PH CC CH H' a lo pl x ts:=by
 obtain ⟨dx,e1⟩:=A.ob
 obtain ⟨dy,e2⟩:=A.co
 refine ⟨A.va.same (same_vh A.cn.1 (fun b o n1 n2 q=>s _ _ (by rwa [z1o n1 n2] at q)) vh_h fun o q=>?_),⟨dx,s _ _ e1⟩,⟨dy,s _ _ e2⟩,s _ _ A.kt,A.nc,A.nl,A.nt,A.tf⟩
 rw [vh_c A.cn.1] at q
 exact (Option.some.inj q).symm
theorem HA.setG {h ce de pu st:Addr} (A:HA H h ce de lo pu st pl x) {log:List LN} {xs ys:List V} (e1:H lo=some (.lst xs)) (e2:LogAt H log ys):HA (upd H lo (.lst ys)) h ce de lo pu st pl { x with log:=log }:=by
 obtain ⟨n1,n2,n3,n4,n5,n6,n7,n8,n9,n10,m1,m2,m3,m4,m5,np⟩:=A.ne
 have kt:z1i H (upd H lo (.lst ys)):=fun b us q=>by
  rw [z01 (z0x q e1 (fun z=>nomatch z))]
  exact q
 obtain ⟨zs,e3,e4⟩:=A.sk
 refine ⟨by rw [z01 m1.symm]; exact A.hh,by rw [z01 m2.symm]; exact A.hc,by rw [z01 m3.symm]; exact A.hd,⟨ys,z02,e2.mono fun b y q=>q.mono kt⟩,by rw [z01 m4.symm]; exact A.hp,A.pe,fun i z w p q=>?_,A.pn,⟨zs,by rw [z01 m5.symm]; exact e3,Reps.keep kt _ _ (z0e SM.D_flat _) e4⟩,A.ap,A.nl,A.cd⟩
 obtain ⟨us,q1,q2⟩:=A.pv i z w p q
 exact ⟨us,by rw [z01 (np z (List.mem_of_getElem? p)).2.2.2.2.2]; exact q1,Reps.keep kt _ _ (z0e z0t _) q2⟩
def skOf (v:V):SM→SK
 | .line _=>.line v
 | .page p n=>.page p n
 | .cut k=>.cut (k:Nat)
theorem stroke_at {s:SM} {v:V} (h:Rep H s.D v):∃ y,SKat H (skOf y s) v∧∀ ln,s=.line ln→LNat H ln y:=by
 cases s with
 | line ln =>
  obtain ⟨c,x1,x2,rfl,hc,h1,h2⟩:=z0y h
  cases h1.str_inv
  exact ⟨x2,⟨c,rfl,hc⟩,fun l e=>by cases e; exact LNat.ofRep h2⟩
 | page p n =>
  obtain ⟨c,x1,x2,x3,rfl,hc,h1,h2,h3⟩:=rep_tup3 h
  cases h1.str_inv
  cases h2.int_inv
  cases h3.int_inv
  exact ⟨.non,⟨c,rfl,hc⟩,fun l e=>by cases e⟩
 | cut k =>
  obtain ⟨c,x1,x2,rfl,hc,h1,h2⟩:=z0y h
  cases h1.str_inv
  cases h2.int_inv
  exact ⟨.non,⟨c,rfl,hc⟩,fun l e=>by cases e⟩
theorem Takes.stroke (t:Takes x ts) (s:SM):Takes (x.stroke s) ts:=by
 refine ⟨fun z hz=>t.a z (by rwa [z1c] at hz),fun k v e=>?_⟩
 obtain ⟨p,d,e1,e2,e3,e4,e5⟩:=t.b k v e
 refine ⟨p,d,e1,e2,e3,by rw [z1l]; exact e4,fun ho=>?_⟩
 rw [z1c]
 refine e5 ?_
 unfold Hs.isOpen at ho ⊢
 rwa [z1c] at ho
theorem stroke_bound (s:SM):(x.stroke s).bound=x.bound:=by
 unfold Hs.bound
 rw [z1c]
theorem stroke_eq (s:SM):x.stroke s={ x with log:=(x.stroke s).log,cellar:=(x.stroke s).cellar,strokes:=x.strokes++[s] }:=by cases s <;> rfl
theorem pg_stroke (s:SM) (y:V):SK.pg (x.cellar.map V.int) (skOf y s)=(x.stroke s).cellar.map V.int:=by
 cases s with
 | line ln=>rfl
 | page p n=>exact z33 ..
 | cut k=>rfl
theorem lg_stroke {s:SM} {y:V} {xs:List V} (hy:∀ ln,s=.line ln→LNat H ln y) (e:LogAt H x.log xs):LogAt H (x.stroke s).log (SK.lg xs (skOf y s)):=by
 cases s with
 | line ln=>exact All2.snoc e (hy ln rfl)
 | page p n=>exact e
 | cut k =>
  show LogAt H (x.log.drop k) (cutV xs (some ((k:Nat):Int)) none)
  rw [cut_nat]
  exact e.drop k
theorem PH.stroked (A:PH CC CH H a lo pl x ts) {s:SM} {v y:V} {xs zs:List V} (hs:s.okIn x) (hv:Rep H s.D v) (hy:∀ ln,s=.line ln→LNat H ln y) (e1:H lo=some (.lst xs)) (e2:LogAt H x.log xs) (e3:H a.st=some (.lst zs)) (e4:Reps H (x.strokes.map SM.D) zs)
  (CA:CellAt CC H' a.c a.ce lo' (SK.pg (x.cellar.map V.int) (skOf y s)) (SK.lg xs (skOf y s))) (hlo:lo'=lo∨H lo'=none) (kp:∀ b o,H b=some o→b≠a.c→b≠a.ce→(b≠lo∨lo'≠lo)→H' b=some o) :
  PH CC CH (upd H' a.st (.lst (zs++[v]))) a lo' pl (x.stroke s) ts:=by
 obtain ⟨n1,n2,n3,n4,n5,n6,n7,n8,n9,n10,m1,m2,m3,m4,m5,np⟩:=A.va.ne
 obtain ⟨c1,c2,c3,c4,c5,c6⟩:=A.cn
 obtain ⟨dx,o1⟩:=A.ob
 obtain ⟨⟨dy,o2⟩,o3,o4,o5⟩:=CA
 rw [pg_stroke] at o3
 have lg:=lg_stroke hy e2
 have lgV:LogAt (vh H a lo x) (x.stroke s).log (SK.lg xs (skOf y s)):=lg.mono fun b z q=>q.mono A.toV
 have cl:(x.stroke s).cellar.length=x.desk.length:=by
  rw [← A.va.cd]
  cases s with
  | line ln=>rfl
  | page p n=>exact List.length_set ..
  | cut k=>rfl
 generalize SK.lg xs (skOf y s)=ys at o4 lg lgV
 have hfree:∀ b,H b=none→b≠a.h∧b≠a.c:=fun b hb=>by
  obtain ⟨dz,q⟩:=A.co
  exact ⟨fun z=>by rw [z,o1] at hb; (cases hb),fun z=>by rw [z,q] at hb; (cases hb)⟩
 have key:∃ K1,HA K1 a.h a.ce a.de lo' a.pu a.st pl { x with log:=(x.stroke s).log,cellar:=(x.stroke s).cellar }∧Same K1 (vh H' a lo' { x with log:=(x.stroke s).log,cellar:=(x.stroke s).cellar }):=by
  rcases hlo with z | z
  ·subst z
   have B:=(A.va.setG (by rw [z1o m1 A.nl.symm]; exact e1) lgV).setC (c:=(x.stroke s).cellar) cl
   refine ⟨_,B,same_vh c1 (fun b o b1 b2 q=>?_) ?_ fun o q=>?_⟩
   ·by_cases w1:b=a.ce
    ·subst w1
     rw [z02] at q
     rw [o3]
     exact q
    ·rw [z01 w1] at q
     by_cases w2:b=lo'
     ·subst w2
      rw [z02] at q
      rw [o4]
      exact q
     ·rw [z01 w2,z1o b1 b2] at q
      exact kp b o q b2 w1 (.inl w2)
   ·rw [z01 n1,z01 m1.symm]
    exact vh_h
   ·rw [z01 c2,z01 A.nl,vh_c c1] at q
    exact (Option.some.inj q).symm
  ·obtain ⟨f1,f2⟩:=hfree lo' z
   have zv:vh H a lo x lo'=none:=by rw [z1o f1 f2]; exact z
   have sv:=z09 zv (.lst ys)
   have B:=((A.va.same sv).setL (lo':=lo') z02 (lgV.mono fun b w q=>q.mono sv.keepT) (A.va.there zv)).setC (c:=(x.stroke s).cellar) cl
   have nlc:lo'≠a.ce:=fun w=>by rw [w,A.hc] at z; cases z
   have nlh:lo'≠a.h:=f1
   refine ⟨_,B,same_vh c1 (fun b o b1 b2 q=>?_) ?_ fun o q=>?_⟩
   ·by_cases w1:b=a.ce
    ·subst w1
     rw [z02] at q
     rw [o3]
     exact q
    ·rw [z01 w1,z01 b1] at q
     by_cases w2:b=lo'
     ·subst w2
      rw [z02] at q
      rw [o4]
      exact q
     ·rw [z01 w2,z1o b1 b2] at q
      exact kp b o q b2 w1 (.inr fun w3=>by rw [w3,e1] at z; (cases z))
   ·rw [z01 n1,z02,hk_setLog]
   ·rw [z01 c2,z01 c1,z01 f2.symm,vh_c c1] at q
    exact (Option.some.inj q).symm
 obtain ⟨K1,B1,s1⟩:=key
 have B2:=B1.same s1
 have nst:a.st≠lo:=m5.symm
 have e3':H' a.st=some (.lst zs):=kp _ _ e3 c5.symm n7.symm (.inl nst)
 have kt:z1i H H':=fun b us q=>by
  obtain ⟨dz,w⟩:=A.co
  exact kp b _ q (z0x q w (fun z=>nomatch z)) (z0x q A.hc (fun z=>nomatch z)) (.inl (z0x q e1 (fun z=>nomatch z)))
 have kv:z1i H' (vh H' a lo' { x with log:=(x.stroke s).log,cellar:=(x.stroke s).cellar }):=fun b us q=>by
  have o1':H' a.h=_:=kp _ _ o1 c1.symm n1 (.inl m1.symm)
  rw [z1o (z0x q o1' (fun z=>nomatch z)) (z0x q o2 (fun z=>nomatch z))]
  exact q
 have B3:=B2.setS (v:=v) (s:=s) (by rw [z1o n4.symm c5.symm]; exact e3') (Reps.keep kv _ _ (z0e SM.D_flat _) (Reps.keep kt _ _ (z0e SM.D_flat _) e4)) (Rep.keep kv _ _ (SM.D_flat _) (Rep.keep kt _ _ (SM.D_flat _) hv))
 rw [vh_upd n4.symm c5.symm] at B3
 have es:x.stroke s={ x with log:=(x.stroke s).log,cellar:=(x.stroke s).cellar,strokes:=x.strokes++[s] }:=stroke_eq s
 have nts:a.tk≠a.st:=z0x A.kt e3 (fun z=>nomatch z)
 refine ⟨?_,⟨dx,?_⟩,⟨dy,by rw [z01 c5]; exact o2⟩,?_,A.nc,?_,A.nt,A.tf.stroke s⟩
 ·have ev:vh (upd H' a.st (.lst (zs++[v]))) a lo' (x.stroke s)=vh (upd H' a.st (.lst (zs++[v]))) a lo' { x with log:=(x.stroke s).log,cellar:=(x.stroke s).cellar }:=by
   unfold vh
   rw [stroke_room,z1l]
  rw [ev,es]
  exact B3
 ·rw [z01 n4,stroke_room,z1l,stroke_bound]
  exact kp _ _ o1 c1.symm n1 (.inl m1.symm)
 ·rw [z01 nts]
  obtain ⟨dz,w⟩:=A.co
  exact kp _ _ A.kt (z0x A.kt w (fun z=>nomatch z)) (z0x A.kt A.hc (fun z=>nomatch z)) (.inl (z0x A.kt e1 (fun z=>nomatch z)))
 ·rcases hlo with z | z
  ·rw [z]; exact A.nl
  ·exact (hfree lo' z).2.symm
end
end L2
set_option Elab.async false
set_option linter.all false
set_option maxRecDepth 100000
namespace L2
open PySem
section
variable {CC CH:Addr} {H H':Hp} {a:Ad} {lo lo':Addr} {pl:List (Int × Addr)} {x:Hs} {ts:List (Key × V)}
theorem PH.setD (A:PH CC CH H a lo pl x ts) {c:List Int} (hc:c.length=x.desk.length):PH CC CH (upd H a.de (.lst (c.map V.int))) a lo pl { x with desk:=c } ts:=by
 obtain ⟨dx,o1⟩:=A.ob
 obtain ⟨dy,o2⟩:=A.co
 have B:=A.va.setD hc
 rw [vh_upd A.hn.2.1 A.cn.2.2.1.symm] at B
 exact ⟨B,⟨dx,by rw [z01 A.hn.2.1.symm]; exact o1⟩,⟨dy,by rw [z01 A.cn.2.2.1]; exact o2⟩,by rw [z01 (z0x A.kt A.hd (fun z=>nomatch z))]; exact A.kt,A.nc,A.nl,A.nt,⟨A.tf.a,A.tf.b⟩⟩
theorem PH.began (A:PH CC CH H a lo pl x ts) {dx:Addr} {b:Int} (hb:b=(x.begun:Int)+1):PH CC CH (upd H a.h (.ins CH dx (hf a.c a.de a.st a.pu a.tk x.room b x.bound))) a lo pl x.began ts:=by
 obtain ⟨dy,o2⟩:=A.co
 have eb:b=((x.begun+1:Nat):Int):=by omega
 have B:=A.va.setB (n:=x.begun+1) eb
 have ev:upd (vh H a lo x) a.h (.dK (putK (hk a.ce a.de lo a.pu a.st x.room x.begun) (Sum.inr "begun") (.int b)))=vh (upd H a.h (.ins CH dx (hf a.c a.de a.st a.pu a.tk x.room b x.bound))) a lo x.began:=by
  rw [hk_setBegun,vh_updh,eb]
  unfold vh
  rw [upd_upd]
  rfl
 rw [ev] at B
 have nk:a.tk≠a.h:=fun z=>by
  obtain ⟨dz,w⟩:=A.ob
  have:=A.kt
  rw [z,w] at this
  cases this
 refine ⟨B,⟨dx,by rw [z02,eb]; rfl⟩,⟨dy,by rw [z01 A.cn.1]; exact o2⟩,by rw [z01 nk]; exact A.kt,A.nc,A.nl,A.nt,⟨A.tf.a,fun k v e=>?_⟩⟩
 obtain ⟨p,d,e1,e2,e3,e4,e5⟩:=A.tf.b k v e
 exact ⟨p,d,e1,e2,e3,by show d<((x.begun+1:Nat):Int); omega,e5⟩
theorem PH.tkn (A:PH CC CH H a lo pl x ts):a.tk≠a.h∧a.tk≠a.c∧a.tk≠a.ce∧a.tk≠a.de∧a.tk≠a.st∧a.tk≠lo∧∀ z∈pl,a.tk≠z.2:=by
 obtain ⟨dx,o1⟩:=A.ob
 obtain ⟨dy,o2⟩:=A.co
 obtain ⟨xs,e1,_⟩:=A.hl
 obtain ⟨zs,e2,_⟩:=A.sk
 refine ⟨z0x A.kt o1 (fun z=>nomatch z),z0x A.kt o2 (fun z=>nomatch z),z0x A.kt A.hc (fun z=>nomatch z),z0x A.kt A.hd (fun z=>nomatch z),z0x A.kt e2 (fun z=>nomatch z),z0x A.kt e1 (fun z=>nomatch z),fun z hz=>?_⟩
 obtain ⟨i,hi⟩:=List.mem_iff_getElem?.mp hz
 obtain ⟨w,ys,_,_,q,_⟩:=A.va.at_ hi
 rw [z1o (A.hn.2.2.2.2.2 z hz) (A.cn.2.2.2.2.2 z hz)] at q
 exact z0x A.kt q (fun z=>nomatch z)
theorem PH.opened (A:PH CC CH H a lo pl x ts) {n dx:Addr} {d b:Int} (hn:H n=none) (hd:x.isOpen d=false) (hb:b=x.bound+1) (hx:d=(x.begun:Int) - 1) (hlt:∀ k e,valV ts k=some (.int e)→e≠d) :
  PH CC CH (upd (upd (upd H n (.lst [])) a.pu (.dK (putK (pk pl) (Sum.inl d) (.ref n)))) a.h (.ins CH dx (hf a.c a.de a.st a.pu a.tk x.room x.begun b))) a lo (pl++[(d,n)]) x.opened ts:=by
 obtain ⟨ox,o1⟩:=A.ob
 obtain ⟨dy,o2⟩:=A.co
 have nh:n≠a.h:=fun z=>by rw [z,o1] at hn; cases hn
 have nc:n≠a.c:=fun z=>by rw [z,o2] at hn; cases hn
 have hv:vh H a lo x n=none:=by rw [z1o nh nc]; exact hn
 have nlo:n≠lo:=fun z=>by
  obtain ⟨xs,e,_⟩:=A.hl
  rw [z,e] at hn
  cases hn
 have nk:n≠a.tk:=fun z=>by rw [z,A.kt] at hn; cases hn
 have B:=(A.va.same (z09 hv (.lst []))).opened (d:=d) (a:=n) z02 (A.va.there hv) nlo hd
 rw [vh_upd nh nc,vh_upd A.hn.2.2.1 A.cn.2.2.2.1.symm] at B
 have ev:∀ K:Hp,vh K a lo x=vh (upd K a.h (.ins CH dx (hf a.c a.de a.st a.pu a.tk x.room x.begun b))) a lo x.opened:=fun K=>by
  rw [vh_updh]
  rfl
 rw [ev] at B
 have eb:x.opened.bound=x.bound+1:=by
  show ((x.puts++[((x.begun:Int) - 1,([]:List (Nat × Int)))]).map fun (z:Int × List (Nat × Int))=>(z.2.length:Int)+1).sum=_
  rw [List.map_append,List.sum_append]
  rfl
 have ep:x.opened={ x with puts:=x.puts++[(d,[])] }:=by rw [hx]; rfl
 rw [← ep] at B
 refine ⟨B,⟨dx,by rw [z02,eb,← hb]; rfl⟩,⟨dy,by rw [z01 A.cn.1,z01 A.cn.2.2.2.1,z01 nc.symm]; exact o2⟩,by rw [z01 A.tkn.1,z01 A.nt,z01 nk.symm]; exact A.kt,fun hm=>?_,A.nl,A.nt,⟨fun z hz=>?_,fun k v e=>?_⟩⟩
 ·rcases z37.mp hm with z | z | z | z | z | ⟨z,hz,e⟩
  ·exact A.cn.1 z
  ·exact A.cn.2.1 z
  ·exact A.cn.2.2.1 z
  ·exact A.cn.2.2.2.1 z
  ·exact A.cn.2.2.2.2.1 z
  ·rcases List.mem_append.mp hz with y | y
   ·exact A.cn.2.2.2.2.2 z y e
   ·rw [List.mem_singleton.mp y] at e
    exact nc e
 ·rw [ep] at hz
  rcases List.mem_append.mp hz with y | y
  ·exact A.tf.a z y
  ·rw [List.mem_singleton.mp y]
   intro w hw
   cases hw
 ·obtain ⟨p,e0,e1,e2,e3,e4,e5⟩:=A.tf.b k v e
  refine ⟨p,e0,e1,e2,e3,e4,fun ho=>?_⟩
  rw [ep] at ho ⊢
  have ne:e0≠d:=hlt k e0 (by rw [e,e2])
  have ho':x.isOpen e0=true:=by
   have:((x.puts++[(d,([]:List (Nat × Int)))]).any fun z=>z.1 == e0)=true:=ho
   rw [List.any_append] at this
   rcases Bool.or_eq_true_iff.mp this with y | y
   ·exact y
   ·have y':(d == e0)=true:=by simpa using y
    exact absurd (beq_iff_eq.mp y').symm ne
  obtain ⟨z,hz,y⟩:=e5 ho'
  exact ⟨z,List.mem_append_left _ hz,y⟩
theorem PH.ended (A:PH CC CH H a lo pl x ts) {dx:Addr} {d b:Int} (hb:b=({ x with puts:=x.puts.filter fun z=>z.1 != d }:Hs).bound) :
  PH CC CH (upd (upd H a.pu (.dK (dropK (pk pl) (Sum.inl d)))) a.h (.ins CH dx (hf a.c a.de a.st a.pu a.tk x.room x.begun b))) a lo (pl.filter fun z=>z.1 != d) { x with puts:=x.puts.filter fun z=>z.1 != d } ts:=by
 obtain ⟨ox,o1⟩:=A.ob
 obtain ⟨dy,o2⟩:=A.co
 have B:=A.va.ended d
 rw [vh_upd A.hn.2.2.1 A.cn.2.2.2.1.symm] at B
 have ev:∀ K:Hp,vh K a lo x=vh (upd K a.h (.ins CH dx (hf a.c a.de a.st a.pu a.tk x.room x.begun b))) a lo { x with puts:=x.puts.filter fun z=>z.1 != d }:=fun K=>by
  rw [vh_updh]
  rfl
 rw [ev] at B
 refine ⟨B,⟨dx,by rw [z02,hb]⟩,⟨dy,by rw [z01 A.cn.1,z01 A.cn.2.2.2.1]; exact o2⟩,by rw [z01 A.tkn.1,z01 A.nt]; exact A.kt,fun hm=>?_,A.nl,A.nt,⟨fun z hz=>A.tf.a z (List.mem_filter.mp hz).1,fun k v e=>?_⟩⟩
 ·rcases z37.mp hm with z | z | z | z | z | ⟨z,hz,e⟩
  ·exact A.cn.1 z
  ·exact A.cn.2.1 z
  ·exact A.cn.2.2.1 z
  ·exact A.cn.2.2.2.1 z
  ·exact A.cn.2.2.2.2.1 z
  ·exact A.cn.2.2.2.2.2 z (List.mem_filter.mp hz).1 e
 ·obtain ⟨p,e0,e1,e2,e3,e4,e5⟩:=A.tf.b k v e
  refine ⟨p,e0,e1,e2,e3,e4,fun ho=>?_⟩
  have ho1:((x.puts.filter fun z=>z.1 != d).any fun z=>z.1 == e0)=true:=ho
  obtain ⟨z0,hz0,hq0⟩:=List.any_eq_true.mp ho1
  have ho':x.isOpen e0=true:=List.any_eq_true.mpr ⟨z0,(List.mem_filter.mp hz0).1,hq0⟩
  have nd:(z0.1 != d)=true:=(List.mem_filter.mp hz0).2
  obtain ⟨z,hz,y1,y2⟩:=e5 ho'
  refine ⟨z,List.mem_filter.mpr ⟨hz,?_⟩,y1,y2⟩
  rw [y1,← beq_iff_eq.mp hq0]
  exact nd
theorem PH.took (A:PH CC CH H a lo pl x ts) {n dx:Addr} {i p:Nat} {d b:Int} {ys:List V} {v:V} (hi:pl[i]?=some (d,n)) (hy:H n=some (.lst ys)) (hv:Rep H (pairD (p,x.desk.getD p 0)) v) (hb:b=(x.took d p).bound) (h0:0≤d) (h1:d<x.begun)
  (hfree:∀ z∈x.puts,(∃ y∈z.2,y.1=p)→z.1=d) :
  PH CC CH (upd (upd (upd H n (.lst (ys++[v]))) a.tk (.dK (putK ts (Sum.inl ((p:Nat):Int)) (.int d)))) a.h (.ins CH dx (hf a.c a.de a.st a.pu a.tk x.room x.begun b))) a lo pl (x.took d p) (putK ts (Sum.inl ((p:Nat):Int)) (.int d)):=by
 obtain ⟨ox,o1⟩:=A.ob
 obtain ⟨dy,o2⟩:=A.co
 have hm:=List.mem_of_getElem? hi
 have nh:n≠a.h:=A.hn.2.2.2.2.2 _ hm
 have nc:n≠a.c:=A.cn.2.2.2.2.2 _ hm
 have nk:a.tk≠n:=A.tkn.2.2.2.2.2.2 _ hm
 have hyV:vh H a lo x n=some (.lst ys):=by rw [z1o nh nc]; exact hy
 have B0:=A.va.took (y:=(p,x.desk.getD p 0)) hi hyV (Rep.keep A.toV _ _ rfl hv)
 rw [vh_upd nh nc] at B0
 have st:HA (vh (upd (upd H n (.lst (ys++[v]))) a.tk (.dK (putK ts (Sum.inl ((p:Nat):Int)) (.int d)))) a lo x) a.h a.ce a.de lo a.pu a.st pl (x.took d p):=by
  rw [← vh_upd A.tkn.1 A.tkn.2.1]
  obtain ⟨t1,t2,t3,t4,t5,t6,t7⟩:=A.tkn
  have kt:z1i (vh (upd H n (.lst (ys++[v]))) a lo x) (upd (vh (upd H n (.lst (ys++[v]))) a lo x) a.tk (.dK (putK ts (Sum.inl ((p:Nat):Int)) (.int d)))):=fun b us q=>by
   have hk:vh (upd H n (.lst (ys++[v]))) a lo x a.tk=some (.dK ts):=by
    rw [z1o t1 t2,z01 nk]
    exact A.kt
   rw [z01 (z0x q hk (fun z=>nomatch z))]
   exact q
  obtain ⟨xs,e1,e2⟩:=B0.hl
  obtain ⟨zs,e3,e4⟩:=B0.sk
  refine ⟨by rw [z01 t1.symm]; exact B0.hh,by rw [z01 t3.symm]; exact B0.hc,by rw [z01 t4.symm]; exact B0.hd,⟨xs,by rw [z01 t6.symm]; exact e1,e2.mono fun b y q=>q.mono kt⟩,by rw [z01 A.nt.symm]; exact B0.hp,B0.pe,fun i z w q1 q2=>?_,B0.pn,⟨zs,by rw [z01 t5.symm]; exact e3,Reps.keep kt _ _ (z0e SM.D_flat _) e4⟩,B0.ap,B0.nl,B0.cd⟩
  obtain ⟨us,w1,w2⟩:=B0.pv i z w q1 q2
  exact ⟨us,by rw [z01 (t7 z (List.mem_of_getElem? q1)).symm]; exact w1,Reps.keep kt _ _ (z0e z0t _) w2⟩
 have ev:∀ K:Hp,vh K a lo x=vh (upd K a.h (.ins CH dx (hf a.c a.de a.st a.pu a.tk x.room x.begun b))) a lo (x.took d p):=fun K=>by
  rw [vh_updh]
  rfl
 rw [ev] at st
 refine ⟨st,⟨dx,by rw [z02,hb]; rfl⟩,⟨dy,by rw [z01 A.cn.1,z01 A.tkn.2.1.symm,z01 nc.symm]; exact o2⟩,by rw [z01 A.tkn.1,z02],A.nc,A.nl,A.nt,⟨fun z hz y hy=>?_,fun k v e=>?_⟩⟩
 ·obtain ⟨w,hw,rfl⟩:=List.mem_map.mp hz
  rw [valV_put]
  by_cases e:w.1=d
  ·have hy':y∈w.2++[(p,x.desk.getD p 0)]:=by rw [if_pos e] at hy; exact hy
   have ez:(if w.1=d then (w.1,w.2++[(p,x.desk.getD p 0)]) else w).1=d:=by rw [if_pos e]; exact e
   rw [ez]
   by_cases ep:y.1=p
   ·rw [if_pos (by rw [ep])]
   ·have hy2:y∈w.2:=by
     rcases List.mem_append.mp hy' with z1 | z1
     ·exact z1
     ·rw [List.mem_singleton.mp z1] at ep
      exact absurd rfl ep
    rw [if_neg (fun z1=>ep (by have:=Sum.inl.inj z1; omega)),A.tf.a w hw y hy2,e]
  ·have hy':y∈w.2:=by rw [if_neg e] at hy; exact hy
   rw [if_neg e]
   have ep:¬y.1=p:=fun z1=>e (hfree w hw ⟨y,hy',z1⟩)
   rw [if_neg (fun z1=>ep (by have:=Sum.inl.inj z1; omega))]
   exact A.tf.a w hw y hy'
 ·rw [valV_put] at e
  have op:∀ e0,(x.took d p).isOpen e0=x.isOpen e0:=fun e0=>by
   show ((x.puts.map fun z=>if z.1=d then (z.1,z.2++[(p,x.desk.getD p 0)]) else z).any fun z=>z.1 == e0)=x.puts.any fun z=>z.1 == e0
   rw [List.any_map]
   congr 1
   funext z
   show ((if z.1=d then (z.1,z.2++[(p,x.desk.getD p 0)]) else z).1 == e0)=(z.1 == e0)
   by_cases y:z.1=d
   ·rw [if_pos y]
   ·rw [if_neg y]
  have grow:∀ z∈x.puts,∃ z'∈(x.took d p).puts,z'.1=z.1∧(∀ y∈z.2,y∈z'.2)∧(z.1=d→(p,x.desk.getD p 0)∈z'.2):=fun z hz=>by
   refine ⟨_,List.mem_map.mpr ⟨z,hz,rfl⟩,?_,fun y hy=>?_,fun y=>?_⟩
   ·by_cases y:z.1=d
    ·rw [if_pos y]
    ·rw [if_neg y]
   ·by_cases w:z.1=d
    ·rw [if_pos w]; exact List.mem_append_left _ hy
    ·rw [if_neg w]; exact hy
   ·rw [if_pos y]
    exact List.mem_append_right _ (List.mem_singleton.mpr rfl)
  by_cases ek:k=Sum.inl ((p:Nat):Int)
  ·rw [if_pos ek] at e
   cases e
   refine ⟨p,d,ek,rfl,h0,h1,fun ho=>?_⟩
   rw [op] at ho
   obtain ⟨z0,hz0,hq0⟩:=List.any_eq_true.mp ho
   obtain ⟨z',g1,g2,g3,g4⟩:=grow z0 hz0
   have hq1:=beq_iff_eq.mp hq0
   exact ⟨z',g1,g2.trans hq1,_,g4 hq1,rfl⟩
  ·rw [if_neg ek] at e
   obtain ⟨p0,e0,e1,e2,e3,e4,e5⟩:=A.tf.b k v e
   refine ⟨p0,e0,e1,e2,e3,e4,fun ho=>?_⟩
   rw [op] at ho
   obtain ⟨z,hz,y1,y,hy,y2⟩:=e5 ho
   obtain ⟨z',g1,g2,g3,g4⟩:=grow z hz
   exact ⟨z',g1,g2.trans y1,y,g3 y hy,y2⟩
end
end L2
set_option Elab.async false
set_option linter.all false
set_option maxRecDepth 100000
namespace L2
open PySem
def Ad.his (a:Ad) (lo:Addr) (pl:List (Int × Addr)):List Addr:=lo::a.c::a.tk::a.own pl
structure z1b (a:Ad) (lo:Addr) (pl:List (Int × Addr)) (lo':Addr) (pl':List (Int × Addr)) (H H':Hp):Prop where
 oth:∀ b o,b∉a.his lo pl→H b=some o→H' b=some o
 new:∀ b,b∈a.his lo' pl'→b∈a.his lo pl∨H b=none
section
variable {a:Ad} {lo lo1 lo2:Addr} {pl pl1 pl2:List (Int × Addr)} {H H1 H2:Hp}
theorem z1b.refl (a:Ad) (lo:Addr) (pl:List (Int × Addr)) (H:Hp):z1b a lo pl lo pl H H:=⟨fun _ _ _ e=>e,fun _ h=>.inl h⟩
theorem Same.moves (s:Same H H1):z1b a lo pl lo pl H H1:=⟨fun b o _ e=>s b o e,fun _ h=>.inl h⟩
theorem z1b.trans (m:z1b a lo pl lo1 pl1 H H1) (n:z1b a lo1 pl1 lo2 pl2 H1 H2):z1b a lo pl lo2 pl2 H H2:=by
 refine ⟨fun b o hb e=>?_,fun b hb=>?_⟩
 ·refine n.oth b o (fun z=>?_) (m.oth b o hb e)
  rcases m.new b z with y | y
  ·exact hb y
  ·rw [e] at y
   cases y
 ·rcases n.new b hb with z | z
  ·exact m.new b z
  ·by_cases y:b∈a.his lo pl
   ·exact .inl y
   ·refine .inr ?_
    cases q:H b with
    | none=>rfl
    | some o =>
     rw [m.oth b o y q] at z
     cases z
theorem z1b.upd (m:z1b a lo pl lo1 pl1 H H1) {b:Addr} {o:HO} (hb:b∈a.his lo1 pl1):z1b a lo pl lo1 pl1 H (upd H1 b o):=by
 refine m.trans ⟨fun c u hc e=>?_,fun _ h=>.inl h⟩
 rw [z01 (fun z=>hc (by rw [z]; exact hb))]
 exact e
theorem his_lo (a:Ad) (lo:Addr) (pl:List (Int × Addr)):lo∈a.his lo pl:=List.mem_cons_self
theorem his_c (a:Ad) (lo:Addr) (pl:List (Int × Addr)):a.c∈a.his lo pl:=List.mem_cons_of_mem _ List.mem_cons_self
theorem his_tk (a:Ad) (lo:Addr) (pl:List (Int × Addr)):a.tk∈a.his lo pl:=List.mem_cons_of_mem _ (List.mem_cons_of_mem _ List.mem_cons_self)
theorem his_own {b:Addr} (h:b∈a.own pl):b∈a.his lo pl:=List.mem_cons_of_mem _ (List.mem_cons_of_mem _ (List.mem_cons_of_mem _ h))
theorem his_h (a:Ad) (lo:Addr) (pl:List (Int × Addr)):a.h∈a.his lo pl:=his_own (HA.mh ..)
theorem his_ce (a:Ad) (lo:Addr) (pl:List (Int × Addr)):a.ce∈a.his lo pl:=his_own (HA.mc ..)
theorem his_de (a:Ad) (lo:Addr) (pl:List (Int × Addr)):a.de∈a.his lo pl:=his_own (HA.md ..)
theorem his_pu (a:Ad) (lo:Addr) (pl:List (Int × Addr)):a.pu∈a.his lo pl:=his_own (HA.mp ..)
theorem his_st (a:Ad) (lo:Addr) (pl:List (Int × Addr)):a.st∈a.his lo pl:=his_own (HA.ms ..)
theorem his_pl {z:Int × Addr} (hz:z∈pl) (a:Ad) (lo:Addr):z.2∈a.his lo pl:=his_own (HA.ml hz ..)
variable {CC CH:Addr} {x:Hs} {ts:List (Key × V)}
theorem PH.tupN (A:PH CC CH H a lo pl x ts) {b:Addr} {us:List V} (h:H b=some (.tup us)):b∉a.his lo pl:=fun hb=>by
 obtain ⟨dx,o1⟩:=A.ob
 obtain ⟨dy,o2⟩:=A.co
 obtain ⟨xs,e1,_⟩:=A.hl
 rcases List.mem_cons.mp hb with z | hb
 ·rw [z,e1] at h; cases h
 ·rcases List.mem_cons.mp hb with z | hb
  ·rw [z,o2] at h; cases h
  ·rcases List.mem_cons.mp hb with z | hb
   ·rw [z,A.kt] at h; cases h
   ·exact A.va.tupN (A.toV _ _ h) hb
end
end L2
set_option Elab.async false
set_option linter.all false
set_option maxRecDepth 100000
namespace L2
open PySem
theorem for_revA {K:PySem.W.Frag} {a:Addr} {N:Nat} {g:TG} {tb:TS} {D:Ends} {σ:St} {H:Hp} (Pv:Nat→St→Hp→Prop) (h0:Pv 0 σ H) (hl:∀ i σ H,i≤N→Pv i σ H→∃ xs,xs.length=N∧SqL K H a xs)
  (hs:∀ i x σ H,i<N→(∀ xs,SqL K H a xs→xs[N - 1 - i]?=some x)→Pv i σ H→g x σ H fun σ2 H2=>tb { D with nx:=Pv (i+1),ct:=Pv (i+1),bk:=D.nx } σ2 H2) (hd:∀ σ H,Pv N σ H→D.nx σ H) :
  ∃ W:Nat→Nat→St→Hp→Prop,(∃ m,W 0 m σ H)∧∀ i m σ H,W i m σ H →
   ((Itv K a N).stop i H∧D.nx σ H)∨((Itv K a N).go i H∧∃ M:St→Hp→Prop,(∀ σ' H',M σ' H'→∃ m',m'<m∧W (i+1) m' σ' H')∧∀ x H',(Itv K a N).yld i H x H'→g x σ H' fun σ2 H2=>tb { D with nx:=M,ct:=M,bk:=D.nx } σ2 H2):=by
 refine ⟨fun i m σ H=>m=N - i∧i≤N∧Pv i σ H,⟨N,by simp,Nat.zero_le _,h0⟩,?_⟩
 rintro i m σ H ⟨rfl,hi,p⟩
 obtain ⟨xs,lx,q⟩:=hl i σ H hi p
 by_cases hlt:i<N
 ·have hj:N - 1 - i<xs.length:=by omega
  refine .inr ⟨⟨hlt,xs,xs[N - 1 - i],q,List.getElem?_eq_getElem hj⟩,Pv (i+1),fun σ' H' p'=>⟨N - (i+1),by omega,rfl,hlt,p'⟩,fun x H' y=>?_⟩
  obtain ⟨e,y⟩:=y
  subst e
  exact hs i x σ _ hlt y p
 ·have e:i=N:=by omega
  subst e
  exact .inl ⟨rfl,hd σ H p⟩
theorem sum_filter:∀ (l:List (Int × List (Nat × Int))) (d:Int),(l.map (·.1)).Nodup→(l.any fun z=>z.1 == d)=true→((l.filter fun z=>z.1 != d).map fun z=>(z.2.length:Int)+1).sum+(((((l.find? fun z=>z.1 == d).map (·.2)).getD []).length:Int)+1)=(l.map fun z=>(z.2.length:Int)+1).sum
 | [],_,_,h=>by cases h
 | z::r,d,nd,h=>by
  rw [List.map_cons,List.nodup_cons] at nd
  by_cases e:z.1=d
  ·have hr:(r.filter fun y=>y.1 != d)=r:=List.filter_eq_self.mpr fun y hy=>by
    have:y.1≠d:=fun w=>nd.1 (by rw [e,← w]; exact List.mem_map.mpr ⟨y,hy,rfl⟩)
    simpa using this
   rw [List.filter_cons_of_neg (by simp [e]),hr,List.find?_cons_of_pos (by simp [e]),List.map_cons,List.sum_cons]
   show _+((z.2.length:Int)+1)=_
   omega
  ·have h':(r.any fun z=>z.1 == d)=true:=by
    rw [List.any_cons] at h
    have:(z.1 == d)=false:=by simpa using e
    rw [this,Bool.false_or] at h
    exact h
   have ih:=sum_filter r d nd.2 h'
   rw [List.filter_cons_of_pos (by simp [e]),List.find?_cons_of_neg (by simp [e]),List.map_cons,List.map_cons,List.sum_cons,List.sum_cons]
   omega
theorem bound_end {x:Hs} {d:Int} (nd:(x.puts.map (·.1)).Nodup) (ho:x.isOpen d=true):({ x with puts:=x.puts.filter fun z=>z.1 != d }:Hs).bound=x.bound - (((x.putsOf d).length:Int)+1):=by
 have:=sum_filter x.puts d nd ho
 show ((x.puts.filter fun z=>z.1 != d).map fun z=>(z.2.length:Int)+1).sum=(x.puts.map fun z=>(z.2.length:Int)+1).sum - (((((x.puts.find? fun z=>z.1 == d).map (·.2)).getD []).length:Int)+1)
 omega
theorem sum_took (y:Nat × Int):∀ (l:List (Int × List (Nat × Int))) (d:Int),(l.map (·.1)).Nodup→(l.any fun z=>z.1 == d)=true→((l.map fun z=>if z.1=d then (z.1,z.2++[y]) else z).map fun z=>(z.2.length:Int)+1).sum=(l.map fun z=>(z.2.length:Int)+1).sum+1
 | [],_,_,h=>by cases h
 | z::r,d,nd,h=>by
  rw [List.map_cons,List.nodup_cons] at nd
  rw [List.map_cons,List.map_cons,List.map_cons,List.sum_cons,List.sum_cons]
  by_cases e:z.1=d
  ·have hr:(r.map fun z=>if z.1=d then (z.1,z.2++[y]) else z)=r:=by
    have:∀ w∈r,(if w.1=d then (w.1,w.2++[y]) else w)=w:=fun w hw=>if_neg fun q=>nd.1 (by rw [e,← q]; exact List.mem_map.mpr ⟨w,hw,rfl⟩)
    rw [List.map_congr_left this,List.map_id']
   rw [hr,if_pos e]
   show ((z.2++[y]).length:Int)+1+_=_
   rw [List.length_append,List.length_singleton]
   omega
  ·have h':(r.any fun z=>z.1 == d)=true:=by
    rw [List.any_cons] at h
    have:(z.1 == d)=false:=by simpa using e
    rw [this,Bool.false_or] at h
    exact h
   rw [sum_took y r d nd.2 h',if_neg e]
   omega
theorem bound_took {x:Hs} {d:Int} {p:Nat} (nd:(x.puts.map (·.1)).Nodup) (ho:x.isOpen d=true):(x.took d p).bound=x.bound+1:=sum_took _ x.puts d nd ho
end L2
set_option Elab.async false
set_option linter.all false
set_option maxRecDepth 100000
namespace L2
open PySem
def hs0 (ps:List Int) (room:Int):Hs:={ cellar:=ps,desk:=ps,log:=[],puts:=[],room:=room,begun:=0,strokes:=[] }
theorem PH.init {CC CH dx dy:Addr} {H:Hp} {a:Ad} {lo:Addr} {ps:List Int} {room:Int} (o1:H a.h=some (.ins CH dx (hf a.c a.de a.st a.pu a.tk room 0 0))) (o2:H a.c=some (.ins CC dy (cflds a.ce lo))) (e1:H a.ce=some (.lst (ps.map V.int))) (e2:H lo=some (.lst []))
  (e3:H a.de=some (.lst (ps.map V.int))) (e4:H a.st=some (.lst [])) (e5:H a.pu=some (.dK [])) (e6:H a.tk=some (.dK [])) (n1:a.ce≠a.de) (n2:a.ce≠a.st) (n3:a.de≠a.st) (n4:lo≠a.ce) (n5:lo≠a.de) (n6:lo≠a.st) (n7:a.tk≠a.pu) (n8:a.c≠a.h) :
  PH CC CH H a lo [] (hs0 ps room) []:=by
 have k1:a.ce≠a.h:=z0x e1 o1 (fun z=>nomatch z)
 have k2:a.de≠a.h:=z0x e3 o1 (fun z=>nomatch z)
 have k3:a.st≠a.h:=z0x e4 o1 (fun z=>nomatch z)
 have k4:a.pu≠a.h:=z0x e5 o1 (fun z=>nomatch z)
 have k5:lo≠a.h:=z0x e2 o1 (fun z=>nomatch z)
 have c1:a.ce≠a.c:=z0x e1 o2 (fun z=>nomatch z)
 have c2:a.de≠a.c:=z0x e3 o2 (fun z=>nomatch z)
 have c3:a.st≠a.c:=z0x e4 o2 (fun z=>nomatch z)
 have c4:a.pu≠a.c:=z0x e5 o2 (fun z=>nomatch z)
 have c5:lo≠a.c:=z0x e2 o2 (fun z=>nomatch z)
 have p1:a.pu≠a.ce:=z0x e5 e1 (fun z=>nomatch z)
 have p2:a.pu≠a.de:=z0x e5 e3 (fun z=>nomatch z)
 have p3:a.pu≠a.st:=z0x e5 e4 (fun z=>nomatch z)
 have p4:a.pu≠lo:=z0x e5 e2 (fun z=>nomatch z)
 have nd:(a.own []).Nodup:=by
  show (a.h::a.ce::a.de::a.pu::a.st::[]).Nodup
  simp [k1.symm,k2.symm,k4.symm,k3.symm,n1,p1.symm,n2,p2.symm,n3,p3]
 have nl:lo∉a.own []:=by
  show lo∉(a.h::a.ce::a.de::a.pu::a.st::[])
  simp [k5,n4,n5,p4.symm,n6]
 refine ⟨⟨vh_h,?_,?_,⟨[],?_,.nil⟩,?_,rfl,fun i z w h=>(by cases h),List.nodup_nil,⟨[],?_,.nil⟩,nd,nl,rfl⟩,⟨dx,o1⟩,⟨dy,o2⟩,e6,?_,c5.symm,n7,⟨fun z hz=>(by cases hz),fun k v e=>(by rw [valV_nil] at e; cases e)⟩⟩
 ·rw [z1o k1 c1]; exact e1
 ·rw [z1o k2 c2]; exact e3
 ·rw [z1o k5 c5]; exact e2
 ·rw [z1o k4 c4]; exact e5
 ·rw [z1o k3 c3]; exact e4
 ·show a.c∉(a.h::a.ce::a.de::a.pu::a.st::[])
  simp [n8,c1.symm,c2.symm,c4.symm,c3.symm]
theorem PH.elsewhere {CC CH:Addr} {H:Hp} {a:Ad} {lo b:Addr} {pl:List (Int × Addr)} {x:Hs} {ts:List (Key × V)} {o:HO} {us:List V} (A:PH CC CH H a lo pl x ts) (hb:b∉a.his lo pl) (e:H b=some (.lst us)):PH CC CH (upd H b o) a lo pl x ts:=by
 have n:∀ c,c∈a.his lo pl→c≠b:=fun c hc z=>hb (by rw [← z]; exact hc)
 have nh:=n _ (his_h a lo pl)
 have nc:=n _ (his_c a lo pl)
 obtain ⟨dx,o1⟩:=A.ob
 obtain ⟨dy,o2⟩:=A.co
 have kt:z1i (vh H a lo x) (upd (vh H a lo x) b o):=fun c ys q=>by
  rw [z01 (z0x q (show vh H a lo x b=some (.lst us) by rw [z1o nh.symm nc.symm]; exact e) (fun z=>nomatch z))]
  exact q
 obtain ⟨xs,l1,l2⟩:=A.va.hl
 obtain ⟨zs,l3,l4⟩:=A.va.sk
 refine ⟨?_,⟨dx,by rw [z01 nh]; exact o1⟩,⟨dy,by rw [z01 nc]; exact o2⟩,by rw [z01 (n _ (his_tk a lo pl))]; exact A.kt,A.nc,A.nl,A.nt,A.tf⟩
 rw [← vh_upd nh.symm nc.symm]
 refine ⟨by rw [z01 nh]; exact A.va.hh,by rw [z01 (n _ (his_ce a lo pl))]; exact A.va.hc,by rw [z01 (n _ (his_de a lo pl))]; exact A.va.hd,⟨xs,by rw [z01 (n _ (his_lo a lo pl))]; exact l1,l2.mono fun c y q=>q.mono kt⟩,by rw [z01 (n _ (his_pu a lo pl))]; exact A.va.hp,A.va.pe,fun i z w q1 q2=>?_,A.va.pn,⟨zs,by rw [z01 (n _ (his_st a lo pl))]; exact l3,Reps.keep kt _ _ (z0e SM.D_flat _) l4⟩,A.va.ap,A.va.nl,A.va.cd⟩
 obtain ⟨ys,w1,w2⟩:=A.va.pv i z w q1 q2
 exact ⟨ys,by rw [z01 (n _ (his_pl (List.mem_of_getElem? q1) a lo))]; exact w1,Reps.keep kt _ _ (z0e z0t _) w2⟩
theorem hs0_good {ps:List Int} {room:Int} (h1:1≤ps.length) (h2:ps.length≤100):(hs0 ps room).good 0 :=
 ⟨h1,h2,fun z hz=>(by cases hz),Nat.le_refl _,Nat.le_refl _,Nat.le_refl _,fun z hz=>(by cases hz)⟩
theorem begun_answered (x:Hs) (e:Deed):(x.answered e).1.begun≤x.begun+1:=by
 unfold Hs.answered
 cases x.refusal e with
 | some w=>exact Nat.le_succ _
 | none =>
  cases e with
  | begin =>
   show (if (x.began.full 1).2=true then ((x.began.full 1).1,Ans.word "no room") else ((x.began.full 1).1.opened,.num x.begun)).1.begun≤_
   have e1:(x.began.full 1).1.begun=x.begun+1:=z1x
   split
   ·exact Nat.le_of_eq e1
   ·exact Nat.le_of_eq e1
  | put d p n =>
   show (if (x.full 2).2=true then ((x.full 2).1,Ans.word "no room") else ((((x.full 2).1.took d p.toNat).putIn d p.toNat n),.word "done")).1.begun≤_
   have e1:(x.full 2).1.begun=x.begun:=z1x
   split
   ·show (x.full 2).1.begun≤_
    omega
   ·show (x.full 2).1.begun≤_
    omega
  | fin d=>exact Nat.le_succ _
  | drop d =>
   show (x.undo d).begun≤_
   rw [z25,undone_begun]
   exact Nat.le_succ _
  | look p=>exact Nat.le_succ _
  | carry p =>
   show (x.carryIn p.toNat).begun≤_
   rw [z35]
   exact Nat.le_succ _
  | cut =>
   show x.cutIn.begun≤_
   rw [cutIn_begun]
   exact Nat.le_succ _
theorem answered_words (x:Hs) (e:Deed):(∃ i,(x.answered e).2=.num i)∨(x.answered e).2=.word "done"∨(x.answered e).2=.word "no dealing"∨(x.answered e).2=.word "no page"∨(x.answered e).2=.word "taken"∨(x.answered e).2=.word "no room":=by
 unfold Hs.answered
 cases h:x.refusal e with
 | some w =>
  have hw:w="no dealing"∨w="no page"∨w="taken":=by
   cases e with
   | begin=>cases h
   | cut=>cases h
   | fin d =>
    have h':(if x.isOpen d=false then some ("no dealing":Str) else none)=some w:=h
    split at h'
    ·exact .inl (Option.some.inj h').symm
    ·cases h'
   | drop d =>
    have h':(if x.isOpen d=false then some ("no dealing":Str) else none)=some w:=h
    split at h'
    ·exact .inl (Option.some.inj h').symm
    ·cases h'
   | look p =>
    have h':(if p<0∨(x.desk.length:Int)≤p then some ("no page":Str) else none)=some w:=h
    split at h'
    ·exact .inr (.inl (Option.some.inj h').symm)
    ·cases h'
   | carry p =>
    have h':(if p<0∨(x.desk.length:Int)≤p then some ("no page":Str) else none)=some w:=h
    split at h'
    ·exact .inr (.inl (Option.some.inj h').symm)
    ·cases h'
   | put d p n =>
    have h':(if x.isOpen d=false then some ("no dealing":Str) else if p<0∨(x.desk.length:Int)≤p then some ("no page":Str) else if x.taker p.toNat=none∨x.taker p.toNat=some d then none else some ("taken":Str))=some w:=h
    split at h'
    ·exact .inl (Option.some.inj h').symm
    ·split at h'
     ·exact .inr (.inl (Option.some.inj h').symm)
     ·split at h'
      ·cases h'
      ·exact .inr (.inr (Option.some.inj h').symm)
  rcases hw with z | z | z
  ·rw [z]; exact .inr (.inr (.inl rfl))
  ·rw [z]; exact .inr (.inr (.inr (.inl rfl)))
  ·rw [z]; exact .inr (.inr (.inr (.inr (.inl rfl))))
 | none =>
  cases e with
  | begin =>
   show (∃ i,(if (x.began.full 1).2=true then ((x.began.full 1).1,Ans.word "no room") else ((x.began.full 1).1.opened,.num x.begun)).2=.num i)∨_
   show (∃ i,(if (x.began.full 1).2=true then ((x.began.full 1).1,Ans.word "no room") else ((x.began.full 1).1.opened,.num x.begun)).2=.num i)∨(if (x.began.full 1).2=true then ((x.began.full 1).1,Ans.word "no room") else ((x.began.full 1).1.opened,.num x.begun)).2=.word "done"∨_∨_∨_∨(if (x.began.full 1).2=true then ((x.began.full 1).1,Ans.word "no room") else ((x.began.full 1).1.opened,.num x.begun)).2=.word "no room"
   split
   ·exact .inr (.inr (.inr (.inr (.inr rfl))))
   ·exact .inl ⟨_,rfl⟩
  | put d p n =>
   show (∃ i,(if (x.full 2).2=true then ((x.full 2).1,Ans.word "no room") else ((((x.full 2).1.took d p.toNat).putIn d p.toNat n),.word "done")).2=.num i)∨(if (x.full 2).2=true then ((x.full 2).1,Ans.word "no room") else ((((x.full 2).1.took d p.toNat).putIn d p.toNat n),.word "done")).2=.word "done"∨_∨_∨_∨(if (x.full 2).2=true then ((x.full 2).1,Ans.word "no room") else ((((x.full 2).1.took d p.toNat).putIn d p.toNat n),.word "done")).2=.word "no room"
   split
   ·exact .inr (.inr (.inr (.inr (.inr rfl))))
   ·exact .inr (.inl rfl)
  | fin d=>exact .inr (.inl rfl)
  | drop d=>exact .inr (.inl rfl)
  | look p=>exact .inl ⟨_,rfl⟩
  | carry p=>exact .inr (.inl rfl)
  | cut=>exact .inr (.inl rfl)
end L2
set_option Elab.async false
set_option linter.all false
set_option maxRecDepth 100000
namespace L2
open PySem
theorem HA.elsewhere {H:Hp} {h ce de lo pu st b:Addr} {pl:List (Int × Addr)} {x:Hs} {o:HO} {us:List V} (A:HA H h ce de lo pu st pl x) (hb:b∉own h ce de pu st pl) (hl:b≠lo) (e:H b=some (.lst us)):HA (upd H b o) h ce de lo pu st pl x:=by
 have n:∀ c,c∈own h ce de pu st pl→c≠b:=fun c hc z=>hb (by rw [← z]; exact hc)
 have kt:z1i H (upd H b o):=fun c ys q=>by
  rw [z01 (z0x q e (fun z=>nomatch z))]
  exact q
 obtain ⟨xs,l1,l2⟩:=A.hl
 obtain ⟨zs,l3,l4⟩:=A.sk
 refine ⟨by rw [z01 (n _ (HA.mh ..))]; exact A.hh,by rw [z01 (n _ (HA.mc ..))]; exact A.hc,by rw [z01 (n _ (HA.md ..))]; exact A.hd,⟨xs,by rw [z01 hl.symm]; exact l1,l2.mono fun c y q=>q.mono kt⟩,by rw [z01 (n _ (HA.mp ..))]; exact A.hp,A.pe,fun i z w q1 q2=>?_,A.pn,⟨zs,by rw [z01 (n _ (HA.ms ..))]; exact l3,Reps.keep kt _ _ (z0e SM.D_flat _) l4⟩,A.ap,A.nl,A.cd⟩
 obtain ⟨ys,w1,w2⟩:=A.pv i z w q1 q2
 exact ⟨ys,by rw [z01 (n _ (HA.ml (List.mem_of_getElem? q1) ..))]; exact w1,Reps.keep kt _ _ (z0e z0t _) w2⟩
theorem Deed.sz_le (e:Deed):e.D.sz≤6:=by
 cases e <;> simp only [Deed.D,sz_tup,z1q,z26,sz_str,sz_int] <;> omega
theorem szs_deeds:∀ l:List Deed,szs (l.map Deed.D)≤l.length * 6
 | []=>by rw [List.map_nil,z26]; exact Nat.zero_le _
 | e::r=>by
  have h1:=szs_deeds r
  have h2:=e.sz_le
  rw [List.map_cons,z1q,List.length_cons]
  omega
end L2
set_option Elab.async false
set_option linter.all false
set_option maxRecDepth 100000
namespace L2
open PySem
def Hs.pre (x:Hs) (s:List SM):Hs:={ x with strokes:=s++x.strokes }
section
variable {x:Hs} {s:List SM} {t:SM} {d m:Int} {p:Nat}
theorem stroke_pre:(x.pre s).stroke t=(x.stroke t).pre s:=by
 cases t <;> simp [Hs.pre,Hs.stroke,List.append_assoc]
theorem cutIn_pre:(x.pre s).cutIn=x.cutIn.pre s:=by
 show (if 0<z1h x.cellar x.desk x.isOpen x.log then (x.pre s).stroke (.cut (z1h x.cellar x.desk x.isOpen x.log)) else x.pre s)=_
 unfold Hs.cutIn
 split
 ·exact stroke_pre
 ·rfl
theorem carryIn_pre:(x.pre s).carryIn p=(x.carryIn p).pre s:=by
 show (if x.cellar[p]?=x.desk[p]? then x.pre s else (x.pre s).stroke (.page p (x.desk.getD p 0)))=_
 unfold Hs.carryIn
 split
 ·rfl
 ·exact stroke_pre
theorem carries_pre:∀ {i:Nat},(x.pre s).carries i=(x.carries i).pre s
 | 0=>rfl
 | i+1=>by rw [z16,z16,carries_pre,carryIn_pre]
theorem madeRoom_pre:(x.pre s).madeRoom=x.madeRoom.pre s:=by
 rw [z1d,z1d,← cutIn_pre,← carries_pre]
 rfl
theorem full_pre:(x.pre s).full m=((x.full m).1.pre s,(x.full m).2):=by
 show (if x.roomy m=true then (x.pre s,false) else ((x.pre s).madeRoom, !(x.pre s).madeRoom.roomy m))=_
 unfold Hs.full
 split
 ·rfl
 ·rw [madeRoom_pre]
  rfl
theorem putIn_pre {n:Int}:(x.pre s).putIn d p n=(x.putIn d p n).pre s:=by
 show ({ (x.pre s).stroke (.line (.put d p (x.desk.getD p 0) n)) with desk:=x.desk.set p n }:Hs)=_
 rw [stroke_pre]
 rfl
theorem undone_pre:∀ {l:List (Nat × Int)} {x:Hs},(x.pre s).undone d l=(x.undone d l).pre s
 | [],_=>rfl
 | z::r,x=>by
  show ((x.pre s).putIn d z.1 z.2).undone d r=((x.putIn d z.1 z.2).undone d r).pre s
  rw [putIn_pre]
  exact undone_pre
theorem undo_pre:(x.pre s).undo d=(x.undo d).pre s:=by
 rw [z25,z25]
 exact undone_pre
theorem endIn_pre:(x.pre s).endIn d=(x.endIn d).pre s:=by
 show ({ (x.pre s).stroke (.line (.fin d)) with puts:=x.puts.filter fun z=>z.1 != d }:Hs)=_
 rw [stroke_pre]
 rfl
theorem deed_pre {e:Deed}:(x.pre s).deed e=((x.deed e).1.pre s,(x.deed e).2):=by
 cases e with
 | begin =>
  show (if ((x.began.pre s).full 1).2=true then (((x.began.pre s).full 1).1,Ans.word "no room") else (((x.began.pre s).full 1).1.opened,.num x.begun))=_
  rw [full_pre]
  unfold Hs.deed
  dsimp only
  split
  ·rfl
  ·rfl
 | put d p n =>
  show (if ((x.pre s).full 2).2=true then (((x.pre s).full 2).1,Ans.word "no room") else (((((x.pre s).full 2).1.took d p.toNat).putIn d p.toNat n),.word "done"))=_
  rw [full_pre]
  unfold Hs.deed
  dsimp only
  split
  ·rfl
  ·show ((((x.full 2).1.took d p.toNat).pre s).putIn d p.toNat n,Ans.word "done")=_
   rw [putIn_pre]
 | fin d =>
  show ((x.pre s).endIn d,Ans.word "done")=_
  rw [endIn_pre]
  rfl
 | drop d =>
  show (((x.pre s).undo d).endIn d,Ans.word "done")=_
  rw [undo_pre,endIn_pre]
  rfl
 | look p=>rfl
 | carry p =>
  show ((x.pre s).carryIn p.toNat,Ans.word "done")=_
  rw [carryIn_pre]
  rfl
 | cut =>
  show ((x.pre s).cutIn,Ans.word "done")=_
  rw [cutIn_pre]
  rfl
theorem refusal_pre {e:Deed}:(x.pre s).refusal e=x.refusal e:=by cases e <;> rfl
theorem answered_pre {e:Deed}:(x.pre s).answered e=((x.answered e).1.pre s,(x.answered e).2):=by
 unfold Hs.answered
 rw [refusal_pre]
 cases x.refusal e with
 | some w=>rfl
 | none=>exact deed_pre
end
def Hs.bare (x:Hs):Hs:={ x with strokes:=[] }
theorem bare_pre (x:Hs):x.bare.pre x.strokes=x:=by
 show ({ x with strokes:=x.strokes++[] }:Hs)=x
 rw [List.append_nil]
def Hs.row (x:Hs) (e:Deed):List SM:=(x.bare.answered e).1.strokes
theorem answered_bare (x:Hs) (e:Deed):x.answered e=((x.bare.answered e).1.pre x.strokes,(x.bare.answered e).2):=by
 rw [← answered_pre,bare_pre]
theorem row_strokes (x:Hs) (e:Deed):(x.answered e).1.strokes=x.strokes++x.row e:=by
 rw [answered_bare]
 rfl
theorem next_bare (x:Hs) (e:Deed):(x.answered e).1.bare=(x.bare.answered e).1.bare:=by
 rw [answered_bare]
 rfl
theorem row_bare (x:Hs) (e:Deed):x.bare.row e=x.row e:=rfl
def Hs.rows:Hs→List Deed→List (List SM)
 | _,[]=>[]
 | x,e::r=>x.row e::(x.answered e).1.rows r
theorem rows_snoc:∀ (l:List Deed) (x:Hs) (e:Deed),x.rows (l++[e])=x.rows l++[(x.run l).row e]
 | [],_,_=>rfl
 | a::r,x,e=>by
  show x.row a::(x.answered a).1.rows (r++[e])=_
  rw [rows_snoc r]
  rfl
theorem z34:∀ (l:List Deed) (x:Hs),(x.rows l).length=l.length
 | [],_=>rfl
 | a::r,x=>by
  show ((x.answered a).1.rows r).length+1=r.length+1
  rw [z34 r]
theorem run_strokes:∀ (l:List Deed) (x:Hs),(x.run l).strokes=x.strokes++(x.rows l).flatten
 | [],x=>by
  show x.strokes=x.strokes++[]
  rw [List.append_nil]
 | a::r,x=>by
  show ((x.answered a).1.run r).strokes=x.strokes++(x.row a++((x.answered a).1.rows r).flatten)
  rw [run_strokes r,row_strokes,List.append_assoc]
def Hs.runB:Hs→List Deed→Hs
 | x,[]=>x
 | x,e::r=>Hs.runB (x.bare.answered e).1 r
theorem runB_snoc:∀ (l:List Deed) (x:Hs) (e:Deed),x.runB (l++[e])=((x.runB l).bare.answered e).1
 | [],_,_=>rfl
 | a::r,x,e=>runB_snoc r _ e
theorem runB_bare:∀ (l:List Deed) (x y:Hs),y.bare=x.bare→(y.runB l).bare=(x.run l).bare
 | [],_,_,h=>h
 | a::r,x,y,h=>by
  show (Hs.runB (y.bare.answered a).1 r).bare=((x.answered a).1.run r).bare
  refine runB_bare r _ _ ?_
  rw [h,next_bare x]
theorem Hs.good.bare {x:Hs} {n:Nat} (g:x.good n):x.bare.good n:=⟨g.d1,g.d2,g.pz,g.pl,Nat.zero_le _,g.ll,g.ok⟩
theorem Hs.good.runB:∀ (l:List Deed) {x:Hs} {n:Nat},x.good n→n+l.length≤110→(x.runB l).good (n+l.length)
 | [],_,_,h,_=>h
 | a::r,x,n,h,hn=>by
  have hl:(a::r).length=r.length+1:=rfl
  have:=Hs.good.runB r (h.bare.answered (by omega) a) (by omega)
  have e:n+1+r.length=n+(a::r).length:=by omega
  rw [e] at this
  exact this
theorem runB_row (l:List Deed) (x:Hs) (e:Deed):(x.runB l).row e=(x.run l).row e:=by
 rw [← row_bare,runB_bare l x x rfl,row_bare]
def rowD (r:List SM):D:=.lst (r.map SM.D)
theorem szs_rows:∀ l:List (List SM),szs (l.map rowD)≤l.length+l.flatten.length * 8
 | []=>by rw [List.map_nil,z26]; exact Nat.zero_le _
 | r::t=>by
  have h1:=szs_rows t
  have h2:=szs_strokes r
  rw [List.map_cons,z1q,List.length_cons,List.flatten_cons,List.length_append]
  show (D.lst (r.map SM.D)).sz+_≤_
  rw [sz_lst]
  omega
end L2
set_option Elab.async false
set_option linter.all false
set_option maxRecDepth 100000
namespace L2
open PySem
def z21 (H:Hp) (bad:List Addr) (rows:List (List SM)) (xs:List V):Prop:=All2 (fun row v=>∃ b zs,v=.ref b∧b∉bad∧H b=some (.lst zs)∧Reps H (row.map SM.D) zs) rows xs
section
variable {H H':Hp} {bad bad':List Addr} {rows:List (List SM)} {xs:List V}
theorem z21.nil:z21 H bad [] []:=All2.nil
theorem z21.move (h:z21 H bad rows xs) (st:∀ b o,b∉bad→H b=some o→H' b=some o) (kt:z1i H H') (nb:∀ b,b∈bad'→b∈bad∨H b=none):z21 H' bad' rows xs :=
 h.mono fun row v ⟨b,zs,e,hb,hz,hr⟩=>⟨b,zs,e,(fun z=>by
  rcases nb b z with y | y
  ·exact hb y
  ·rw [hz] at y; cases y),st b _ hb hz,Reps.keep kt _ _ (z0e SM.D_flat _) hr⟩
theorem z21.same (h:z21 H bad rows xs) (s:Same H H'):z21 H' bad rows xs:=h.move (fun b o _ e=>s b o e) s.keepT fun b hb=>.inl hb
theorem z21.snoc {row:List SM} {b:Addr} {zs:List V} (h:z21 H bad rows xs) (hb:b∉bad) (hz:H b=some (.lst zs)) (hr:Reps H (row.map SM.D) zs):z21 H bad (rows++[row]) (xs++[.ref b]) :=
 All2.snoc h ⟨b,zs,rfl,hb,hz,hr⟩
theorem reps_all2 {α:Type} {f:α→D}:∀ {l:List α} {xs:List V},All2 (fun a v=>Rep H (f a) v) l xs→Reps H (l.map f) xs
 | [],[],_=>.nil
 | [],_::_,h=>absurd h.1 (by simp)
 | _::_,[],h=>absurd h.1 (by simp)
 | a::l,x::xs,h=>.cons (h.2 0 a x rfl rfl) (reps_all2 ⟨Nat.succ.inj h.1,fun i a x h1 h2=>h.2 (i+1) a x h1 h2⟩)
theorem z21.reps (h:z21 H bad rows xs):Reps H (rows.map rowD) xs :=
 reps_all2 (All2.mono h fun row v ⟨b,zs,e,_,hz,hr⟩=>by
  subst e
  exact Rep.ofLst hz hr)
theorem reps_drop {H:Hp}:∀ {n:Nat} {l:List D} {xs:List V},Reps H l xs→Reps H (l.drop n) (xs.drop n)
 | 0,_,_,h=>h
 | n+1,[],xs,h=>by cases h.inv0; exact .nil
 | n+1,d::l,xs,h=>by
  obtain ⟨x,t,rfl,_,r⟩:=h.inv
  exact reps_drop (n:=n) r
end
end L2
set_option Elab.async false
set_option linter.all false
set_option maxRecDepth 100000
namespace L2
open PySem
section
variable {H:Hp} {h ce de lo pu st u:Addr} {pl:List (Int × Addr)} {x:Hs}
theorem HA.pStrokes (A:HA H h ce de lo pu st pl x) (v:V):DPut H h (.str "strokes") v (upd H h (.dK (putK (hk ce de lo pu st x.room x.begun) (Sum.inr "strokes") v))):=.inl ⟨_,Sum.inr "strokes",A.hh,rfl,(by show 7<sizeLine; rw [sizeLine_eq]; decide),rfl⟩
theorem own_setK (ap:(own h ce de pu st pl).Nodup) (hn:u∉own h ce de pu st pl):(own h ce de pu u pl).Nodup:=by
 unfold own at *
 simp only [List.nodup_cons,List.mem_cons,not_or] at ap hn ⊢
 obtain ⟨⟨a1,a2,a3,a4,a5⟩,⟨b1,b2,b3,b4⟩,⟨c1,c2,c3⟩,⟨d1,d2⟩,e1,f1⟩:=ap
 obtain ⟨n1,n2,n3,n4,n5,n6⟩:=hn
 exact ⟨⟨a1,a2,a3,Ne.symm n1,a5⟩,⟨b1,b2,Ne.symm n2,b4⟩,⟨c1,Ne.symm n3,c3⟩,⟨Ne.symm n4,d2⟩,n6,f1⟩
theorem nl_setK (nl:lo∉own h ce de pu st pl) (hl:u≠lo):lo∉own h ce de pu u pl:=by
 unfold own at *
 simp only [List.mem_cons,not_or] at nl ⊢
 exact ⟨nl.1,nl.2.1,nl.2.2.1,nl.2.2.2.1,Ne.symm hl,nl.2.2.2.2.2⟩
theorem HA.setK (A:HA H h ce de lo pu st pl x) (e:H u=some (.lst [])) (hn:u∉own h ce de pu st pl) (hl:u≠lo):HA (upd H h (.dK (putK (hk ce de lo pu st x.room x.begun) (Sum.inr "strokes") (.ref u)))) h ce de lo pu u pl x.bare:=by
 obtain ⟨n1,n2,n3,n4,n5,n6,n7,n8,n9,n10,m1,m2,m3,m4,m5,np⟩:=A.ne
 rw [hk_setStrokes]
 have kt:z1i H (upd H h (.dK (hk ce de lo pu u x.room x.begun))):=fun b ys q=>by
  rw [z01 (z0x q A.hh (fun z=>nomatch z))]
  exact q
 have nuh:u≠h:=fun e=>hn (by rw [e]; exact List.mem_cons_self)
 obtain ⟨xs,e1,e2⟩:=A.hl
 refine ⟨z02,by rw [z01 n1.symm]; exact A.hc,by rw [z01 n2.symm]; exact A.hd,⟨xs,by rw [z01 m1]; exact e1,e2.mono fun a y q=>q.mono kt⟩,by rw [z01 n3.symm]; exact A.hp,A.pe,fun i z w a b=>?_,A.pn,⟨[],by rw [z01 nuh]; exact e,.nil⟩,own_setK A.ap hn,nl_setK A.nl hl,A.cd⟩
 obtain ⟨ys,q1,q2⟩:=A.pv i z w a b
 exact ⟨ys,by rw [z01 (np z (List.mem_of_getElem? a)).1]; exact q1,Reps.keep kt _ _ (z0e z0t _) q2⟩
theorem own_cases {b:Addr} (hb:b∈own h ce de pu u pl):b=u∨b∈own h ce de pu st pl:=by
 unfold own at *
 simp only [List.mem_cons] at hb ⊢
 rcases hb with z | z | z | z | z | z
 ·exact .inr (.inl z)
 ·exact .inr (.inr (.inl z))
 ·exact .inr (.inr (.inr (.inl z)))
 ·exact .inr (.inr (.inr (.inr (.inl z))))
 ·exact .inl z
 ·exact .inr (.inr (.inr (.inr (.inr (.inr z)))))
def own4 (h ce de pu:Addr) (pl:List (Int × Addr)):List Addr:=h::ce::de::pu::pl.map (·.2)
theorem own4_own {b:Addr} (hb:b∈own4 h ce de pu pl):b∈own h ce de pu st pl:=by
 unfold own4 at hb
 unfold own
 simp only [List.mem_cons] at hb ⊢
 rcases hb with z | z | z | z | z
 ·exact .inl z
 ·exact .inr (.inl z)
 ·exact .inr (.inr (.inl z))
 ·exact .inr (.inr (.inr (.inl z)))
 ·exact .inr (.inr (.inr (.inr (.inr z))))
theorem own_own4 {b:Addr} (hb:b∈own h ce de pu u pl):b=u∨b∈own4 h ce de pu pl:=by
 unfold own at hb
 unfold own4
 simp only [List.mem_cons] at hb ⊢
 rcases hb with z | z | z | z | z | z
 ·exact .inr (.inl z)
 ·exact .inr (.inr (.inl z))
 ·exact .inr (.inr (.inr (.inl z)))
 ·exact .inr (.inr (.inr (.inr (.inl z))))
 ·exact .inl z
 ·exact .inr (.inr (.inr (.inr (.inr z))))
theorem HA.st_own4 (A:HA H h ce de lo pu st pl x):st∉own4 h ce de pu pl:=by
 have ap:=A.ap
 unfold own at ap
 unfold own4
 simp only [List.nodup_cons,List.mem_cons,not_or] at ap ⊢
 obtain ⟨⟨a1,a2,a3,a4,a5⟩,⟨b1,b2,b3,b4⟩,⟨c1,c2,c3⟩,⟨d1,d2⟩,e1,f1⟩:=ap
 exact ⟨Ne.symm a4,Ne.symm b3,Ne.symm c2,Ne.symm d1,e1⟩
end
end L2
set_option Elab.async false
set_option linter.all false
set_option maxRecDepth 100000
namespace K10
open PySem L2
def top (i:Nat):Stmt:=PySem.Challenge.pw_quillhouse_k10_whole_strokes_of_each_dee.main.body.getD i (.Pass ⟨0,0,0,0⟩)
abbrev sCInit:Stmt:=z1g (top 7) 0
abbrev sDo:Stmt:=z1g (top 7) 1
abbrev sNeedF:Stmt:=top 9
abbrev sLastP:Stmt:=top 10
abbrev sHInit:Stmt:=z1g (top 12) 0
abbrev sBegin:Stmt:=z1g (top 12) 1
abbrev sPut:Stmt:=z1g (top 12) 2
abbrev sEnd:Stmt:=z1g (top 12) 3
abbrev sDrop:Stmt:=z1g (top 12) 4
abbrev sLook:Stmt:=z1g (top 12) 5
abbrev sCarry:Stmt:=z1g (top 12) 6
abbrev sCut:Stmt:=z1g (top 12) 7
abbrev sAskD:Stmt:=z1g (top 12) 8
abbrev sAskP:Stmt:=z1g (top 12) 9
abbrev sAskF:Stmt:=z1g (top 12) 10
abbrev sAskR:Stmt:=z1g (top 12) 11
abbrev sHasR:Stmt:=z1g (top 12) 12
abbrev sMakeR:Stmt:=z1g (top 12) 13
abbrev sWriteP:Stmt:=z1g (top 12) 14
abbrev sMakeS:Stmt:=z1g (top 12) 15
abbrev z2h:Stmt:=top 14
abbrev sAnswer:Stmt:=top 15
abbrev sDoDeed:Stmt:=top 16
abbrev sDraw:Stmt:=top 18
abbrev sWhole:Stmt:=top 19
abbrev sAt:Stmt:=top 20
abbrev sAlike:Stmt:=top 21
abbrev z22:Stmt:=top 22
abbrev sTaker:Stmt:=top 23
abbrev sRefusal:Stmt:=top 24
abbrev sBound:Stmt:=top 25
abbrev sAgain:Stmt:=top 26
abbrev sNeeded:Stmt:=top 27
abbrev sHouse:Stmt:=top 28
abbrev sStroke:Stmt:=top 29
abbrev sCutIn:Stmt:=top 30
abbrev sCarryIn:Stmt:=top 31
abbrev sFull:Stmt:=top 32
abbrev sPutIn:Stmt:=top 33
abbrev sEndIn:Stmt:=top 34
abbrev z2u:Stmt:=top 35
abbrev sPages:Stmt:=top 36
abbrev sRoom:Stmt:=top 37
abbrev sCount:Stmt:=top 38
abbrev sLaw:Stmt:=top 39
theorem ifT {c A B:Prop} [Decidable c] (hc:c) (h:A):if decide c=true then A else B:=by
 rw [decide_eq_true hc]
 exact iteT h
theorem ifF {c A B:Prop} [Decidable c] (hc:¬c) (h:B):if decide c=true then A else B:=by
 rw [decide_eq_false hc]
 exact iteF h
theorem ifNT {c A B:Prop} [Decidable c] (hc:¬c) (h:A):if (!decide c)=true then A else B:=by
 rw [decide_eq_false hc]
 exact iteT h
theorem bList:bootBuiltins "list"=some (.type "list"):=by decide +kernel
theorem bTuple:bootBuiltins "tuple"=some (.type "tuple"):=by decide +kernel
theorem bInt:bootBuiltins "int"=some (.type "int"):=by decide +kernel
theorem bStr:bootBuiltins "str"=some (.type "str"):=by decide +kernel
theorem bBool:bootBuiltins "bool"=some (.type "bool"):=by decide +kernel
theorem bDict:bootBuiltins "dict"=some (.type "dict"):=by decide +kernel
theorem bIsi:bootBuiltins "isinstance"=some (.builtin "isinstance"):=by decide +kernel
section
variable (K:PySem.W.Frag)
theorem isi_int_int:PySem.W.kitOne K (.type "int") (.type "int")=some true:=by kernel_rfl
theorem isi_int_bool:PySem.W.kitOne K (.type "int") (.type "bool")=some false:=by kernel_rfl
theorem isi_int_str:PySem.W.kitOne K (.type "int") (.type "str")=some false:=by kernel_rfl
theorem isi_str_str:PySem.W.kitOne K (.type "str") (.type "str")=some true:=by kernel_rfl
theorem z38:PySem.W.kitOne K (.type "list") (.type "list")=some true:=by kernel_rfl
theorem isi_list_tuple:PySem.W.kitOne K (.type "list") (.type "tuple")=some false:=by kernel_rfl
theorem isi_tuple_list:PySem.W.kitOne K (.type "tuple") (.type "list")=some false:=by kernel_rfl
theorem isi_tuple_tuple:PySem.W.kitOne K (.type "tuple") (.type "tuple")=some true:=by kernel_rfl
theorem isa_int:PySem.W.kitAny K (.type "int") ([ "list","tuple"].map Value.type)=some false:=by kernel_rfl
theorem isa_str:PySem.W.kitAny K (.type "str") ([ "list","tuple"].map Value.type)=some false:=by kernel_rfl
theorem isa_list:PySem.W.kitAny K (.type "list") ([ "list","tuple"].map Value.type)=some true:=by kernel_rfl
theorem isa_tuple:PySem.W.kitAny K (.type "tuple") ([ "list","tuple"].map Value.type)=some true:=by kernel_rfl
end
structure Blt (mg:Str→Option Value):Prop where
 lst:mg "list"=none
 tup:mg "tuple"=none
 int:mg "int"=none
 str:mg "str"=none
 bl:mg "bool"=none
 isi:mg "isinstance"=none
 len:mg "len"=none
 rng:mg "range"=none
 enu:mg "enumerate"=none
 dct:mg "dict"=none
def spDraw:Sp:=fun vs H Q _=>∃ n p m:Int,vs=[.int n,.int p,.int m]∧0<p∧0<m∧∀ r:Int,0≤r→r<m→Q (.int r) H
def spWhole:Sp:=fun vs H Q _=>∃ i:Int,vs=[.int i]∧Q (.bl true) H
def spAt (K:PySem.W.Frag):Sp:=fun vs H Q _=>∃ (a:Addr) (ns:List Int) (k:Int),vs=[.ref a,.int k]∧SqL K H a (ns.map V.int)∧0≤k∧∀ z:Int,Q (.int z) H
def spAlike:Sp:=fun vs H Q _=>∃ (x y:V) (d:D),vs=[x,y]∧Rep H d x∧Rep H d y∧d.sz≤190000∧∀ H',Same H H'→Q (.bl true) H'
section
variable {P:Program} {w:World} {K:PySem.W.Frag} {mg:Str→Option Value} {base:Heap} {f:Addr} {fd:FuncData}
theorem scDraw:z0h ["_law_number","_law_prime","_law_many"] ["_law_number","_law_prime","_law_many"] (z06 sDraw):=⟨rfl,rfl,rfl,by decide +kernel,rfl,by decide +kernel,by decide +kernel⟩
theorem ok_draw (F:Fun K "_law_draw" "_law_draw" sDraw f fd):FnOk P w K mg base CX0 1 f fd ["_law_number","_law_prime","_law_many"] spDraw:=by
 refine F.ok scDraw (fun vs H Q E h=>?_) (fun cdv A outer s H vs Q E hr h=>?_)
 ·obtain ⟨n,p,m,rfl,_⟩:=h
  rfl
 obtain ⟨n,p,m,rfl,hp,hm,q⟩:=h
 refine ⟨_,z04 (z0q (z0v z2f (z0v z2f (z0v op_mul (pv 0) z08) (pv 1)) (pv 2))),?_⟩
 refine ⟨_,rfl,_,_,rfl,rfl,.inr ⟨by decide,by decide⟩,_,rfl,_,_,rfl,rfl,hp,_,rfl,_,_,rfl,rfl,hm,?_⟩
 exact q _ (Int.emod_nonneg _ (by omega)) (Int.emod_lt_of_pos _ hm)
theorem scWhole:z0h ["_law_found"] ["_law_found"] (z06 sWhole):=⟨rfl,rfl,rfl,by decide +kernel,rfl,by decide +kernel,by decide +kernel⟩
theorem ok_whole (F:Fun K "_law_whole" "_law_whole" sWhole f fd) (B:Blt mg):FnOk P w K mg base CX0 1 f fd ["_law_found"] spWhole:=by
 refine F.ok scWhole (fun vs H Q E h=>?_) (fun cdv A outer s H vs Q E hr h=>?_)
 ·obtain ⟨i,rfl,_⟩:=h
  rfl
 obtain ⟨i,rfl,q⟩:=h
 refine ⟨_,z04 (z0q (pe_and (z0p z2g rfl B.isi bIsi (z00 (pv 0) (z00 (z2l (v:=.ty "int") rfl B.int bInt rfl) z05)))
  (pe_one (pe_not (z0p z2g rfl B.isi bIsi (z00 (pv 0) (z00 (z2l (v:=.ty "bool") rfl B.bl bBool rfl) z05))))))),?_⟩
 refine ⟨_,rfl,_,_,_,_,rfl,.int i,isi_int_int K,_,rfl,iteT ?_⟩
 exact ⟨_,rfl,_,_,_,_,rfl,.int i,isi_int_bool K,_,rfl,q⟩
theorem scAt:z0h ["_law_script","_law_k"] ["_law_script","_law_k"] (z06 sAt):=⟨rfl,rfl,rfl,by decide +kernel,rfl,by decide +kernel,by decide +kernel⟩
theorem ok_at (F:Fun K "_law_at" "_law_at" sAt f fd) (B:Blt mg):FnOk P w K mg base CX0 1 f fd ["_law_script","_law_k"] (spAt K):=by
 refine F.ok scAt (fun vs H Q E h=>?_) (fun cdv A outer s H vs Q E hr h=>?_)
 ·obtain ⟨a,ns,k,rfl,_⟩:=h
  rfl
 obtain ⟨a,ns,k,rfl,hS,h0,q⟩:=h
 refine ⟨_,z03 (z0u (z0b op_lt (pv 1) (z0p z0k rfl B.len PySem.boot_len (z00 (pv 0) z05)) (z0i _)) (z04 (z0q (z0j z0w (pv 0) (pv 1) (fun _ _=>rfl)))) z0l) (z04 (z0q z08)),?_⟩
 refine ⟨_,rfl,_,rfl,a,_,rfl,.inl hS,_,_,rfl,rfl,_,rfl,?_⟩
 refine ite2 (fun c=>?_) (fun c=>?_)
 ·have c':k<(((ns.map V.int).length:Nat):Int):=of_decide_eq_true c
  obtain ⟨v,h1,h2⟩:=atI_in h0 c'
  obtain ⟨z,rfl,_⟩:=get_map_int h2
  exact ⟨_,rfl,_,rfl,a,_,_,_,rfl,rfl,hS,h1,q z⟩
 ·exact q 0
theorem scAlike:z0h ["_law_found","_law_due","_law_left","_law_right","_law_one","_law_two"] ["_law_found","_law_due"] (z06 sAlike):=⟨rfl,rfl,rfl,by decide +kernel,rfl,by decide +kernel,by decide +kernel⟩
theorem last_of {α:Type} (l:List α) (a:α):(l++[a])[(l++[a]).length - 1]?=some a:=by
 rw [List.length_append,List.length_singleton,Nat.add_sub_cancel,List.getElem?_append_right (Nat.le_refl _),Nat.sub_self]
 rfl
theorem ok_alike {g:Addr} {gd:FuncData} (F:Fun K "_law_alike" "_law_alike" sAlike f fd) (B:Blt mg) (GW:FnOk P w K mg base CX0 1 g gd ["_law_found"] spWhole) (bW:z0r K gd ["_law_found"] []) (kW:PySem.W.keepIn K (.ref g)=true) (mW:mg "_law_whole"=some (.ref g)) :
  FnOk P w K mg base CX0 2 f fd ["_law_found","_law_due"] spAlike:=by
 refine F.ok scAlike (fun vs H Q E h=>?_) (fun cdv A outer s H vs Q E hr h=>?_)
 ·obtain ⟨x,y,d,rfl,_⟩:=h
  rfl
 obtain ⟨x,y,d,rfl,hx,hy,hz,q⟩:=h
 have hu:=z2n hr
 refine ⟨_,(z03 (z0n (i:=2) scAlike.nd rfl (Or.inl rfl) (z17 (z00 (pv 0) z05))) (z03 (z0n (i:=3) scAlike.nd rfl (Or.inl rfl) (z17 (z00 (pv 1) z05))) (z03 (ps_while PassesOwn.never (z0b (op_neNil (Nat.lt_of_succ_lt hu)) (pv 3) (z17 z05) (z0i _)) (z03 (z0n (i:=4) scAlike.nd rfl (Or.inl rfl) (pe_bm0 PySem.F.plainAttrs_list PySem.F.slot_list_pop PySem.F.type_list_pop mt_pop (pv 2))) (z03 (z0n (i:=5) scAlike.nd rfl (Or.inl rfl) (pe_bm0 PySem.F.plainAttrs_list PySem.F.slot_list_pop PySem.F.type_list_pop mt_pop (pv 3))) (z04 (z0u (pt_val (z0p call_isiT rfl B.isi bIsi (z00 (pv 5) (z00 (z1p (z00 (z2l (v:=.ty "list") rfl B.lst bList rfl) (z00 (z2l (v:=.ty "tuple") rfl B.tup bTuple rfl) z05))) z05)))) (z03 (z0u (z0b op_ne (z0p z2g rfl B.isi bIsi (z00 (pv 4) (z00 (z2l (v:=.ty "list") rfl B.lst bList rfl) z05))) (z0p z2g rfl B.isi bIsi (z00 (pv 5) (z00 (z2l (v:=.ty "list") rfl B.lst bList rfl) z05))) (z0i _)) (z04 (z0q pe_bl)) z0l) (z03 (z0u (pt_or2 (z0b op_ne (z0p z2g rfl B.isi bIsi (z00 (pv 4) (z00 (z2l (v:=.ty "tuple") rfl B.tup bTuple rfl) z05))) (z0p z2g rfl B.isi bIsi (z00 (pv 5) (z00 (z2l (v:=.ty "tuple") rfl B.tup bTuple rfl) z05))) (z0i _)) (z0b op_ne (z0p z0k rfl B.len PySem.boot_len (z00 (pv 4) z05)) (z0p z0k rfl B.len PySem.boot_len (z00 (pv 5) z05)) (z0i _))) (z04 (z0q pe_bl)) z0l) (z03 (z0d (pe_bm PySem.F.plainAttrs_list PySem.F.slot_list_extend PySem.F.type_list_extend mt_extend2 (pv 2) (z00 (pv 4) z05))) (z04 (z0d (pe_bm PySem.F.plainAttrs_list PySem.F.slot_list_extend PySem.F.type_list_extend mt_extend2 (pv 3) (z00 (pv 5) z05))))))) (z04 (z0u (pt_val (z0p z2g rfl B.isi bIsi (z00 (pv 5) (z00 (z2l (v:=.ty "str") rfl B.str bStr rfl) z05)))) (z04 (z0u (pt_or2 (pt_not (pt_val (z0p z2g rfl B.isi bIsi (z00 (pv 4) (z00 (z2l (v:=.ty "str") rfl B.str bStr rfl) z05))))) (z0b op_ne (pv 4) (pv 5) (z0i _))) (z04 (z0q pe_bl)) z0l)) (z04 (z0u (pt_or2 (pt_not (pt_val (z0m GW (hr.mono (by decide)) rfl mW kW bW .nil z0z (z00 (pv 4) z05)))) (z0b op_ne (pv 4) (pv 5) (z0i _))) (z04 (z0q pe_bl)) z0l))))))))) (z04 (z0q pe_bl))))),?_⟩
 have small:∀ {n:Nat},n≤190000→n<sizeLine:=fun h=>z2p (by omega)
 refine ⟨_,rfl,le5,fun l hl=>⟨_,rfl,le5,fun r hr'=>?_⟩⟩
 have nlr:l≠r:=z07 (z02 (H:=H) (a:=l) (o:=.lst [x])) hr'
 have hr0:H r=none:=by rw [z01 nlr.symm] at hr'; exact hr'
 refine ⟨fun m σ H2=>∃ (ds:List D) (xs ys:List V) (o1 o2:Option V),m=szs ds∧σ=[some x,some y,some (.ref l),some (.ref r),o1,o2]∧Same H H2∧H2 l=some (.lst xs)∧H2 r=some (.lst ys)∧Reps H ds xs∧Reps H ds ys∧szs ds≤190000,
  ⟨d.sz,[d],[x],[y],none,none,by rw [z1q,z26]; rfl,rfl,(z09 hl _).trans (z09 hr' _),by rw [z01 nlr,z02],z02,.cons hx .nil,.cons hy .nil,by rw [z1q,z26]; exact hz⟩,?_⟩
 rintro m σ H2 ⟨ds,xs,ys,o1,o2,rfl,rfl,s2,e1,e2,r1,r2,hsz⟩
 refine ⟨_,rfl,le5,fun t ht=>?_⟩
 have s3:Same H (upd H2 t (.lst [])):=s2.trans (z09 ht _)
 have e1':(upd H2 t (.lst [])) l=some (.lst xs):=by rw [z01 (z07 e1 ht)]; exact e1
 have e2':(upd H2 t (.lst [])) r=some (.lst ys):=by rw [z01 (z07 e2 ht)]; exact e2
 have e3':(upd H2 t (.lst [])) t=some (.lst []):=z02
 generalize upd H2 t (.lst [])=H3 at s3 e1' e2' e3' ⊢
 refine ⟨r,t,ys,rfl,rfl,e2',e3',_,rfl,?_⟩
 rcases List.eq_nil_or_concat ds with rfl | ⟨ds',d',eds⟩
 ·rw [r2.inv0]
  refine iteF ?_
  exact q H3 s3
 rw [List.concat_eq_append] at eds
 subst eds
 obtain ⟨xs',x',rfl,rx1,rx2⟩:=r1.snoc
 obtain ⟨ys',y',rfl,ry1,ry2⟩:=r2.snoc
 have hne:(!(ys'++[y']).isEmpty)=true:=by simp
 rw [hne]
 refine iteT ⟨_,fun σ' H' h=>h,?_⟩
 have nx:∀ (l0:List D) (us vs:List V) (o1 o2:Option V) (H':Hp),szs l0<d'.sz→Same H H'→H' l=some (.lst (xs'++us))→H' r=some (.lst (ys'++vs))→Reps H l0 us→Reps H l0 vs →
   ∃ m',m'<szs (ds'++[d'])∧∃ (ds:List D) (xs ys:List V) (p1 p2:Option V),m'=szs ds∧([some x,some y,some (.ref l),some (.ref r),o1,o2]:St)=[some x,some y,some (.ref l),some (.ref r),p1,p2]∧Same H H'∧H' l=some (.lst xs)∧H' r=some (.lst ys)∧Reps H ds xs∧Reps H ds ys∧szs ds≤190000 :=
  fun l0 us vs o1 o2 H' hlt sm h1 h2 h3 h4=>by
   have e:szs (ds'++[d'])=szs ds'+d'.sz:=by rw [szs_append,z1q,z26,Nat.add_zero]
   have e':szs (ds'++l0)=szs ds'+szs l0:=szs_append _ _
   exact ⟨szs (ds'++l0),by omega,ds'++l0,_,_,o1,o2,rfl,rfl,sm,h1,h2,rx1.append h3,ry1.append h4,by omega⟩
 have e2'':(upd H3 l (.lst (xs'++[x']).dropLast)) r=some (.lst (ys'++[y'])):=by rw [z01 nlr.symm]; exact e2'
 refine ⟨_,rfl,.inl ⟨rfl,_,SqL.of e1'⟩,l,_,x',rfl,rfl,e1',last_of _ _,?_⟩
 refine ⟨_,rfl,.inl ⟨rfl,_,SqL.of e2''⟩,r,_,y',rfl,rfl,e2'',last_of _ _,?_⟩
 have s4:Same H (upd (upd H3 l (.lst (xs'++[x']).dropLast)) r (.lst (ys'++[y']).dropLast)):=(s3.upd_new hl).upd_new hr0
 have l4:(upd (upd H3 l (.lst (xs'++[x']).dropLast)) r (.lst (ys'++[y']).dropLast)) l=some (.lst xs'):=by rw [z01 nlr,z02,List.dropLast_concat]
 have r4:(upd (upd H3 l (.lst (xs'++[x']).dropLast)) r (.lst (ys'++[y']).dropLast)) r=some (.lst ys'):=by rw [z02,List.dropLast_concat]
 generalize upd (upd H3 l (.lst (xs'++[x']).dropLast)) r (.lst (ys'++[y']).dropLast)=H4 at s4 l4 r4 ⊢
 refine ⟨_,rfl,le5,fun p hp=>?_⟩
 have p5:(upd H4 p (.tup [.ty "list",.ty "tuple"])) p=some (.tup [.ty "list",.ty "tuple"]):=z02
 have s5:Same H (upd H4 p (.tup [.ty "list",.ty "tuple"])):=s4.trans (z09 hp _)
 have l5:(upd H4 p (.tup [.ty "list",.ty "tuple"])) l=some (.lst xs'):=by rw [z01 (z07 l4 hp)]; exact l4
 have r5:(upd H4 p (.tup [.ty "list",.ty "tuple"])) r=some (.lst ys'):=by rw [z01 (z07 r4 hp)]; exact r4
 generalize upd H4 p (.tup [.ty "list",.ty "tuple"])=H5 at p5 s5 l5 r5 ⊢
 have hlen:∀ (l0:List D) (us:List V),szs l0<d'.sz→Reps H l0 us→xs'.length+us.length≤sizeLine∧ys'.length+us.length≤sizeLine:=fun l0 us h1 h2=>by
  have a1:=len_szs l0
  have a2:=h2.length
  have a3:=len_szs ds'
  have a4:=rx1.length
  have a5:=ry1.length
  have e:szs (ds'++[d'])=szs ds'+d'.sz:=by rw [szs_append,z1q,z26,Nat.add_zero]
  exact ⟨Nat.le_of_lt (small (by omega)),Nat.le_of_lt (small (by omega))⟩
 cases d' with
 | int i =>
  cases rx2.int_inv
  cases ry2.int_inv
  refine ⟨_,_,p,["list","tuple"],_,rfl,.int i,p5,isa_int K,_,rfl,iteF ?_⟩
  refine ⟨_,rfl,_,_,_,_,rfl,.int i,isi_int_str K,_,rfl,iteF ?_⟩
  refine ⟨_,rfl,i,rfl,_,rfl,iteF ?_⟩
  refine ⟨_,rfl,_,rfl,rfl,_,rfl,iteNS rfl ?_⟩
  exact nx [] [] [] _ _ H5 (by rw [z26,sz_int]; decide) s5 (by rw [List.append_nil]; exact l5) (by rw [List.append_nil]; exact r5) .nil .nil
 | str z =>
  cases rx2.str_inv
  cases ry2.str_inv
  refine ⟨_,_,p,["list","tuple"],_,rfl,.str z,p5,isa_str K,_,rfl,iteF ?_⟩
  refine ⟨_,rfl,_,_,_,_,rfl,.str z,isi_str_str K,_,rfl,iteT ?_⟩
  refine ⟨_,rfl,_,_,_,_,rfl,.str z,isi_str_str K,_,rfl,iteF ?_⟩
  refine ⟨_,rfl,_,rfl,rfl,_,rfl,iteNS rfl ?_⟩
  exact nx [] [] [] _ _ H5 (by rw [z26,sz_str]; decide) s5 (by rw [List.append_nil]; exact l5) (by rw [List.append_nil]; exact r5) .nil .nil
 | tup l0 =>
  obtain ⟨a,us,rfl,ha,ra⟩:=rx2.tup_inv
  obtain ⟨b,vs,rfl,hb,rb⟩:=ry2.tup_inv
  have ha5:=s5 _ _ ha
  have hb5:=s5 _ _ hb
  have hlt:szs l0<(D.tup l0).sz:=by rw [sz_tup]; omega
  obtain ⟨z1,_⟩:=hlen l0 us hlt ra
  obtain ⟨_,z2⟩:=hlen l0 vs hlt rb
  refine ⟨_,_,p,["list","tuple"],_,rfl,.tup hb5,p5,isa_tuple K,_,rfl,iteT ?_⟩
  refine ⟨_,rfl,_,_,_,_,rfl,.tup ha5,isi_tuple_list K,_,rfl,_,_,_,_,rfl,.tup hb5,isi_tuple_list K,rfl,_,rfl,iteNS rfl ?_⟩
  refine ⟨_,rfl,_,_,_,_,rfl,.tup ha5,isi_tuple_tuple K,_,rfl,_,_,_,_,rfl,.tup hb5,isi_tuple_tuple K,rfl,_,rfl,iteNS rfl ?_⟩
  refine ⟨_,rfl,a,us,rfl,.inr (SqT.of ha5),_,rfl,b,vs,rfl,.inr (SqT.of hb5),rfl,_,rfl,iteNS (by rw [ra.length,rb.length]) ?_⟩
  refine ⟨_,rfl,.inl ⟨rfl,_,SqL.of l5⟩,_,rfl,l,a,xs',us,rfl,rfl,l5,.inr ha5,z1,?_⟩
  have hb6:(upd H5 l (.lst (xs'++us))) b=some (.tup vs):=by rw [z01 (z07 hb hl)]; exact hb5
  have r6:(upd H5 l (.lst (xs'++us))) r=some (.lst ys'):=by rw [z01 nlr.symm]; exact r5
  refine ⟨_,rfl,.inl ⟨rfl,_,SqL.of r6⟩,_,rfl,r,b,ys',vs,rfl,rfl,r6,.inr hb6,z2,?_⟩
  exact nx l0 us vs _ _ _ hlt ((s5.upd_new hl).upd_new hr0) (by rw [z01 nlr,z02]) z02 ra rb
 | lst l0 =>
  obtain ⟨a,us,rfl,ha,ra⟩:=rx2.lst_inv
  obtain ⟨b,vs,rfl,hb,rb⟩:=ry2.lst_inv
  have ha5:=s5 _ _ ha
  have hb5:=s5 _ _ hb
  have hlt:szs l0<(D.lst l0).sz:=by rw [sz_lst]; omega
  obtain ⟨z1,_⟩:=hlen l0 us hlt ra
  obtain ⟨_,z2⟩:=hlen l0 vs hlt rb
  refine ⟨_,_,p,["list","tuple"],_,rfl,.lst hb5,p5,isa_list K,_,rfl,iteT ?_⟩
  refine ⟨_,rfl,_,_,_,_,rfl,.lst ha5,z38 K,_,rfl,_,_,_,_,rfl,.lst hb5,z38 K,rfl,_,rfl,iteNS rfl ?_⟩
  refine ⟨_,rfl,_,_,_,_,rfl,.lst ha5,isi_list_tuple K,_,rfl,_,_,_,_,rfl,.lst hb5,isi_list_tuple K,rfl,_,rfl,iteNS rfl ?_⟩
  refine ⟨_,rfl,a,us,rfl,.inl (SqL.of ha5),_,rfl,b,vs,rfl,.inl (SqL.of hb5),rfl,_,rfl,iteNS (by rw [ra.length,rb.length]) ?_⟩
  refine ⟨_,rfl,.inl ⟨rfl,_,SqL.of l5⟩,_,rfl,l,a,xs',us,rfl,rfl,l5,.inl ha5,z1,?_⟩
  have hb6:(upd H5 l (.lst (xs'++us))) b=some (.lst vs):=by rw [z01 (z07 hb hl)]; exact hb5
  have r6:(upd H5 l (.lst (xs'++us))) r=some (.lst ys'):=by rw [z01 nlr.symm]; exact r5
  refine ⟨_,rfl,.inl ⟨rfl,_,SqL.of r6⟩,_,rfl,r,b,ys',vs,rfl,rfl,r6,.inl hb6,z2,?_⟩
  exact nx l0 us vs _ _ _ hlt ((s5.upd_new hl).upd_new hr0) (by rw [z01 nlr,z02]) z02 ra rb
end
end K10
set_option Elab.async false
set_option linter.all false
set_option maxRecDepth 100000
namespace K10
open PySem L2
def spAgain:Sp:=fun vs H Q _=>∃ (l:Addr) (xs:List V) (log:List LN) (p:Nat),vs=[.ref l,.int (p:Nat)]∧H l=some (.lst xs)∧LogAt H log xs∧Q (.bl (log.any (z2r p))) H
def spNeeded:Sp:=fun vs H Q _=>∃ (ce de lo pu:Addr) (cs ds:List Int) (xs:List V) (log:List LN) (kvs:List (Key × V)) (op:Int→Bool),vs=[.ref ce,.ref de,.ref lo,.ref pu]∧H ce=some (.lst (cs.map V.int))∧H de=some (.lst (ds.map V.int))∧cs.length=ds.length∧H lo=some (.lst xs)∧LogAt H log xs∧(∀ ln∈log,ln.ok ds.length)∧log.length≤100000 ∧
 H pu=some (.dK kvs)∧(∀ d:Int,(valV kvs (Sum.inl d)).isSome=op d)∧∀ H',Same H H'→Q (.int (z1h cs ds op log:Nat)) H'
def spStroke:Sp:=fun vs H Q _=>∃ (h ce de lo pu st:Addr) (pl:List (Int × Addr)) (x:Hs) (v:V) (s:SM),vs=[.ref h,v]∧HA H h ce de lo pu st pl x∧Rep H s.D v∧s.okIn x∧x.fits 1 ∧
 ∀ lo' H',HA H' h ce de lo' pu st pl (x.stroke s)→OthL (own h ce de pu st pl) lo lo' H H'→Q .non H'
def spCutIn:Sp:=fun vs H Q _=>∃ (h ce de lo pu st:Addr) (pl:List (Int × Addr)) (x:Hs),vs=[.ref h]∧HA H h ce de lo pu st pl x∧x.fits 1 ∧
 ∀ lo' H',HA H' h ce de lo' pu st pl x.cutIn→OthL (own h ce de pu st pl) lo lo' H H'→Q .non H'
def spCarryIn:Sp:=fun vs H Q _=>∃ (h ce de lo pu st:Addr) (pl:List (Int × Addr)) (x:Hs) (p:Nat),vs=[.ref h,.int (p:Nat)]∧HA H h ce de lo pu st pl x∧p<x.desk.length∧x.fits 1 ∧
 ∀ lo' H',HA H' h ce de lo' pu st pl (x.carryIn p)→OthL (own h ce de pu st pl) lo lo' H H'→Q .non H'
section
variable {P:Program} {w:World} {K:PySem.W.Frag} {mg:Str→Option Value} {base:Heap} {f:Addr} {fd:FuncData}
theorem scAgain:z0h ["_law_lines","_law_page","_law_one"] ["_law_lines","_law_page"] (z06 sAgain):=⟨rfl,rfl,rfl,by decide +kernel,rfl,by decide +kernel,by decide +kernel⟩
theorem ok_again (F:Fun K "_law_put_again" "_law_put_again" sAgain f fd):FnOk P w K mg base CX0 1 f fd ["_law_lines","_law_page"] spAgain:=by
 refine F.ok scAgain (fun vs H Q E h=>?_) (fun cdv A outer s H vs Q E hr h=>?_)
 ·obtain ⟨l,xs,log,p,rfl,_⟩:=h
  rfl
 obtain ⟨l,xs,log,p,rfl,hl,hL,q⟩:=h
 refine ⟨_,(z03 (z2v PassesOwn.never rfl (z36 (pv 0)) (z1e (i:=2) scAgain.nd rfl (Or.inl rfl)) (z04 (z0u (pt_and2 (z0b z1f (z0j z0g (pv 2) z08 (fun _ _=>rfl)) z0a (z0i _)) (z0b z1f (z0j z0g (pv 2) z08 (fun _ _=>rfl)) (pv 1) (z0i _))) (z04 (z0q pe_bl)) z0l))) (z04 (z0q pe_bl))),?_⟩
 refine ⟨_,rfl,l,rfl,⟨xs,SqL.of hl⟩,for_list (K:=K) (a:=l) (xs:=xs) (fun i σ H2=>∃ o:Option V,σ=[some (.ref l),some (.int (p:Nat)),o]∧H2=H∧(log.take i).any (z2r p)=false)
  ⟨none,rfl,rfl,rfl⟩ (fun i σ H2 _ ⟨_,_,e,_⟩=>by rw [e]; exact SqL.of hl) ?_ ?_⟩
 ·rintro i x σ H2 hi ⟨o,rfl,rfl,hn⟩
  obtain ⟨ln,hln,hat⟩:=hL.get hi
  have et:(log.take (i+1)).any (z2r p)=z2r p ln:=by
   rw [List.take_add_one,List.any_append,hn,hln]
   simp
  cases ln with
  | fin d =>
   obtain ⟨c,rfl,hc⟩:=hat
   refine ⟨_,rfl,c,_,_,_,rfl,rfl,SqT.of hc,rfl,rfl,_,rfl,ifF pe_ne ?_⟩
   refine iteF ?_
   exact ⟨_,rfl,rfl,et⟩
  | put d p' o' n =>
   obtain ⟨c,rfl,hc⟩:=hat
   refine ⟨_,rfl,c,_,_,_,rfl,rfl,SqT.of hc,rfl,rfl,_,rfl,ifT rfl ?_⟩
   refine ⟨_,rfl,c,_,_,_,rfl,rfl,SqT.of hc,rfl,_,rfl,rfl,_,rfl,ite2 (fun c1=>?_) (fun c1=>?_)⟩
   ·have e1:V.int (p':Nat)=V.int (p:Nat):=of_decide_eq_true c1
    injection e1 with e1
    have e2:p'=p:=by omega
    have e3:log.any (z2r p)=true:=List.any_eq_true.mpr ⟨_,List.mem_of_getElem? hln,decide_eq_true e2⟩
    rw [e3] at q
    exact q
   ·refine ⟨_,rfl,rfl,?_⟩
    rw [et]
    refine decide_eq_false fun z=>c1 (decide_eq_true (by rw [z]))
 ·rintro σ H2 ⟨o,rfl,rfl,hn⟩
  rw [← hL.1,List.take_length] at hn
  rw [hn] at q
  exact q
theorem scNeeded:z0h ["_law_pages","_law_desk","_law_log","_law_puts","_law_k","_law_line","_law_page"] ["_law_pages","_law_desk","_law_log","_law_puts"] (z06 sNeeded):=⟨rfl,rfl,rfl,by decide +kernel,rfl,by decide +kernel,by decide +kernel⟩
theorem need_step {cs ds:List Int} {op:Int→Bool} {log:List LN} {i:Nat} {ln:LN} (h:log[i]?=some ln):log.drop i=ln::log.drop (i+1):=by
 obtain ⟨hi,e⟩:=List.getElem?_eq_some_iff.mp h
 rw [List.drop_eq_getElem_cons hi,e]
set_option maxHeartbeats 1000000 in
theorem ok_needed {gG:Addr} {dG:FuncData} (F:Fun K "_law_needed" "_law_needed" sNeeded f fd) (B:Blt mg) (GG:FnOk P w K mg base CX0 1 gG dG ["_law_lines","_law_page"] spAgain) (bG:z0r K dG ["_law_lines","_law_page"] []) (kG:PySem.W.keepIn K (.ref gG)=true) (mG:mg "_law_put_again"=some (.ref gG)) :
  FnOk P w K mg base CX0 2 f fd ["_law_pages","_law_desk","_law_log","_law_puts"] spNeeded:=by
 refine F.ok scNeeded (fun vs H Q E h=>?_) (fun cdv A outer s H vs Q E hr h=>?_)
 ·obtain ⟨ce,de,lo,pu,cs,ds,xs,log,kvs,op,rfl,_⟩:=h
  rfl
 obtain ⟨ce,de,lo,pu,cs,ds,xs,log,kvs,op,rfl,hc,hd,hcd,hl,hL,hok,zl,hp,hop,q⟩:=h
 have hu:=z2n hr
 have lx:=hL.1
 refine ⟨_,(z03 (z2v PassesOwn.never rfl (pi_range1 rfl B.rng (z00 (z0p z0k rfl B.len PySem.boot_len (z00 (pv 2) z05)) z05)) (z1e (i:=4) scNeeded.nd rfl (Or.inl rfl)) (z03 (z0n (i:=5) scNeeded.nd rfl (Or.inl rfl) (z0j z0w (pv 2) (pv 4) (fun _ _=>rfl))) (z04 (z0u (z0b z1f (z0j z0g (pv 5) z08 (fun _ _=>rfl)) z0a (z0i _)) (z03 (z0u (pt_cmp (pc_din hu (z0j z0g (pv 5) z08 (fun _ _=>rfl)) (pv 3))) (z04 (z0q (pv 4))) z0l) (z03 (z0n (i:=6) scNeeded.nd rfl (Or.inl rfl) (z0j z0g (pv 5) z08 (fun _ _=>rfl))) (z04 (z0u (pt_and2 (pt_not (pt_val (z0m GG (hr.mono (by decide)) rfl mG kG bG .nil z0z (z00 (pe_slice sl_list (pv 2) (po_some (z0v z20 (pv 4) z08)) po_none) (z00 (pv 6) z05))))) (z0b op_ne (z0j z0w (pv 0) (pv 6) (fun _ _=>rfl)) (z0j z0w (pv 1) (pv 6) (fun _ _=>rfl)) (z0i _))) (z04 (z0q (pv 4))) z0l)))) z0l)))) (z04 (z0q (z0p z0k rfl B.len PySem.boot_len (z00 (pv 2) z05))))),?_⟩
 refine ⟨_,rfl,lo,xs,rfl,.inl (SqL.of hl),_,rfl,by omega,by omega,for_range (fun i σ H2=>∃ o4 o5 o6:Option V,σ=[some (.ref ce),some (.ref de),some (.ref lo),some (.ref pu),o4,o5,o6]∧Same H H2∧z1h cs ds op log=i+z1h cs ds op (log.drop i))
  ⟨none,none,none,rfl,Same.refl _,by rw [List.drop_zero,Nat.zero_add]⟩ ?_ ?_⟩
 ·rintro i σ H2 hi ⟨o4,o5,o6,rfl,s2,hn⟩
  have e0:(0:Int)+(i:Int)=((i:Nat):Int):=by omega
  rw [e0]
  have hi':i<xs.length:=by omega
  obtain ⟨ln,hln,hat⟩:=hL.get (List.getElem?_eq_getElem hi')
  have hat2:=hat.mono s2.keepT
  have hst:=need_step (cs:=cs) (ds:=ds) (op:=op) hln
  rw [hst] at hn
  refine ⟨_,rfl,_,rfl,lo,_,_,_,rfl,rfl,SqL.of (s2 _ _ hl),atI_nat (List.getElem?_eq_getElem hi'),?_⟩
  generalize xs[i]=v at hat2 ⊢
  cases ln with
  | fin d =>
   obtain ⟨c,rfl,hv⟩:=hat2
   refine ⟨_,rfl,c,_,_,_,rfl,rfl,SqT.of hv,rfl,rfl,_,rfl,ifF pe_ne ?_⟩
   refine ⟨_,_,_,rfl,s2,?_⟩
   rw [hn]
   show i+(z1h cs ds op (log.drop (i+1))+1)=_
   omega
  | put d p o n =>
   obtain ⟨c,rfl,hv⟩:=hat2
   have hpp:p<ds.length:=hok _ (List.mem_of_getElem? hln)
   refine ⟨_,rfl,c,_,_,_,rfl,rfl,SqT.of hv,rfl,rfl,_,rfl,ifT rfl ?_⟩
   refine ⟨_,rfl,c,_,_,_,rfl,rfl,SqT.of hv,rfl,_,rfl,pu,_,rfl,DGet.k (k:=Sum.inl d) (s2 _ _ hp),_,rfl,?_⟩
   rw [hop d]
   have stay:¬(op d=true∨((log.drop (i+1)).any (z2r p)=false∧cs[p]?≠ds[p]?))→z1h cs ds op log=(i+1)+z1h cs ds op (log.drop (i+1)):=fun z=>by
    rw [hn]
    show i+(if _ then _ else _)=_
    rw [if_neg z]
    omega
   have stop:(op d=true∨((log.drop (i+1)).any (z2r p)=false∧cs[p]?≠ds[p]?))→z1h cs ds op log=i:=fun z=>by
    rw [hn]
    show i+(if _ then _ else _)=_
    rw [if_pos z]
    rfl
   refine ite2 (fun c1=>?_) (fun c1=>?_)
   ·have q2:=q H2 s2
    rw [stop (.inl c1)] at q2
    exact ⟨_,rfl,q2⟩
   refine ⟨_,rfl,c,_,_,_,rfl,rfl,SqT.of hv,rfl,?_⟩
   refine ⟨_,rfl,_,rfl,_,_,rfl,rfl,_,rfl,lo,_,rfl,SqL.of (s2 _ _ hl),fun u hu2=>?_⟩
   have e1:((i:Nat):Int)+1=((i+1:Nat):Int):=by omega
   rw [e1,cut_nat] at *
   have s3:=z09 hu2 (.lst (xs.drop (i+1)))
   have eu:(upd H2 u (.lst (xs.drop (i+1)))) u=some (.lst (xs.drop (i+1))):=z02
   generalize upd H2 u (.lst (xs.drop (i+1)))=H3 at s3 eu ⊢
   have S3:=s2.trans s3
   obtain ⟨z1,a1,b1⟩:=z2q (ns:=cs) (k:=((p:Nat):Int)) (by omega) (by omega)
   obtain ⟨z2,a2,b2⟩:=z2q (ns:=ds) (k:=((p:Nat):Int)) (by omega) (by omega)
   rw [Int.toNat_natCast] at a1 a2
   refine ⟨_,rfl,u,_,log.drop (i+1),p,rfl,eu,(hL.mono fun a x h=>h.mono S3.keepT).drop _,_,rfl,?_⟩
   cases hany:(log.drop (i+1)).any (z2r p) with
   | true =>
    refine iteF (iteF ?_)
    exact ⟨_,_,_,rfl,S3,stay fun z=>z.elim (fun y=>c1 y) fun y=>by rw [hany] at y; cases y.1⟩
   | false =>
    refine iteT ?_
    refine ⟨_,rfl,_,rfl,ce,_,_,_,rfl,rfl,SqL.of (S3 _ _ hc),b1,_,rfl,_,rfl,de,_,_,_,rfl,rfl,SqL.of (S3 _ _ hd),b2,rfl,_,rfl,?_⟩
    by_cases e:z1=z2
    ·rw [e]
     have ed:decide (V.int z2=V.int z2)=true:=decide_eq_true rfl
     rw [ed]
     refine iteF ?_
     exact ⟨_,_,_,rfl,S3,stay fun z=>z.elim (fun y=>c1 y) fun y=>y.2 (by rw [a1,a2,e])⟩
    ·have ed:decide (V.int z1=V.int z2)=false:=decide_eq_false fun y=>e (by injection y)
     rw [ed]
     refine iteT ?_
     have q2:=q H3 S3
     rw [stop (.inr ⟨hany,by rw [a1,a2]; exact fun y=>e (Option.some.inj y)⟩)] at q2
     exact ⟨_,rfl,q2⟩
 ·rintro σ H2 ⟨o4,o5,o6,rfl,s2,hn⟩
  have e2:(xs.length:Int).toNat=log.length:=by omega
  rw [e2,List.drop_length] at hn
  have q2:=q H2 s2
  rw [hn] at q2
  refine ⟨_,rfl,lo,xs,rfl,.inl (SqL.of (s2 _ _ hl)),?_⟩
  rw [← lx]
  exact q2
end
end K10
set_option Elab.async false
set_option linter.all false
set_option maxRecDepth 100000
namespace K10
open PySem L2
section
variable {P:Program} {w:World} {K:PySem.W.Frag} {mg:Str→Option Value} {base:Heap} {f:Addr} {fd:FuncData}
theorem scStroke:z0h ["_law_house","_law_stroke"] ["_law_house","_law_stroke"] (z06 sStroke):=⟨rfl,rfl,rfl,by decide +kernel,rfl,by decide +kernel,by decide +kernel⟩
theorem cl_ne:¬(V.str "cut"=V.str "line"):=by decide +kernel
theorem pl_ne:¬(V.str "page"=V.str "line"):=by decide +kernel
theorem pc_ne:¬(V.str "page"=V.str "cut"):=by decide +kernel
set_option maxHeartbeats 1000000 in
theorem ok_stroke (F:Fun K "_law_stroke_in" "_law_stroke_in" sStroke f fd) (B:Blt mg):FnOk P w K mg base CX0 1 f fd ["_law_house","_law_stroke"] spStroke:=by
 refine F.ok scStroke (fun vs H Q E h=>?_) (fun cdv A outer s H vs Q E hr h=>?_)
 ·obtain ⟨h,ce,de,lo,pu,st,pl,x,v,s,rfl,_⟩:=h
  rfl
 obtain ⟨h,ce,de,lo,pu,st,pl,x,v,sm,rfl,A1,rv,hok,⟨z1,z2,z3⟩,q⟩:=h
 have hu:=z2n hr
 refine ⟨_,(z03 (z0d (pe_bm PySem.F.plainAttrs_list PySem.F.slot_list_append PySem.F.type_list_append z12 (z0o hu (pv 0) z0a (fun _ _=>rfl)) (z00 (pv 1) z05))) (z04 (z0u (z0b z1f (z0j z0g (pv 1) z08 (fun _ _=>rfl)) z0a (z0i _)) (z04 (z2k hu (pv 0) z0a (z0v op_cat (z0o hu (pv 0) z0a (fun _ _=>rfl)) (z17 (z00 (z0j z0g (pv 1) z08 (fun _ _=>rfl)) z05))) rfl)) (z04 (z0u (z0b z1f (z0j z0g (pv 1) z08 (fun _ _=>rfl)) z0a (z0i _)) (z04 (z2k hu (pv 0) z0a (pe_slice sl_list (z0o hu (pv 0) z0a (fun _ _=>rfl)) (po_some (z0j z0g (pv 1) z08 (fun _ _=>rfl))) po_none) rfl)) (z04 (ps_asg (z0j z0g (pv 1) z08 (fun _ _=>rfl)) (pg_sub (z0o hu (pv 0) z0a (fun _ _=>rfl)) (z0j z0g (pv 1) z08 (fun _ _=>rfl)) set_list)))))))),?_⟩
 obtain ⟨zs,es,rs⟩:=A1.sk
 have lz:=rs.length
 rw [List.length_map] at lz
 refine ⟨_,rfl,h,_,rfl,A1.gStrokes,.inl ⟨rfl,_,SqL.of es⟩,_,rfl,st,zs,v,rfl,rfl,es,z2p (by omega),?_⟩
 have A2:=A1.setS es rs rv
 have kt:z1i H (upd H st (.lst (zs++[v]))):=keepT_upd es
 have rv2:=Rep.keep kt _ _ (SM.D_flat sm) rv
 have o2:Oth (own h ce de pu st pl) H (upd H st (.lst (zs++[v]))):=z2s (HA.ms ..)
 generalize upd H st (.lst (zs++[v]))=H2 at A2 rv2 o2 ⊢
 cases sm with
 | line ln =>
  obtain ⟨c,y1,y2,rfl,hc,r1,r2⟩:=z0y rv2
  cases r1.str_inv
  refine ⟨_,rfl,c,_,_,_,rfl,rfl,SqT.of hc,rfl,rfl,_,rfl,ifT rfl ?_⟩
  obtain ⟨xs,el,rl⟩:=A2.hl
  have ll:xs.length=x.log.length:=rl.1.symm
  refine ⟨_,rfl,h,_,rfl,A2.gLog,_,rfl,c,_,_,_,rfl,rfl,SqT.of hc,rfl,le5,fun u1 h1=>?_⟩
  have s3:=z09 h1 (.lst [y2])
  have e3:(upd H2 u1 (.lst [y2])) u1=some (.lst [y2]):=z02
  generalize upd H2 u1 (.lst [y2])=H3 at s3 e3 ⊢
  have A3:=A2.same s3
  refine ⟨lo,u1,_,_,rfl,rfl,s3 _ _ el,e3,Nat.le_of_lt (z2p (by rw [List.length_singleton]; omega)),fun u2 h2=>?_⟩
  have s4:=z09 h2 (.lst (xs++[y2]))
  have e4:(upd H3 u2 (.lst (xs++[y2]))) u2=some (.lst (xs++[y2])):=z02
  have n2:=A3.there h2
  generalize upd H3 u2 (.lst (xs++[y2]))=H4 at s4 e4 ⊢
  have A4:=A3.same s4
  have S4:=s3.trans s4
  have L4:LogAt H4 (x.log++[ln]) (xs++[y2]):=All2.snoc (rl.mono fun a y q=>q.mono S4.keepT) ((LNat.ofRep r2).mono S4.keepT)
  refine ⟨_,rfl,h,_,rfl,A4.pLog _,?_⟩
  exact q u2 _ (A4.setL e4 L4 n2) (.fresh (o2.trans (Same.oth s3)) h2 (o2.trans ((Same.oth S4).trans (z2s (HA.mh ..)))))
 | cut k =>
  obtain ⟨c,y1,y2,rfl,hc,r1,r2⟩:=z0y rv2
  cases r1.str_inv
  cases r2.int_inv
  refine ⟨_,rfl,c,_,_,_,rfl,rfl,SqT.of hc,rfl,rfl,_,rfl,ifF cl_ne ?_⟩
  refine ⟨_,rfl,c,_,_,_,rfl,rfl,SqT.of hc,rfl,rfl,_,rfl,ifT rfl ?_⟩
  obtain ⟨xs,el,rl⟩:=A2.hl
  refine ⟨_,rfl,h,_,rfl,A2.gLog,_,rfl,c,_,_,_,rfl,rfl,SqT.of hc,rfl,_,rfl,lo,xs,rfl,SqL.of el,fun u2 h2=>?_⟩
  rw [cut_nat] at *
  have s4:=z09 h2 (.lst (xs.drop k))
  have e4:(upd H2 u2 (.lst (xs.drop k))) u2=some (.lst (xs.drop k)):=z02
  have n2:=A2.there h2
  generalize upd H2 u2 (.lst (xs.drop k))=H4 at s4 e4 ⊢
  have A4:=A2.same s4
  have L4:LogAt H4 (x.log.drop k) (xs.drop k):=(rl.mono fun a y q=>q.mono s4.keepT).drop k
  refine ⟨_,rfl,h,_,rfl,A4.pLog _,?_⟩
  exact q u2 _ (A4.setL e4 L4 n2) (.fresh o2 h2 (o2.trans ((Same.oth s4).trans (z2s (HA.mh ..)))))
 | page p n =>
  obtain ⟨c,y1,y2,y3,rfl,hc,r1,r2,r3⟩:=rep_tup3 rv2
  cases r1.str_inv
  cases r2.int_inv
  cases r3.int_inv
  refine ⟨_,rfl,c,_,_,_,rfl,rfl,SqT.of hc,rfl,rfl,_,rfl,ifF pl_ne ?_⟩
  refine ⟨_,rfl,c,_,_,_,rfl,rfl,SqT.of hc,rfl,rfl,_,rfl,ifF pc_ne ?_⟩
  have hp:p<x.desk.length:=hok
  refine ⟨_,rfl,c,_,_,_,rfl,rfl,SqT.of hc,rfl,_,rfl,h,_,rfl,A2.gCellar,_,rfl,c,_,_,_,rfl,rfl,SqT.of hc,rfl,ce,_,_,p,rfl,rfl,A2.hc,ixN_nat (by rw [List.length_map]; exact A1.cd ▸ hp),?_⟩
  rw [z33]
  exact q lo _ (A2.setC (by rw [List.length_set]; exact A1.cd)) (o2.trans (z2s (HA.mc ..))).l
end
end K10
set_option Elab.async false
set_option linter.all false
set_option maxRecDepth 100000
namespace K10
open PySem L2
def spPutIn:Sp:=fun vs H Q _=>∃ (h ce de lo pu st:Addr) (pl:List (Int × Addr)) (x:Hs) (d:Int) (p:Nat) (n:Int),vs=[.ref h,.int d,.int (p:Nat),.int n]∧HA H h ce de lo pu st pl x∧p<x.desk.length∧x.fits 1 ∧
 ∀ lo' H',HA H' h ce de lo' pu st pl (x.putIn d p n)→OthL (own h ce de pu st pl) lo lo' H H'→Q .non H'
def spBound:Sp:=fun vs H Q _=>∃ (h ce de lo pu st:Addr) (pl:List (Int × Addr)) (x:Hs),vs=[.ref pu]∧HA H h ce de lo pu st pl x∧x.puts.length≤200∧∀ H',Same H H'→Q (.int x.bound) H'
def spTaker:Sp:=fun vs H Q _=>∃ (h ce de lo pu st:Addr) (pl:List (Int × Addr)) (x:Hs) (p:Nat),vs=[.ref pu,.int (p:Nat)]∧HA H h ce de lo pu st pl x∧∀ H',Same H H'→Q (.int ((x.taker p).getD (-1))) H'
def spFull:Sp:=fun vs H Q _=>∃ (h ce de lo pu st:Addr) (pl:List (Int × Addr)) (x:Hs) (m:Int),vs=[.ref h,.int m]∧HA H h ce de lo pu st pl x∧x.puts.length≤200∧x.desk.length≤1000∧x.fits (x.desk.length+1) ∧
 ∀ lo' H',HA H' h ce de lo' pu st pl (x.full m).1→OthL (own h ce de pu st pl) lo lo' H H'→Q (.bl (x.full m).2) H'
section
variable {P:Program} {w:World} {K:PySem.W.Frag} {mg:Str→Option Value} {base:Heap} {f:Addr} {fd:FuncData}
theorem scCutIn:z0h ["_law_house","_law_many"] ["_law_house"] (z06 sCutIn):=⟨rfl,rfl,rfl,by decide +kernel,rfl,by decide +kernel,by decide +kernel⟩
theorem ok_cutin {gN:Addr} {dN:FuncData} {gS:Addr} {dS:FuncData} (F:Fun K "_law_cut_in" "_law_cut_in" sCutIn f fd) (B:Blt mg) (GN:FnOk P w K mg base CX0 2 gN dN ["_law_pages","_law_desk","_law_log","_law_puts"] spNeeded) (bN:z0r K dN ["_law_pages","_law_desk","_law_log","_law_puts"] []) (kN:PySem.W.keepIn K (.ref gN)=true) (mN:mg "_law_needed"=some (.ref gN)) (GS:FnOk P w K mg base CX0 1 gS dS ["_law_house","_law_stroke"] spStroke) (bS:z0r K dS ["_law_house","_law_stroke"] []) (kS:PySem.W.keepIn K (.ref gS)=true) (mS:mg "_law_stroke_in"=some (.ref gS)):FnOk P w K mg base CX0 3 f fd ["_law_house"] spCutIn:=by
 refine F.ok scCutIn (fun vs H Q E h=>?_) (fun cdv A outer s H vs Q E hr h=>?_)
 ·obtain ⟨h,ce,de,lo,pu,st,pl,x,rfl,_⟩:=h
  rfl
 obtain ⟨h,ce,de,lo,pu,st,pl,x,rfl,A1,z,q⟩:=h
 have hu:=z2n hr
 refine ⟨_,(z03 (z0n (i:=1) scCutIn.nd rfl (Or.inl rfl) (z0m GN (hr.mono (by decide)) rfl mN kN bN .nil z0z (z00 (z0o hu (pv 0) z0a (fun _ _=>rfl)) (z00 (z0o hu (pv 0) z0a (fun _ _=>rfl)) (z00 (z0o hu (pv 0) z0a (fun _ _=>rfl)) (z00 (z0o hu (pv 0) z0a (fun _ _=>rfl)) z05)))))) (z04 (z0u (z0b op_gt (pv 1) z08 (z0i _)) (z04 (z0d (z0m GS (hr.mono (by decide)) rfl mS kS bS .nil z0z (z00 (pv 0) (z00 (z1p (z00 z0a (z00 (pv 1) z05))) z05))))) z0l))),?_⟩
 obtain ⟨xs,el,rl⟩:=A1.hl
 refine ⟨_,rfl,h,_,rfl,A1.gCellar,_,rfl,h,_,rfl,A1.gDesk,_,rfl,h,_,rfl,A1.gLog,_,rfl,h,_,rfl,A1.gPuts,?_⟩
 refine ⟨ce,de,lo,pu,_,_,xs,x.log,_,x.isOpen,rfl,A1.hc,A1.hd,A1.cd,el,rl,z.2.2,by have:=z.2.1; omega,A1.hp,A1.isOpen,fun H2 s2=>?_⟩
 have A2:=A1.same s2
 have ec:x.cutIn=if 0<z1h x.cellar x.desk x.isOpen x.log then x.stroke (.cut (z1h x.cellar x.desk x.isOpen x.log)) else x:=rfl
 generalize z1h x.cellar x.desk x.isOpen x.log=n at ec ⊢
 refine ⟨_,rfl,_,_,rfl,rfl,_,rfl,ite2 (fun c1=>?_) (fun c1=>?_)⟩
 ·have c2:0<n:=by have c3:(0:Int)<(n:Nat):=of_decide_eq_true c1; omega
  rw [if_pos c2] at ec
  refine ⟨_,rfl,_,rfl,le5,fun t ht=>?_⟩
  have s3:=z09 ht (.tup [.str "cut",.int (n:Nat)])
  refine ⟨h,ce,de,lo,pu,st,pl,x,.ref t,.cut n,rfl,A2.same s3,.ofTup z02 (.cons .ofStr (.cons .ofInt .nil)),True.intro,z,fun lo' H' A3 o3=>?_⟩
  rw [← ec] at A3
  exact q lo' H' A3 ((Same.oth (s2.trans s3)).l.trans o3)
 ·have c2:¬0<n:=fun y=>c1 (decide_eq_true (by omega))
  rw [if_neg c2] at ec
  rw [← ec] at A2
  exact q lo H2 A2 ((Same.oth s2).l)
theorem scCarryIn:z0h ["_law_house","_law_page","_law_number"] ["_law_house","_law_page"] (z06 sCarryIn):=⟨rfl,rfl,rfl,by decide +kernel,rfl,by decide +kernel,by decide +kernel⟩
theorem ok_carryin {gS:Addr} {dS:FuncData} (F:Fun K "_law_carry_in" "_law_carry_in" sCarryIn f fd) (B:Blt mg) (GS:FnOk P w K mg base CX0 1 gS dS ["_law_house","_law_stroke"] spStroke) (bS:z0r K dS ["_law_house","_law_stroke"] []) (kS:PySem.W.keepIn K (.ref gS)=true) (mS:mg "_law_stroke_in"=some (.ref gS)):FnOk P w K mg base CX0 2 f fd ["_law_house","_law_page"] spCarryIn:=by
 refine F.ok scCarryIn (fun vs H Q E h=>?_) (fun cdv A outer s H vs Q E hr h=>?_)
 ·obtain ⟨h,ce,de,lo,pu,st,pl,x,p,rfl,_⟩:=h
  rfl
 obtain ⟨h,ce,de,lo,pu,st,pl,x,p,rfl,A1,hp,z,q⟩:=h
 have hu:=z2n hr
 refine ⟨_,(z03 (z0n (i:=2) scCarryIn.nd rfl (Or.inl rfl) (z0j z0w (z0o hu (pv 0) z0a (fun _ _=>rfl)) (pv 1) (fun _ _=>rfl))) (z04 (z0u (z0b op_ne (z0j z0w (z0o hu (pv 0) z0a (fun _ _=>rfl)) (pv 1) (fun _ _=>rfl)) (pv 2) (z0i _)) (z04 (z0d (z0m GS (hr.mono (by decide)) rfl mS kS bS .nil z0z (z00 (pv 0) (z00 (z1p (z00 z0a (z00 (pv 1) (z00 (pv 2) z05)))) z05))))) z0l))),?_⟩
 obtain ⟨c,c1,c2⟩:=A1.atC hp
 obtain ⟨d,d1,d2⟩:=A1.atD hp
 have ec:x.carryIn p=if x.cellar[p]?=x.desk[p]? then x else x.stroke (.page p (x.desk.getD p 0)):=rfl
 rw [List.getD_eq_getElem?_getD,c1,d1,Option.getD_some] at ec
 refine ⟨_,rfl,h,_,rfl,A1.gDesk,_,rfl,de,_,_,_,rfl,rfl,SqL.of A1.hd,d2,?_⟩
 refine ⟨_,rfl,h,_,rfl,A1.gCellar,_,rfl,ce,_,_,_,rfl,rfl,SqL.of A1.hc,c2,_,rfl,rfl,_,rfl,?_⟩
 by_cases e:c=d
 ·have ed:decide (V.int c=V.int d)=true:=decide_eq_true (by rw [e])
  rw [ed]
  rw [if_pos (by rw [e])] at ec
  refine iteF ?_
  rw [← ec] at A1
  exact q lo H A1 (Oth.refl _ _).l
 ·have ed:decide (V.int c=V.int d)=false:=decide_eq_false fun y=>e (by injection y)
  rw [ed]
  rw [if_neg (fun y=>e (Option.some.inj y))] at ec
  refine iteT ?_
  refine ⟨_,rfl,_,rfl,_,rfl,le5,fun t ht=>?_⟩
  have s3:=z09 ht (.tup [.str "page",.int (p:Nat),.int d])
  refine ⟨h,ce,de,lo,pu,st,pl,x,.ref t,.page p d,rfl,A1.same s3,.ofTup z02 (.cons .ofStr (.cons .ofInt (.cons .ofInt .nil))),hp,z,fun lo' H' A3 o3=>?_⟩
  rw [← ec] at A3
  exact q lo' H' A3 ((Same.oth s3).l.trans o3)
theorem scPutIn:z0h ["_law_house","_law_dealing","_law_page","_law_number","_law_old"] ["_law_house","_law_dealing","_law_page","_law_number"] (z06 sPutIn):=⟨rfl,rfl,rfl,by decide +kernel,rfl,by decide +kernel,by decide +kernel⟩
theorem ok_putin {gS:Addr} {dS:FuncData} (F:Fun K "_law_put_in" "_law_put_in" sPutIn f fd) (B:Blt mg) (GS:FnOk P w K mg base CX0 1 gS dS ["_law_house","_law_stroke"] spStroke) (bS:z0r K dS ["_law_house","_law_stroke"] []) (kS:PySem.W.keepIn K (.ref gS)=true) (mS:mg "_law_stroke_in"=some (.ref gS)):FnOk P w K mg base CX0 2 f fd ["_law_house","_law_dealing","_law_page","_law_number"] spPutIn:=by
 refine F.ok scPutIn (fun vs H Q E h=>?_) (fun cdv A outer s H vs Q E hr h=>?_)
 ·obtain ⟨h,ce,de,lo,pu,st,pl,x,d,p,n,rfl,_⟩:=h
  rfl
 obtain ⟨h,ce,de,lo,pu,st,pl,x,d,p,n,rfl,A1,hp,z,q⟩:=h
 have hu:=z2n hr
 refine ⟨_,(z03 (z0n (i:=4) scPutIn.nd rfl (Or.inl rfl) (z0j z0w (z0o hu (pv 0) z0a (fun _ _=>rfl)) (pv 2) (fun _ _=>rfl))) (z03 (z0d (z0m GS (hr.mono (by decide)) rfl mS kS bS .nil z0z (z00 (pv 0) (z00 (z1p (z00 z0a (z00 (z1p (z00 z0a (z00 (pv 1) (z00 (pv 2) (z00 (pv 4) (z00 (pv 3) z05)))))) z05))) z05)))) (z04 (ps_asg (pv 3) (pg_sub (z0o hu (pv 0) z0a (fun _ _=>rfl)) (pv 2) set_list))))),?_⟩
 obtain ⟨o,d1,d2⟩:=A1.atD hp
 have eo:x.desk.getD p 0=o:=by rw [List.getD_eq_getElem?_getD,d1]; rfl
 have ec:x.putIn d p n={ x.stroke (.line (.put d p (x.desk.getD p 0) n)) with desk:=x.desk.set p n }:=rfl
 rw [eo] at ec
 refine ⟨_,rfl,h,_,rfl,A1.gDesk,_,rfl,de,_,_,_,rfl,rfl,SqL.of A1.hd,d2,?_⟩
 refine ⟨_,rfl,_,rfl,_,rfl,_,rfl,_,rfl,le5,fun t1 ht1=>⟨le5,fun t2 ht2=>?_⟩⟩
 have s1:=z09 ht1 (.tup [.str "put",.int d,.int (p:Nat),.int o,.int n])
 have e1:(upd H t1 (.tup [.str "put",.int d,.int (p:Nat),.int o,.int n])) t1=some (.tup [.str "put",.int d,.int (p:Nat),.int o,.int n]):=z02
 have ht2':(upd H t1 (.tup [.str "put",.int d,.int (p:Nat),.int o,.int n])) t2=none:=ht2
 have s2:=z09 ht2' (.tup [.str "line",.ref t1])
 refine ⟨h,ce,de,lo,pu,st,pl,x,.ref t2,.line (.put d p o n),rfl,A1.same (s1.trans s2),.ofTup z02 (.cons .ofStr (.cons (.ofTup (s2 _ _ e1) (.cons .ofStr (.cons .ofInt (.cons .ofInt (.cons .ofInt (.cons .ofInt .nil)))))) .nil)),hp,z,fun lo' H' A3 o3=>?_⟩
 have ld:(x.stroke (.line (.put d p o n))).desk=x.desk:=rfl
 refine ⟨_,rfl,_,rfl,h,_,rfl,A3.gDesk,_,rfl,de,_,_,p,rfl,rfl,A3.hd,ixN_nat (by rw [List.length_map]; exact hp),?_⟩
 rw [z33]
 have A4:=A3.setD (c:=x.desk.set p n) (by rw [List.length_set]; rfl)
 exact q lo' _ (by rw [ec]; exact A4) ((Same.oth (s1.trans s2)).l.trans (o3.trans (z2s (HA.md ..)).l))
end
end K10
set_option Elab.async false
set_option linter.all false
set_option maxRecDepth 100000
namespace K10
open PySem L2
structure Blt2 (mg:Str→Option Value):Prop where
 sum:mg "sum"=none
 rev:mg "reversed"=none
theorem bSum:bootBuiltins "sum"=some (.builtin "sum"):=by decide +kernel
section
variable {P:Program} {w:World} {K:PySem.W.Frag} {mg:Str→Option Value} {base:Heap} {f:Addr} {fd:FuncData}
theorem scBound:z0h ["_law_puts"] ["_law_puts"] (z06 sBound):=⟨rfl,rfl,rfl,by decide +kernel,rfl,by decide +kernel,by decide +kernel⟩
theorem ok_bound (F:Fun K "_law_bound" "_law_bound" sBound f fd) (B:Blt mg) (B2:Blt2 mg):FnOk P w K mg base CX0 1 f fd ["_law_puts"] spBound:=by
 refine F.ok scBound (fun vs H Q E h=>?_) (fun cdv A outer s H vs Q E hr h=>?_)
 ·obtain ⟨h,ce,de,lo,pu,st,pl,x,rfl,_⟩:=h
  rfl
 obtain ⟨h,ce,de,lo,pu,st,pl,x,rfl,A1,zp,q⟩:=h
 have hu:=z2n hr
 refine ⟨_,(z04 (z0q (z0p (call_sum hr.hd) rfl B2.sum bSum (z00 (pe_comp [0] ["_law_dealing","_law_puts"] (BlkOk.one (fv:="_law_puts") (j:=0) rfl (by decide +kernel) (by decide +kernel) rfl (by decide +kernel) rfl rfl (by decide +kernel) rfl rfl rfl) rfl (z36 (z1a (call_listD hr.hd) rfl B.lst bList (z00 (pv 0) z05))) (fun C s1 H1 fp=>(z0v z20 (z0p (call_len_seqK (K:=K) rfl) rfl B.len PySem.boot_len (z00 (z0o hu (pv 1) (pv 0) (fun _ _=>rfl)) z05)) z08))) z05)))),?_⟩
 have lp:=A1.lenP
 refine ⟨_,rfl,pu,_,rfl,A1.hp,fun l1 h1=>⟨l1,rfl,⟨_,SqL.of z02⟩,fun acc hacc=>?_⟩⟩
 rw [pk_keys] at *
 have s1:=z09 h1 (.lst ((pl.map (·.1)).map V.int))
 have e1:(upd H l1 (.lst ((pl.map (·.1)).map V.int))) l1=some (.lst ((pl.map (·.1)).map V.int)):=z02
 have A2:=A1.same s1
 have hacc2:(upd H l1 (.lst ((pl.map (·.1)).map V.int))) acc=none:=hacc
 generalize upd H l1 (.lst ((pl.map (·.1)).map V.int))=H1 at s1 e1 A2 hacc2 ⊢
 refine comp_vals (K:=K) (zs:=(x.puts.map fun z=>(z.2.length:Int)+1).map V.int) e1 hacc2 (by rw [List.length_map,List.length_map]; omega) (by rw [List.length_map,List.length_map,List.length_map,List.length_map]; exact lp.symm) (fun i y z H3 k hy hz s3 hk=>?_) ?_
 ·have hi:i<pl.length:=by
   have:=(List.getElem?_eq_some_iff.mp hy).1
   rw [List.length_map,List.length_map] at this
   exact this
  have hpl:pl[i]?=some pl[i]:=List.getElem?_eq_getElem hi
  obtain ⟨w,ys,w1,w2,w3,w4,w5⟩:=(A2.same s3).at_ hpl
  have ey:y=.int (pl[i]).1:=by
   rw [List.getElem?_map,List.getElem?_map,hpl] at hy
   exact (Option.some.inj hy).symm
  have ez:z=.int ((w.2.length:Int)+1):=by
   rw [List.getElem?_map,List.getElem?_map,w1] at hz
   exact (Option.some.inj hz).symm
  subst ey ez
  have ly:=w4.length
  rw [List.length_map] at ly
  refine ⟨_,rfl,_,rfl,pu,_,rfl,w5,_,ys,rfl,.inl (SqL.of w3),_,_,rfl,rfl,?_⟩
  rw [ly]
  exact hk
 ·exact ⟨acc,_,rfl,SqL.of z02,q _ (s1.trans (z09 hacc2 _))⟩
theorem scTaker:z0h ["_law_puts","_law_page","_law_dealing","_law_pair"] ["_law_puts","_law_page"] (z06 sTaker):=⟨rfl,rfl,rfl,by decide +kernel,rfl,by decide +kernel,by decide +kernel⟩
theorem ok_taker (F:Fun K "_law_taker" "_law_taker" sTaker f fd) (B:Blt mg):FnOk P w K mg base CX0 1 f fd ["_law_puts","_law_page"] spTaker:=by
 refine F.ok scTaker (fun vs H Q E h=>?_) (fun cdv A outer s H vs Q E hr h=>?_)
 ·obtain ⟨h,ce,de,lo,pu,st,pl,x,p,rfl,_⟩:=h
  rfl
 obtain ⟨h,ce,de,lo,pu,st,pl,x,p,rfl,A1,q⟩:=h
 have hu:=z2n hr
 refine ⟨_,(z03 (z2v PassesOwn.never rfl (z36 (z1a (call_listD hr.hd) rfl B.lst bList (z00 (pv 0) z05))) (z1e (i:=2) scTaker.nd rfl (Or.inl rfl)) (z04 (z2v PassesOwn.never rfl (z36 (z0o hu (pv 0) (pv 2) (fun _ _=>rfl))) (z1e (i:=3) scTaker.nd rfl (Or.inl rfl)) (z04 (z0u (z0b z1f (z0j z0g (pv 3) z08 (fun _ _=>rfl)) (pv 1) (z0i _)) (z04 (z0q (pv 2))) z0l))))) (z04 (z0q (pe_un un_neg z08)))),?_⟩
 have lp:=A1.lenP
 refine ⟨_,rfl,pu,_,rfl,A1.hp,fun l1 h1=>⟨l1,rfl,⟨_,SqL.of z02⟩,?_⟩⟩
 rw [pk_keys] at *
 have s1:=z09 h1 (.lst ((pl.map (·.1)).map V.int))
 have e1:(upd H l1 (.lst ((pl.map (·.1)).map V.int))) l1=some (.lst ((pl.map (·.1)).map V.int)):=z02
 have A2:=A1.same s1
 generalize upd H l1 (.lst ((pl.map (·.1)).map V.int))=H1 at s1 e1 A2 ⊢
 have hq:=q H1 s1
 refine for_list (K:=K) (a:=l1) (xs:=(pl.map (·.1)).map V.int) (fun i σ H2=>∃ o2 o3:Option V,σ=[some (.ref pu),some (.int (p:Nat)),o2,o3]∧H1=H2∧(x.puts.take i).find? (fun z=>z.2.any fun y=>y.1 == p)=none)
  ⟨none,none,rfl,rfl,rfl⟩ (fun i σ H2 _ ⟨_,_,_,e,_⟩=>by rw [← e]; exact SqL.of e1) ?_ ?_
 ·rintro i v σ H2 hi ⟨o2,o3,rfl,rfl,hn⟩
  have hi2:i<pl.length:=by
   have:=(List.getElem?_eq_some_iff.mp hi).1
   rw [List.length_map,List.length_map] at this
   exact this
  have hpl:pl[i]?=some pl[i]:=List.getElem?_eq_getElem hi2
  obtain ⟨w,ys,w1,w2,w3,w4,w5⟩:=A2.at_ hpl
  have ey:v=.int w.1:=by
   rw [List.getElem?_map,List.getElem?_map,hpl] at hi
   rw [w2]
   exact (Option.some.inj hi).symm
  subst ey
  rw [← w2] at w5
  generalize (pl[i]).2=la at w3 w5
  refine ⟨_,rfl,_,rfl,pu,_,rfl,w5,la,rfl,⟨ys,SqL.of w3⟩,?_⟩
  refine for_list (K:=K) (a:=la) (xs:=ys) (fun j σ H2=>∃ o3:Option V,σ=[some (.ref pu),some (.int (p:Nat)),some (.int w.1),o3]∧H1=H2∧(w.2.take j).any (fun y=>y.1 == p)=false)
   ⟨_,rfl,rfl,rfl⟩ (fun j σ H2 _ ⟨_,_,e,_⟩=>by rw [← e]; exact SqL.of w3) ?_ ?_
  ·rintro j v σ H2 hj ⟨o3,rfl,rfl,hm⟩
   obtain ⟨z,z1,z2⟩:=reps_get w4 hj
   obtain ⟨c,y1,y2,rfl,hc,r1,r2⟩:=z0y (a:=.int (z.1:Nat)) (b:=.int z.2) z2
   cases r1.int_inv
   have et:(w.2.take (j+1)).any (fun y=>y.1 == p)=(z.1 == p):=by
    rw [List.take_add_one,List.any_append,hm,z1]
    simp
   refine ⟨_,rfl,c,_,_,_,rfl,rfl,SqT.of hc,rfl,_,rfl,rfl,_,rfl,ite2 (fun c1=>?_) (fun c1=>?_)⟩
   ·have e3:V.int (z.1:Nat)=V.int (p:Nat):=of_decide_eq_true c1
    injection e3 with e3
    have e4:z.1=p:=by omega
    have e5:x.taker p=some w.1:=by
     unfold Hs.taker
     rw [find_first w1 hn (List.any_eq_true.mpr ⟨z,List.mem_of_getElem? z1,by rw [e4]; exact beq_self_eq_true p⟩)]
     rfl
    rw [e5] at hq
    exact ⟨_,rfl,hq⟩
   ·refine ⟨_,rfl,rfl,?_⟩
    rw [et]
    exact beq_eq_false_iff_ne.mpr fun y=>c1 (decide_eq_true (by rw [y]))
  ·rintro σ H2 ⟨o3,rfl,rfl,hm⟩
   have ly:=w4.length
   rw [List.length_map] at ly
   rw [ly,List.take_length] at hm
   exact ⟨_,_,rfl,rfl,find_take w1 hn hm⟩
 ·rintro σ H2 ⟨o2,o3,rfl,rfl,hn⟩
  rw [List.length_map,List.length_map,lp,List.take_length] at hn
  have e5:x.taker p=none:=by
   unfold Hs.taker
   rw [hn]
   rfl
  rw [e5] at hq
  exact ⟨_,rfl,hq⟩
theorem scFull:z0h ["_law_house","_law_more","_law_page"] ["_law_house","_law_more"] (z06 sFull):=⟨rfl,rfl,rfl,by decide +kernel,rfl,by decide +kernel,by decide +kernel⟩
set_option maxHeartbeats 1000000 in
theorem ok_full {gB:Addr} {dB:FuncData} {gC:Addr} {dC:FuncData} {gU:Addr} {dU:FuncData} (F:Fun K "_law_full" "_law_full" sFull f fd) (B:Blt mg) (GB:FnOk P w K mg base CX0 1 gB dB ["_law_puts"] spBound) (bB:z0r K dB ["_law_puts"] []) (kB:PySem.W.keepIn K (.ref gB)=true) (mB:mg "_law_bound"=some (.ref gB)) (GC:FnOk P w K mg base CX0 2 gC dC ["_law_house","_law_page"] spCarryIn) (bC:z0r K dC ["_law_house","_law_page"] []) (kC:PySem.W.keepIn K (.ref gC)=true) (mC:mg "_law_carry_in"=some (.ref gC)) (GU:FnOk P w K mg base CX0 3 gU dU ["_law_house"] spCutIn) (bU:z0r K dU ["_law_house"] []) (kU:PySem.W.keepIn K (.ref gU)=true) (mU:mg "_law_cut_in"=some (.ref gU)):FnOk P w K mg base CX0 4 f fd ["_law_house","_law_more"] spFull:=by
 refine F.ok scFull (fun vs H Q E h=>?_) (fun cdv A outer s H vs Q E hr h=>?_)
 ·obtain ⟨h,ce,de,lo,pu,st,pl,x,m,rfl,_⟩:=h
  rfl
 obtain ⟨h,ce,de,lo,pu,st,pl,x,m,rfl,A1,zp,zd,z,q⟩:=h
 have hu:=z2n hr
 refine ⟨_,(z03 (z0u (z0b op_le (z0v z20 (z0v z20 (z0p z0k rfl B.len PySem.boot_len (z00 (z0o hu (pv 0) z0a (fun _ _=>rfl)) z05)) (z0m GB (hr.mono (by decide)) rfl mB kB bB .nil z0z (z00 (z0o hu (pv 0) z0a (fun _ _=>rfl)) z05))) (pv 1)) (z0o hu (pv 0) z0a (fun _ _=>rfl)) (z0i _)) (z04 (z0q pe_bl)) z0l) (z03 (z2v PassesOwn.never rfl (pi_range1 rfl B.rng (z00 (z0p z0k rfl B.len PySem.boot_len (z00 (z0o hu (pv 0) z0a (fun _ _=>rfl)) z05)) z05)) (z1e (i:=2) scFull.nd rfl (Or.inl rfl)) (z04 (z0d (z0m GC (hr.mono (by decide)) rfl mC kC bC .nil z0z (z00 (pv 0) (z00 (pv 2) z05)))))) (z03 (z0d (z0m GU (hr.mono (by decide)) rfl mU kU bU .nil z0z (z00 (pv 0) z05))) (z04 (z0q (pe_cmpR op_gt (z0v z20 (z0v z20 (z0p z0k rfl B.len PySem.boot_len (z00 (z0o hu (pv 0) z0a (fun _ _=>rfl)) z05)) (z0m GB (hr.mono (by decide)) rfl mB kB bB .nil z0z (z00 (z0o hu (pv 0) z0a (fun _ _=>rfl)) z05))) (pv 1)) (z0o hu (pv 0) z0a (fun _ _=>rfl)) (z0i _))))))),?_⟩
 obtain ⟨xs,el,rl⟩:=A1.hl
 have lx:x.log.length=xs.length:=rl.1
 have ef:x.full m=if x.roomy m=true then (x,false) else (x.madeRoom, !x.madeRoom.roomy m):=rfl
 refine ⟨_,rfl,h,_,rfl,A1.gLog,lo,xs,rfl,.inl (SqL.of el),_,rfl,h,_,rfl,A1.gPuts,h,ce,de,lo,pu,st,pl,x,rfl,A1,zp,fun H2 s2=>?_⟩
 have A2:=A1.same s2
 refine ⟨_,_,rfl,rfl,_,rfl,_,_,rfl,rfl,_,rfl,h,_,rfl,A2.gRoom,_,_,rfl,rfl,_,rfl,ite2 (fun c1=>?_) (fun c1=>?_)⟩
 ·have c2:x.roomy m=true:=by unfold Hs.roomy; rw [lx]; exact c1
  rw [if_pos c2] at ef
  rw [ef] at q
  exact q lo H2 A2 ((Same.oth s2).l)
 have c2:¬x.roomy m=true:=fun y=>c1 (by unfold Hs.roomy at y; rw [lx] at y; exact y)
 rw [if_neg c2] at ef
 rw [ef] at q
 have ld:(x.desk.map V.int).length=x.desk.length:=List.length_map _
 refine ⟨_,rfl,h,_,rfl,A2.gDesk,de,_,rfl,.inl (SqL.of A2.hd),_,rfl,by omega,by omega,for_range (fun i σ H3=>∃ (o2:Option V) (lo':Addr),σ=[some (.ref h),some (.int m),o2]∧HA H3 h ce de lo' pu st pl (x.carries i)∧OthL (own h ce de pu st pl) lo lo' H H3)
  ⟨none,lo,rfl,A2,(Same.oth s2).l⟩ ?_ ?_⟩
 ·rintro i σ H3 hi ⟨o2,lo',rfl,A3,o3⟩
  have e0:(0:Int)+(i:Int)=((i:Nat):Int):=by omega
  rw [e0]
  have hi':i<x.desk.length:=by omega
  refine ⟨_,rfl,_,rfl,h,ce,de,lo',pu,st,pl,_,i,rfl,A3,by rw [z27]; exact hi',Hs.fits.carries (i:=i) (k:=1) (z.mono (by omega)) (by omega),fun lo2 H4 A4 o4=>?_⟩
  rw [← z16] at A4
  exact ⟨_,lo2,rfl,A4,o3.trans o4⟩
 ·rintro σ H3 ⟨o2,lo',rfl,A3,o3⟩
  have en:((x.desk.map V.int).length:Int).toNat=x.desk.length:=by omega
  rw [en] at A3
  refine ⟨_,rfl,h,ce,de,lo',pu,st,pl,_,rfl,A3,Hs.fits.carries (i:=x.desk.length) (k:=1) z (Nat.le_refl _),fun lo2 H4 A4 o4=>?_⟩
  rw [← z1d] at A4
  obtain ⟨ys,el4,rl4⟩:=A4.hl
  have ly:x.madeRoom.log.length=ys.length:=rl4.1
  refine ⟨_,rfl,h,_,rfl,A4.gLog,lo2,ys,rfl,.inl (SqL.of el4),_,rfl,h,_,rfl,A4.gPuts,h,ce,de,lo2,pu,st,pl,x.madeRoom,rfl,A4,by rw [madeRoom_puts]; exact zp,fun H5 s5=>?_⟩
  have A5:=A4.same s5
  refine ⟨_,_,rfl,rfl,_,rfl,_,_,rfl,rfl,_,rfl,h,_,rfl,A5.gRoom,_,_,rfl,rfl,?_⟩
  have q5:=q lo2 H5 A5 (o3.trans (o4.trans (Same.oth s5).l))
  have e6:(!x.madeRoom.roomy m)=decide (x.madeRoom.room<(ys.length:Int)+x.madeRoom.bound+m):=by
   unfold Hs.roomy
   rw [ly]
   by_cases y:(ys.length:Int)+x.madeRoom.bound+m≤x.madeRoom.room
   ·rw [decide_eq_true y,decide_eq_false (by omega)]; rfl
   ·rw [decide_eq_false y,decide_eq_true (by omega)]; rfl
  rw [e6] at q5
  exact q5
end
end K10
set_option Elab.async false
set_option linter.all false
set_option maxRecDepth 100000
namespace K10
open PySem L2
def spRefusal:Sp:=fun vs H Q _=>∃ (h ce de lo pu st:Addr) (pl:List (Int × Addr)) (x:Hs) (v:V) (e:Deed),vs=[.ref pu,.ref de,v]∧HA H h ce de lo pu st pl x∧Rep H e.D v∧1≤x.desk.length∧(∀ z∈x.puts,0≤z.1)∧∀ H',Same H H'→Q (.str ((x.refusal e).getD "done")) H'
def deedIs (dr:Bool) (d:Int):Deed:=if dr then .drop d else .fin d
def spEndIn:Sp:=fun vs H Q _=>∃ (h ce de lo pu st:Addr) (pl:List (Int × Addr)) (x:Hs) (v:V) (dr:Bool) (d:Int),vs=[.ref h,v]∧HA H h ce de lo pu st pl x∧Rep H (deedIs dr d).D v∧x.isOpen d=true∧(∀ z∈x.putsOf d,z.1<x.desk.length)∧x.fits ((x.putsOf d).length+1) ∧
 ∀ lo' H',HA H' h ce de lo' pu st (pl.filter fun z=>z.1 != d) ((if dr then x.undo d else x).endIn d)→OthL (own h ce de pu st pl) lo lo' H H'→Q .non H'
section
variable {P:Program} {w:World} {K:PySem.W.Frag} {mg:Str→Option Value} {base:Heap} {f:Addr} {fd:FuncData}
theorem scRefusal:z0h ["_law_puts","_law_desk","_law_deed","_law_page"] ["_law_puts","_law_desk","_law_deed"] (z06 sRefusal):=⟨rfl,rfl,rfl,by decide +kernel,rfl,by decide +kernel,by decide +kernel⟩
theorem inV_two (t d:Int):(if true=true then !inV (.int t) [.int (-1),.int d] else inV (.int t) [.int (-1),.int d]) = !decide (t = -1∨t=d):=by
 rw [if_pos rfl]
 have e:=inV_ints t [-1,d]
 have e2:([-1,d]:List Int).map V.int=[.int (-1),.int d]:=rfl
 rw [e2] at e
 rw [e]
 congr 1
 exact decide_eq_decide.mpr (by simp)
theorem ifNF {c A B:Prop} [Decidable c] (hc:c) (h:B):if (!decide c)=true then A else B:=by
 rw [decide_eq_true hc]
 exact iteF h
set_option maxHeartbeats 2000000 in
theorem ok_refusal {gT:Addr} {dT:FuncData} (F:Fun K "_law_refusal" "_law_refusal" sRefusal f fd) (B:Blt mg) (GT:FnOk P w K mg base CX0 1 gT dT ["_law_puts","_law_page"] spTaker) (bT:z0r K dT ["_law_puts","_law_page"] []) (kT:PySem.W.keepIn K (.ref gT)=true) (mT:mg "_law_taker"=some (.ref gT)):FnOk P w K mg base CX0 2 f fd ["_law_puts","_law_desk","_law_deed"] spRefusal:=by
 refine F.ok scRefusal (fun vs H Q E h=>?_) (fun cdv A outer s H vs Q E hr h=>?_)
 ·obtain ⟨h,ce,de,lo,pu,st,pl,x,v,e,rfl,_⟩:=h
  rfl
 obtain ⟨h,ce,de,lo,pu,st,pl,x,v,e,rfl,A1,rv,hd1,hn,q⟩:=h
 have hu:=z2n hr
 refine ⟨_,(z03 (z0u (pt_and2 (z0b op_in_seq (z0j z0g (pv 2) z08 (fun _ _=>rfl)) (z17 (z00 z0a (z00 z0a (z00 z0a z05)))) (by with_unfolding_all rfl)) (pt_cmp (pc_dnotin hu (z0j z0g (pv 2) z08 (fun _ _=>rfl)) (pv 0)))) (z04 (z0q z0a)) z0l) (z03 (z0n (i:=3) scRefusal.nd rfl (Or.inl rfl) z08) (z03 (z0u (z0b z1f (z0j z0g (pv 2) z08 (fun _ _=>rfl)) z0a (z0i _)) (z04 (z0n (i:=3) scRefusal.nd rfl (Or.inl rfl) (z0j z0g (pv 2) z08 (fun _ _=>rfl)))) z0l) (z03 (z0u (pt_or2 (z0b z1f (z0j z0g (pv 2) z08 (fun _ _=>rfl)) z0a (z0i _)) (z0b z1f (z0j z0g (pv 2) z08 (fun _ _=>rfl)) z0a (z0i _))) (z04 (z0n (i:=3) scRefusal.nd rfl (Or.inl rfl) (z0j z0g (pv 2) z08 (fun _ _=>rfl)))) z0l) (z03 (z0u (pt_or2 (z0b op_lt (pv 3) z08 (z0i _)) (z0b op_ge (pv 3) (z0p z0k rfl B.len PySem.boot_len (z00 (pv 1) z05)) (z0i _))) (z04 (z0q z0a)) z0l) (z03 (z0u (pt_and2 (z0b z1f (z0j z0g (pv 2) z08 (fun _ _=>rfl)) z0a (z0i _)) (z0b op_notIn_seq (z0m GT (hr.mono (by decide)) rfl mT kT bT .nil z0z (z00 (pv 0) (z00 (pv 3) z05))) (z17 (z00 (pe_un un_neg z08) (z00 (z0j z0g (pv 2) z08 (fun _ _=>rfl)) z05))) (by with_unfolding_all rfl))) (z04 (z0q z0a)) z0l) (z04 (z0q z0a)))))))),?_⟩
 cases e with
 | begin =>
  obtain ⟨c,y1,rfl,hc,r1⟩:=rep_tup1 rv
  cases r1.str_inv
  refine ⟨_,rfl,c,_,_,_,rfl,rfl,SqT.of hc,rfl,le5,fun l hl=>⟨l,_,rfl,.inl (SqL.of z02),rfl,rfl,_,rfl,?_⟩⟩
  have s1:=z09 hl (.lst [.str "put",.str "end",.str "drop"])
  have A2:=A1.same s1
  have hc2:=s1 _ _ hc
  have q2:=q _ s1
  generalize upd H l (.lst [.str "put",.str "end",.str "drop"])=H1 at s1 A2 hc2 q2 ⊢
  have ein:(if false=true then !inV (V.str "begin") [V.str "put",V.str "end",V.str "drop"] else inV (V.str "begin") [V.str "put",V.str "end",V.str "drop"])=false:=by decide +kernel
  rw [ein]
  have q2:Q (.str ((none:Option Str).getD "done")) H1:=q2
  refine iteF (iteF ?_)
  refine ⟨_,rfl,c,_,_,_,rfl,rfl,SqT.of hc2,rfl,rfl,_,rfl,ifF (by decide +kernel) ?_⟩
  refine ⟨_,rfl,c,_,_,_,rfl,rfl,SqT.of hc2,rfl,rfl,_,rfl,ifF (by decide +kernel) ?_⟩
  refine ⟨_,rfl,c,_,_,_,rfl,rfl,SqT.of hc2,rfl,rfl,_,rfl,ifF (by decide +kernel) ?_⟩
  refine ⟨_,rfl,_,_,rfl,rfl,_,rfl,ifF (by decide) ?_⟩
  refine ⟨_,rfl,_,rfl,de,_,rfl,.inl (SqL.of A2.hd),_,_,rfl,rfl,_,rfl,ifF (by rw [List.length_map]; omega) ?_⟩
  refine ⟨_,rfl,c,_,_,_,rfl,rfl,SqT.of hc2,rfl,rfl,_,rfl,ifF (by decide +kernel) (iteF ?_)⟩
  exact q2
 | put d p n =>
  obtain ⟨c,y1,y2,y3,y4,rfl,hc,r1,r2,r3,r4⟩:=rep_tup4 rv
  cases r1.str_inv
  cases r2.int_inv
  cases r3.int_inv
  cases r4.int_inv
  refine ⟨_,rfl,c,_,_,_,rfl,rfl,SqT.of hc,rfl,le5,fun l hl=>⟨l,_,rfl,.inl (SqL.of z02),rfl,rfl,_,rfl,?_⟩⟩
  have s1:=z09 hl (.lst [.str "put",.str "end",.str "drop"])
  have A2:=A1.same s1
  have hc2:=s1 _ _ hc
  have q2:=q _ s1
  generalize upd H l (.lst [.str "put",.str "end",.str "drop"])=H1 at s1 A2 hc2 q2 ⊢
  have ein:(if false=true then !inV (V.str "put") [V.str "put",V.str "end",V.str "drop"] else inV (V.str "put") [V.str "put",V.str "end",V.str "drop"])=true:=by decide +kernel
  rw [ein]
  have q2:Q (.str (((if x.isOpen d=false then some "no dealing" else if p<0∨(x.desk.length:Int)≤p then some "no page" else if x.taker p.toNat=none∨x.taker p.toNat=some d then none else some "taken"):Option Str).getD "done")) H1:=q2
  refine iteT ?_
  refine ⟨_,rfl,c,_,_,_,rfl,rfl,SqT.of hc2,rfl,_,rfl,pu,_,rfl,A2.gOpen d,_,rfl,?_⟩
  rw [A2.isOpen d]
  cases ho:x.isOpen d with
  | false =>
   rw [ho,if_pos rfl] at q2
   exact iteT q2
  | true =>
  rw [ho,if_neg (fun z=>nomatch z)] at q2
  refine iteF ?_
  refine ⟨_,rfl,c,_,_,_,rfl,rfl,SqT.of hc2,rfl,rfl,_,rfl,ifT rfl ?_⟩
  refine ⟨_,rfl,c,_,_,_,rfl,rfl,SqT.of hc2,rfl,?_⟩
  refine ⟨_,rfl,c,_,_,_,rfl,rfl,SqT.of hc2,rfl,rfl,_,rfl,ifF (by decide +kernel) ?_⟩
  refine ⟨_,rfl,c,_,_,_,rfl,rfl,SqT.of hc2,rfl,rfl,_,rfl,ifF (by decide +kernel) ?_⟩
  refine ⟨_,rfl,_,_,rfl,rfl,_,rfl,ite2 (fun c1=>?_) (fun c1=>?_)⟩
  ·have c2:p<0:=of_decide_eq_true c1
   refine iteT ?_
   rw [if_pos (Or.inl c2)] at q2
   exact q2
  refine ⟨_,rfl,_,rfl,de,_,rfl,.inl (SqL.of A2.hd),_,_,rfl,rfl,_,rfl,ite2 (fun c3=>?_) (fun c3=>?_)⟩
  ·have c4:((x.desk.map V.int).length:Int)≤p:=of_decide_eq_true c3
   rw [List.length_map] at c4
   rw [if_pos (Or.inr c4)] at q2
   exact q2
  have c2:¬p<0:=fun y=>c1 (decide_eq_true y)
  have c4:¬(x.desk.length:Int)≤p:=fun y=>c3 (decide_eq_true (by rw [List.length_map]; exact y))
  rw [if_neg (fun y=>y.elim c2 c4)] at q2
  refine ⟨_,rfl,c,_,_,_,rfl,rfl,SqT.of hc2,rfl,rfl,_,rfl,ifT rfl ?_⟩
  obtain ⟨pn,rfl⟩:∃ pn:Nat,p=(pn:Int):=⟨p.toNat,by omega⟩
  rw [Int.toNat_natCast] at q2
  refine ⟨_,rfl,_,rfl,h,ce,de,lo,pu,st,pl,x,pn,rfl,A2,fun H3 s3=>?_⟩
  have hc3:=s3 _ _ hc2
  refine ⟨_,rfl,_,rfl,c,_,_,_,rfl,rfl,SqT.of hc3,rfl,le5,fun l2 hl2=>⟨l2,_,rfl,.inl (SqL.of z02),rfl,rfl,_,rfl,?_⟩⟩
  have s4:=z09 hl2 (.lst [.int (-1),.int d])
  have q4:=q _ (s1.trans (s3.trans s4))
  have q4:Q (.str ((if x.isOpen d=false then some "no dealing" else if (pn:Int)<0∨(x.desk.length:Int)≤(pn:Int) then some "no page" else if x.taker (pn:Int).toNat=none∨x.taker (pn:Int).toNat=some d then none else some "taken":Option Str).getD "done")) _:=q4
  rw [ho,if_neg (fun z=>nomatch z),if_neg (fun y=>y.elim c2 c4),Int.toNat_natCast] at q4
  rw [inV_two]
  cases ht:x.taker pn with
  | none =>
   rw [ht,if_pos (Or.inl rfl)] at q4
   refine ifNF ?_ q4
   exact Or.inl rfl
  | some t =>
   rw [ht] at q4
   have t0:0≤t:=by
    unfold Hs.taker at ht
    obtain ⟨z,hz,e⟩:=Option.map_eq_some_iff.mp ht
    rw [← e]
    exact hn z (List.mem_of_find?_eq_some hz)
   by_cases e:t=d
   ·subst e
    rw [if_pos (Or.inr rfl)] at q4
    exact ifNF (Or.inr rfl) q4
   ·rw [if_neg (fun y=>y.elim (fun z=>nomatch z) fun z=>e (Option.some.inj z))] at q4
    refine ifNT (fun y=>?_) q4
    rcases y with y | y
    ·have y':t = -1:=y
     omega
    ·exact e y
 | fin d =>
  obtain ⟨c,y1,y2,rfl,hc,r1,r2⟩:=z0y rv
  cases r1.str_inv
  cases r2.int_inv
  refine ⟨_,rfl,c,_,_,_,rfl,rfl,SqT.of hc,rfl,le5,fun l hl=>⟨l,_,rfl,.inl (SqL.of z02),rfl,rfl,_,rfl,?_⟩⟩
  have s1:=z09 hl (.lst [.str "put",.str "end",.str "drop"])
  have A2:=A1.same s1
  have hc2:=s1 _ _ hc
  have q2:=q _ s1
  generalize upd H l (.lst [.str "put",.str "end",.str "drop"])=H1 at s1 A2 hc2 q2 ⊢
  have ein:(if false=true then !inV (V.str "end") [V.str "put",V.str "end",V.str "drop"] else inV (V.str "end") [V.str "put",V.str "end",V.str "drop"])=true:=by decide +kernel
  rw [ein]
  have q2:Q (.str (((if x.isOpen d=false then some "no dealing" else none):Option Str).getD "done")) H1:=q2
  refine iteT ?_
  refine ⟨_,rfl,c,_,_,_,rfl,rfl,SqT.of hc2,rfl,_,rfl,pu,_,rfl,A2.gOpen d,_,rfl,?_⟩
  rw [A2.isOpen d]
  cases ho:x.isOpen d with
  | false =>
   rw [ho,if_pos rfl] at q2
   exact iteT q2
  | true =>
  rw [ho,if_neg (fun z=>nomatch z)] at q2
  refine iteF ?_
  refine ⟨_,rfl,c,_,_,_,rfl,rfl,SqT.of hc2,rfl,rfl,_,rfl,ifF (by decide +kernel) ?_⟩
  refine ⟨_,rfl,c,_,_,_,rfl,rfl,SqT.of hc2,rfl,rfl,_,rfl,ifF (by decide +kernel) ?_⟩
  refine ⟨_,rfl,c,_,_,_,rfl,rfl,SqT.of hc2,rfl,rfl,_,rfl,ifF (by decide +kernel) ?_⟩
  refine ⟨_,rfl,_,_,rfl,rfl,_,rfl,ifF (by decide) ?_⟩
  refine ⟨_,rfl,_,rfl,de,_,rfl,.inl (SqL.of A2.hd),_,_,rfl,rfl,_,rfl,ifF (by rw [List.length_map]; omega) ?_⟩
  refine ⟨_,rfl,c,_,_,_,rfl,rfl,SqT.of hc2,rfl,rfl,_,rfl,ifF (by decide +kernel) (iteF ?_)⟩
  exact q2
 | drop d =>
  obtain ⟨c,y1,y2,rfl,hc,r1,r2⟩:=z0y rv
  cases r1.str_inv
  cases r2.int_inv
  refine ⟨_,rfl,c,_,_,_,rfl,rfl,SqT.of hc,rfl,le5,fun l hl=>⟨l,_,rfl,.inl (SqL.of z02),rfl,rfl,_,rfl,?_⟩⟩
  have s1:=z09 hl (.lst [.str "put",.str "end",.str "drop"])
  have A2:=A1.same s1
  have hc2:=s1 _ _ hc
  have q2:=q _ s1
  generalize upd H l (.lst [.str "put",.str "end",.str "drop"])=H1 at s1 A2 hc2 q2 ⊢
  have ein:(if false=true then !inV (V.str "drop") [V.str "put",V.str "end",V.str "drop"] else inV (V.str "drop") [V.str "put",V.str "end",V.str "drop"])=true:=by decide +kernel
  rw [ein]
  have q2:Q (.str (((if x.isOpen d=false then some "no dealing" else none):Option Str).getD "done")) H1:=q2
  refine iteT ?_
  refine ⟨_,rfl,c,_,_,_,rfl,rfl,SqT.of hc2,rfl,_,rfl,pu,_,rfl,A2.gOpen d,_,rfl,?_⟩
  rw [A2.isOpen d]
  cases ho:x.isOpen d with
  | false =>
   rw [ho,if_pos rfl] at q2
   exact iteT q2
  | true =>
  rw [ho,if_neg (fun z=>nomatch z)] at q2
  refine iteF ?_
  refine ⟨_,rfl,c,_,_,_,rfl,rfl,SqT.of hc2,rfl,rfl,_,rfl,ifF (by decide +kernel) ?_⟩
  refine ⟨_,rfl,c,_,_,_,rfl,rfl,SqT.of hc2,rfl,rfl,_,rfl,ifF (by decide +kernel) ?_⟩
  refine ⟨_,rfl,c,_,_,_,rfl,rfl,SqT.of hc2,rfl,rfl,_,rfl,ifF (by decide +kernel) ?_⟩
  refine ⟨_,rfl,_,_,rfl,rfl,_,rfl,ifF (by decide) ?_⟩
  refine ⟨_,rfl,_,rfl,de,_,rfl,.inl (SqL.of A2.hd),_,_,rfl,rfl,_,rfl,ifF (by rw [List.length_map]; omega) ?_⟩
  refine ⟨_,rfl,c,_,_,_,rfl,rfl,SqT.of hc2,rfl,rfl,_,rfl,ifF (by decide +kernel) (iteF ?_)⟩
  exact q2
 | look p =>
  obtain ⟨c,y1,y2,rfl,hc,r1,r2⟩:=z0y rv
  cases r1.str_inv
  cases r2.int_inv
  refine ⟨_,rfl,c,_,_,_,rfl,rfl,SqT.of hc,rfl,le5,fun l hl=>⟨l,_,rfl,.inl (SqL.of z02),rfl,rfl,_,rfl,?_⟩⟩
  have s1:=z09 hl (.lst [.str "put",.str "end",.str "drop"])
  have A2:=A1.same s1
  have hc2:=s1 _ _ hc
  have q2:=q _ s1
  generalize upd H l (.lst [.str "put",.str "end",.str "drop"])=H1 at s1 A2 hc2 q2 ⊢
  have ein:(if false=true then !inV (V.str "look") [V.str "put",V.str "end",V.str "drop"] else inV (V.str "look") [V.str "put",V.str "end",V.str "drop"])=false:=by decide +kernel
  rw [ein]
  have q2:Q (.str (((if p<0∨(x.desk.length:Int)≤p then some "no page" else none):Option Str).getD "done")) H1:=q2
  refine iteF (iteF ?_)
  refine ⟨_,rfl,c,_,_,_,rfl,rfl,SqT.of hc2,rfl,rfl,_,rfl,ifF (by decide +kernel) ?_⟩
  refine ⟨_,rfl,c,_,_,_,rfl,rfl,SqT.of hc2,rfl,rfl,_,rfl,ifT rfl (iteT ?_)⟩
  refine ⟨_,rfl,c,_,_,_,rfl,rfl,SqT.of hc2,rfl,?_⟩
  refine ⟨_,rfl,_,_,rfl,rfl,_,rfl,ite2 (fun c1=>?_) (fun c1=>?_)⟩
  ·have c2:p<0:=of_decide_eq_true c1
   refine iteT ?_
   rw [if_pos (Or.inl c2)] at q2
   exact q2
  refine ⟨_,rfl,_,rfl,de,_,rfl,.inl (SqL.of A2.hd),_,_,rfl,rfl,_,rfl,ite2 (fun c3=>?_) (fun c3=>?_)⟩
  ·have c4:((x.desk.map V.int).length:Int)≤p:=of_decide_eq_true c3
   rw [List.length_map] at c4
   rw [if_pos (Or.inr c4)] at q2
   exact q2
  have c2:¬p<0:=fun y=>c1 (decide_eq_true y)
  have c4:¬(x.desk.length:Int)≤p:=fun y=>c3 (decide_eq_true (by rw [List.length_map]; exact y))
  rw [if_neg (fun y=>y.elim c2 c4)] at q2
  refine ⟨_,rfl,c,_,_,_,rfl,rfl,SqT.of hc2,rfl,rfl,_,rfl,ifF (by decide +kernel) (iteF ?_)⟩
  exact q2
 | carry p =>
  obtain ⟨c,y1,y2,rfl,hc,r1,r2⟩:=z0y rv
  cases r1.str_inv
  cases r2.int_inv
  refine ⟨_,rfl,c,_,_,_,rfl,rfl,SqT.of hc,rfl,le5,fun l hl=>⟨l,_,rfl,.inl (SqL.of z02),rfl,rfl,_,rfl,?_⟩⟩
  have s1:=z09 hl (.lst [.str "put",.str "end",.str "drop"])
  have A2:=A1.same s1
  have hc2:=s1 _ _ hc
  have q2:=q _ s1
  generalize upd H l (.lst [.str "put",.str "end",.str "drop"])=H1 at s1 A2 hc2 q2 ⊢
  have ein:(if false=true then !inV (V.str "carry") [V.str "put",V.str "end",V.str "drop"] else inV (V.str "carry") [V.str "put",V.str "end",V.str "drop"])=false:=by decide +kernel
  rw [ein]
  have q2:Q (.str (((if p<0∨(x.desk.length:Int)≤p then some "no page" else none):Option Str).getD "done")) H1:=q2
  refine iteF (iteF ?_)
  refine ⟨_,rfl,c,_,_,_,rfl,rfl,SqT.of hc2,rfl,rfl,_,rfl,ifF (by decide +kernel) ?_⟩
  refine ⟨_,rfl,c,_,_,_,rfl,rfl,SqT.of hc2,rfl,rfl,_,rfl,ifF (by decide +kernel) ?_⟩
  refine ⟨_,rfl,c,_,_,_,rfl,rfl,SqT.of hc2,rfl,rfl,_,rfl,ifT rfl ?_⟩
  refine ⟨_,rfl,c,_,_,_,rfl,rfl,SqT.of hc2,rfl,?_⟩
  refine ⟨_,rfl,_,_,rfl,rfl,_,rfl,ite2 (fun c1=>?_) (fun c1=>?_)⟩
  ·have c2:p<0:=of_decide_eq_true c1
   refine iteT ?_
   rw [if_pos (Or.inl c2)] at q2
   exact q2
  refine ⟨_,rfl,_,rfl,de,_,rfl,.inl (SqL.of A2.hd),_,_,rfl,rfl,_,rfl,ite2 (fun c3=>?_) (fun c3=>?_)⟩
  ·have c4:((x.desk.map V.int).length:Int)≤p:=of_decide_eq_true c3
   rw [List.length_map] at c4
   rw [if_pos (Or.inr c4)] at q2
   exact q2
  have c2:¬p<0:=fun y=>c1 (decide_eq_true y)
  have c4:¬(x.desk.length:Int)≤p:=fun y=>c3 (decide_eq_true (by rw [List.length_map]; exact y))
  rw [if_neg (fun y=>y.elim c2 c4)] at q2
  refine ⟨_,rfl,c,_,_,_,rfl,rfl,SqT.of hc2,rfl,rfl,_,rfl,ifF (by decide +kernel) (iteF ?_)⟩
  exact q2
 | cut =>
  obtain ⟨c,y1,rfl,hc,r1⟩:=rep_tup1 rv
  cases r1.str_inv
  refine ⟨_,rfl,c,_,_,_,rfl,rfl,SqT.of hc,rfl,le5,fun l hl=>⟨l,_,rfl,.inl (SqL.of z02),rfl,rfl,_,rfl,?_⟩⟩
  have s1:=z09 hl (.lst [.str "put",.str "end",.str "drop"])
  have A2:=A1.same s1
  have hc2:=s1 _ _ hc
  have q2:=q _ s1
  generalize upd H l (.lst [.str "put",.str "end",.str "drop"])=H1 at s1 A2 hc2 q2 ⊢
  have ein:(if false=true then !inV (V.str "cut") [V.str "put",V.str "end",V.str "drop"] else inV (V.str "cut") [V.str "put",V.str "end",V.str "drop"])=false:=by decide +kernel
  rw [ein]
  have q2:Q (.str ((none:Option Str).getD "done")) H1:=q2
  refine iteF (iteF ?_)
  refine ⟨_,rfl,c,_,_,_,rfl,rfl,SqT.of hc2,rfl,rfl,_,rfl,ifF (by decide +kernel) ?_⟩
  refine ⟨_,rfl,c,_,_,_,rfl,rfl,SqT.of hc2,rfl,rfl,_,rfl,ifF (by decide +kernel) ?_⟩
  refine ⟨_,rfl,c,_,_,_,rfl,rfl,SqT.of hc2,rfl,rfl,_,rfl,ifF (by decide +kernel) ?_⟩
  refine ⟨_,rfl,_,_,rfl,rfl,_,rfl,ifF (by decide) ?_⟩
  refine ⟨_,rfl,_,rfl,de,_,rfl,.inl (SqL.of A2.hd),_,_,rfl,rfl,_,rfl,ifF (by rw [List.length_map]; omega) ?_⟩
  refine ⟨_,rfl,c,_,_,_,rfl,rfl,SqT.of hc2,rfl,rfl,_,rfl,ifF (by decide +kernel) (iteF ?_)⟩
  exact q2
end
end K10
set_option Elab.async false
set_option linter.all false
set_option maxRecDepth 100000
namespace K10
open PySem L2
section
variable {P:Program} {w:World} {K:PySem.W.Frag} {mg:Str→Option Value} {base:Heap} {f:Addr} {fd:FuncData}
theorem scEndIn:z0h ["_law_house","_law_deed","_law_page","_law_old"] ["_law_house","_law_deed"] (z06 sEndIn):=⟨rfl,rfl,rfl,by decide +kernel,rfl,by decide +kernel,by decide +kernel⟩
set_option maxHeartbeats 1000000 in
theorem ok_endin {gS:Addr} {dS:FuncData} {gP:Addr} {dP:FuncData} (F:Fun K "_law_end_in" "_law_end_in" sEndIn f fd) (B:Blt mg) (B2:Blt2 mg) (GS:FnOk P w K mg base CX0 1 gS dS ["_law_house","_law_stroke"] spStroke) (bS:z0r K dS ["_law_house","_law_stroke"] []) (kS:PySem.W.keepIn K (.ref gS)=true) (mS:mg "_law_stroke_in"=some (.ref gS)) (GP:FnOk P w K mg base CX0 2 gP dP ["_law_house","_law_dealing","_law_page","_law_number"] spPutIn) (bP:z0r K dP ["_law_house","_law_dealing","_law_page","_law_number"] []) (kP:PySem.W.keepIn K (.ref gP)=true) (mP:mg "_law_put_in"=some (.ref gP)):FnOk P w K mg base CX0 3 f fd ["_law_house","_law_deed"] spEndIn:=by
 refine F.ok scEndIn (fun vs H Q E h=>?_) (fun cdv A outer s H vs Q E hr h=>?_)
 ·obtain ⟨h,ce,de,lo,pu,st,pl,x,v,dr,d,rfl,_⟩:=h
  rfl
 obtain ⟨h,ce,de,lo,pu,st,pl,x,v,dr,d,rfl,A1,rv,ho,hpg,z,q⟩:=h
 have hu:=z2n hr
 refine ⟨_,(z03 (z0u (z0b z1f (z0j z0g (pv 1) z08 (fun _ _=>rfl)) z0a (z0i _)) (z04 (z2v PassesOwn.never rfl (z36 (pe_listRev hr.hd rfl B.lst rfl B2.rev (z0o hu (z0o hu (pv 0) z0a (fun _ _=>rfl)) (z0j z0g (pv 1) z08 (fun _ _=>rfl)) (fun _ _=>rfl)))) (pg_tup rfl (z2o (z1e (i:=2) scEndIn.nd rfl (Or.inl rfl)) (z2o (z1e (i:=3) scEndIn.nd rfl (Or.inl rfl)) pgs_nil))) (z04 (z0d (z0m GP (hr.mono (by decide)) rfl mP kP bP .nil z0z (z00 (pv 0) (z00 (z0j z0g (pv 1) z08 (fun _ _=>rfl)) (z00 (pv 2) (z00 (pv 3) z05))))))))) z0l) (z03 (z0d (z0m GS (hr.mono (by decide)) rfl mS kS bS .nil z0z (z00 (pv 0) (z00 (z1p (z00 z0a (z00 (z1p (z00 z0a (z00 (z0j z0g (pv 1) z08 (fun _ _=>rfl)) z05))) z05))) z05)))) (z04 (z0d (pe_dpop1 (z0o hu (pv 0) z0a (fun _ _=>rfl)) (z0j z0g (pv 1) z08 (fun _ _=>rfl)) ⟨rfl,rfl,rfl,rfl⟩))))),?_⟩
 obtain ⟨c,y2,ev,hc,r2,hne⟩:∃ c w,v=.ref c∧H c=some (.tup [.str w,.int d])∧(dr=true→w="drop")∧(dr=false→w="end"):=by
  cases dr with
  | true =>
   obtain ⟨c,y1,y2,rfl,hc,r1,r2⟩:=z0y (a:=.str "drop") (b:=.int d) rv
   cases r1.str_inv
   cases r2.int_inv
   exact ⟨c,_,rfl,hc,fun _=>rfl,(fun z=>nomatch z)⟩
  | false =>
   obtain ⟨c,y1,y2,rfl,hc,r1,r2⟩:=z0y (a:=.str "end") (b:=.int d) rv
   cases r1.str_inv
   cases r2.int_inv
   exact ⟨c,_,rfl,hc,(fun z=>nomatch z),fun _=>rfl⟩
 subst ev
 cases dr with
 | true =>
  cases r2 rfl
  refine ⟨_,rfl,c,_,_,_,rfl,rfl,SqT.of hc,rfl,rfl,_,rfl,ifT rfl ?_⟩
  obtain ⟨i,a,ys,hi,hw,ha,hr1,hg⟩:=A1.open_at ho
  have lys:=hr1.length
  rw [List.length_map] at lys
  refine ⟨_,rfl,h,_,rfl,A1.gPuts,_,rfl,c,_,_,_,rfl,rfl,SqT.of hc,rfl,pu,_,rfl,hg,a,ys,rfl,SqL.of ha,fun l hl=>⟨l,rfl,⟨_,SqL.of z02⟩,?_⟩⟩
  have s1:=z09 hl (.lst ys.reverse)
  have e1:(upd H l (.lst ys.reverse)) l=some (.lst ys.reverse):=z02
  have nl:=A1.there hl
  have A2:=A1.same s1
  have hr2:=Reps.mono s1 _ _ hr1
  have hc2:=s1 _ _ hc
  generalize upd H l (.lst ys.reverse)=H1 at s1 e1 A2 hr2 hc2 ⊢
  refine for_list (K:=K) (a:=l) (xs:=ys.reverse) (fun j σ H2=>∃ (o2 o3:Option V) (lo':Addr),σ=[some (.ref h),some (.ref c),o2,o3]∧HA H2 h ce de lo' pu st pl (x.undone d ((x.putsOf d).reverse.take j))∧OthL (own h ce de pu st pl) lo lo' H1 H2)
   ⟨none,none,lo,rfl,A2,(Oth.refl _ _).l⟩ (fun j σ H2 _ ⟨_,_,_,_,_,o2⟩=>SqL.of (o2.1 _ _ nl e1)) ?_ ?_
  ·rintro j v σ H2 hj ⟨o2,o3,lo',rfl,A3,oth⟩
   have hjl:j<ys.length:=by
    have:=(List.getElem?_eq_some_iff.mp hj).1
    rw [List.length_reverse] at this
    exact this
   have hj2:ys[ys.length - 1 - j]?=some v:=by rw [List.getElem?_reverse hjl] at hj; exact hj
   obtain ⟨zz,z1,z2⟩:=reps_get hr2 hj2
   have z1':(x.putsOf d).reverse[j]?=some zz:=by
    rw [List.getElem?_reverse (by omega),← lys]
    exact z1
   have kt:=A2.keepT oth.1
   obtain ⟨b,w1,w2,rfl,hb,q1,q2⟩:=z0y (a:=.int (zz.1:Nat)) (b:=.int zz.2) (Rep.keep kt _ _ (z0t zz) z2)
   cases q1.int_inv
   cases q2.int_inv
   have hpz:zz.1<x.desk.length:=hpg zz (List.mem_of_getElem? z1)
   refine ⟨b,_,rfl,SqT.of hb,rfl,_,_,rfl,_,_,rfl,rfl,?_⟩
   refine ⟨_,rfl,_,rfl,c,_,_,_,rfl,rfl,SqT.of (kt _ _ hc2),rfl,_,rfl,_,rfl,h,ce,de,lo',pu,st,pl,_,d,zz.1,zz.2,rfl,A3,by rw [z30]; exact hpz,Hs.fits.undone (k:=1) (z.mono ?_) (fun y hy=>hpg y (List.mem_reverse.mp (List.mem_of_mem_take hy))),fun lo2 H4 A4 o4=>?_⟩
   ·rw [List.length_take,List.length_reverse]
    omega
   ·rw [← undone_snoc] at A4
    have et:(x.putsOf d).reverse.take (j+1)=(x.putsOf d).reverse.take j++[zz]:=by
     rw [List.take_add_one,z1']
     rfl
    rw [← et] at A4
    exact ⟨_,_,lo2,rfl,A4,oth.trans o4⟩
  ·rintro σ H2 ⟨o2,o3,lo',rfl,A3,oth⟩
   have el:ys.reverse.length=(x.putsOf d).reverse.length:=by rw [List.length_reverse,List.length_reverse]; exact lys
   rw [el,List.take_length,← z25] at A3
   have hc3:=A2.keepT oth.1 _ _ hc2
   have pu3:(x.undo d).puts=x.puts:=by rw [z25,z23]
   have z3:(x.undo d).fits 1:=by
    rw [z25]
    exact Hs.fits.undone (k:=1) (by rw [List.length_reverse]; exact z) fun y hy=>hpg y (List.mem_reverse.mp hy)
   have ho3:(x.undo d).isOpen d=true:=by unfold Hs.isOpen; rw [pu3]; exact ho
   have q3:∀ lo2 H',HA H' h ce de lo2 pu st (pl.filter fun z=>z.1 != d) ((x.undo d).endIn d)→OthL (own h ce de pu st pl) lo' lo2 H2 H'→Q .non H':=fun lo2 H' A4 o4=>q lo2 H' A4 ((Same.oth s1).l.trans (oth.trans o4))
   refine ⟨_,rfl,_,rfl,c,_,_,_,rfl,rfl,SqT.of hc3,rfl,le5,fun t1 ht1=>⟨le5,fun t2 ht2=>?_⟩⟩
   have s1:=z09 ht1 (.tup [.str "end",.int d])
   have e1:(upd H2 t1 (.tup [.str "end",.int d])) t1=some (.tup [.str "end",.int d]):=z02
   have ht2':(upd H2 t1 (.tup [.str "end",.int d])) t2=none:=ht2
   have s2:=z09 ht2' (.tup [.str "line",.ref t1])
   have S2:=s1.trans s2
   refine ⟨h,ce,de,lo',pu,st,pl,(x.undo d),.ref t2,.line (.fin d),rfl,A3.same S2,.ofTup z02 (.cons .ofStr (.cons (.ofTup (s2 _ _ e1) (.cons .ofStr (.cons .ofInt .nil))) .nil)),True.intro,z3,fun lo2 H5 A5 o5=>?_⟩
   have hc5:=(A3.same S2).keepT o5.1 _ _ (S2 _ _ hc3)
   have hv:=A5.isOpen d
   have ho5:((x.undo d).stroke (.line (.fin d))).isOpen d=true:=ho3
   rw [ho5] at hv
   obtain ⟨vv,hvv⟩:=Option.isSome_iff_exists.mp hv
   refine ⟨_,rfl,h,_,rfl,A5.gPuts,pu,rfl,.inl ⟨_,.inl A5.hp⟩,_,rfl,c,_,_,_,rfl,rfl,SqT.of hc5,rfl,_,Sum.inl d,vv,A5.hp,rfl,hvv,?_⟩
   exact q3 lo2 _ (A5.ended d) ((Same.oth S2).l.trans (o5.trans (z2s (HA.mp ..)).l))
 | false =>
  cases hne rfl
  refine ⟨_,rfl,c,_,_,_,rfl,rfl,SqT.of hc,rfl,rfl,_,rfl,ifF (by decide +kernel) ?_⟩
  have q3:∀ lo2 H',HA H' h ce de lo2 pu st (pl.filter fun z=>z.1 != d) (x.endIn d)→OthL (own h ce de pu st pl) lo lo2 H H'→Q .non H':=q
  have A3:=A1
  have hc3:=hc
  have ho3:=ho
  have z3:x.fits 1:=z.mono (by omega)
  refine ⟨_,rfl,_,rfl,c,_,_,_,rfl,rfl,SqT.of hc3,rfl,le5,fun t1 ht1=>⟨le5,fun t2 ht2=>?_⟩⟩
  have s1:=z09 ht1 (.tup [.str "end",.int d])
  have e1:(upd H t1 (.tup [.str "end",.int d])) t1=some (.tup [.str "end",.int d]):=z02
  have ht2':(upd H t1 (.tup [.str "end",.int d])) t2=none:=ht2
  have s2:=z09 ht2' (.tup [.str "line",.ref t1])
  have S2:=s1.trans s2
  refine ⟨h,ce,de,lo,pu,st,pl,x,.ref t2,.line (.fin d),rfl,A3.same S2,.ofTup z02 (.cons .ofStr (.cons (.ofTup (s2 _ _ e1) (.cons .ofStr (.cons .ofInt .nil))) .nil)),True.intro,z3,fun lo2 H5 A5 o5=>?_⟩
  have hc5:=(A3.same S2).keepT o5.1 _ _ (S2 _ _ hc3)
  have hv:=A5.isOpen d
  have ho5:(x.stroke (.line (.fin d))).isOpen d=true:=ho3
  rw [ho5] at hv
  obtain ⟨vv,hvv⟩:=Option.isSome_iff_exists.mp hv
  refine ⟨_,rfl,h,_,rfl,A5.gPuts,pu,rfl,.inl ⟨_,.inl A5.hp⟩,_,rfl,c,_,_,_,rfl,rfl,SqT.of hc5,rfl,_,Sum.inl d,vv,A5.hp,rfl,hvv,?_⟩
  exact q3 lo2 _ (A5.ended d) ((Same.oth S2).l.trans (o5.trans (z2s (HA.mp ..)).l))
end
end K10
set_option Elab.async false
set_option linter.all false
set_option maxRecDepth 100000
namespace K10
open PySem L2
def spAnswered:Sp:=fun vs H Q _=>∃ (h ce de lo pu st:Addr) (pl:List (Int × Addr)) (x:Hs) (v:V) (e:Deed) (n:Nat),vs=[.ref h,v]∧HA H h ce de lo pu st pl x∧Rep H e.D v∧x.good n∧n≤110 ∧
 ∀ lo' pl' H',HA H' h ce de lo' pu st pl' (x.answered e).1→OthL (own h ce de pu st pl) lo lo' H H'→(∀ b∈own h ce de pu st pl',b∈own h ce de pu st pl∨H b=none)→Q (x.answered e).2.v H'
section
variable {P:Program} {w:World} {K:PySem.W.Frag} {mg:Str→Option Value} {base:Heap} {f:Addr} {fd:FuncData}
theorem scAns:z0h ["_law_house","_law_deed","_law_word"] ["_law_house","_law_deed"] (z06 z2u):=⟨rfl,rfl,rfl,by decide +kernel,rfl,by decide +kernel,by decide +kernel⟩
set_option maxHeartbeats 4000000 in
theorem ok_answered {gF:Addr} {dF:FuncData} {gR:Addr} {dR:FuncData} {gP:Addr} {dP:FuncData} {gE:Addr} {dE:FuncData} {gC:Addr} {dC:FuncData} {gU:Addr} {dU:FuncData} (F:Fun K "_law_answered" "_law_answered" z2u f fd) (B:Blt mg) (GF:FnOk P w K mg base CX0 4 gF dF ["_law_house","_law_more"] spFull) (bF:z0r K dF ["_law_house","_law_more"] []) (kF:PySem.W.keepIn K (.ref gF)=true) (mF:mg "_law_full"=some (.ref gF)) (GR:FnOk P w K mg base CX0 2 gR dR ["_law_puts","_law_desk","_law_deed"] spRefusal) (bR:z0r K dR ["_law_puts","_law_desk","_law_deed"] []) (kR:PySem.W.keepIn K (.ref gR)=true) (mR:mg "_law_refusal"=some (.ref gR)) (GP:FnOk P w K mg base CX0 2 gP dP ["_law_house","_law_dealing","_law_page","_law_number"] spPutIn) (bP:z0r K dP ["_law_house","_law_dealing","_law_page","_law_number"] []) (kP:PySem.W.keepIn K (.ref gP)=true) (mP:mg "_law_put_in"=some (.ref gP)) (GE:FnOk P w K mg base CX0 3 gE dE ["_law_house","_law_deed"] spEndIn) (bE:z0r K dE ["_law_house","_law_deed"] []) (kE:PySem.W.keepIn K (.ref gE)=true) (mE:mg "_law_end_in"=some (.ref gE)) (GC:FnOk P w K mg base CX0 2 gC dC ["_law_house","_law_page"] spCarryIn) (bC:z0r K dC ["_law_house","_law_page"] []) (kC:PySem.W.keepIn K (.ref gC)=true) (mC:mg "_law_carry_in"=some (.ref gC)) (GU:FnOk P w K mg base CX0 3 gU dU ["_law_house"] spCutIn) (bU:z0r K dU ["_law_house"] []) (kU:PySem.W.keepIn K (.ref gU)=true) (mU:mg "_law_cut_in"=some (.ref gU)):FnOk P w K mg base CX0 5 f fd ["_law_house","_law_deed"] spAnswered:=by
 refine F.ok scAns (fun vs H Q E h=>?_) (fun cdv A outer s H vs Q E hr h=>?_)
 ·obtain ⟨h,ce,de,lo,pu,st,pl,x,v,e,n,rfl,_⟩:=h
  rfl
 obtain ⟨h,ce,de,lo,pu,st,pl,x,v,e,nn,rfl,A1,rv,g,hn,q⟩:=h
 have hu:=z2n hr
 refine ⟨_,(z03 (z0u (z0b z1f (z0j z0g (pv 1) z08 (fun _ _=>rfl)) z0a (z0i _)) (z03 (z2k hu (pv 0) z0a (z0v z20 (z0o hu (pv 0) z0a (fun _ _=>rfl)) z08) rfl) (z03 (z0u (pt_val (z0m GF (hr.mono (by decide)) rfl mF kF bF .nil z0z (z00 (pv 0) (z00 z08 z05)))) (z04 (z0q z0a)) z0l) (z03 (z2k hu (z0o hu (pv 0) z0a (fun _ _=>rfl)) (z0v op_sub (z0o hu (pv 0) z0a (fun _ _=>rfl)) z08) (z17 z05) rfl) (z04 (z0q (z0v op_sub (z0o hu (pv 0) z0a (fun _ _=>rfl)) z08)))))) z0l) (z03 (z0n (i:=2) scAns.nd rfl (Or.inl rfl) (z0m GR (hr.mono (by decide)) rfl mR kR bR .nil z0z (z00 (z0o hu (pv 0) z0a (fun _ _=>rfl)) (z00 (z0o hu (pv 0) z0a (fun _ _=>rfl)) (z00 (pv 1) z05))))) (z03 (z0u (z0b op_ne (pv 2) z0a (z0i _)) (z04 (z0q (pv 2))) z0l) (z03 (z0u (z0b z1f (z0j z0g (pv 1) z08 (fun _ _=>rfl)) z0a (z0i _)) (z03 (z0u (pt_val (z0m GF (hr.mono (by decide)) rfl mF kF bF .nil z0z (z00 (pv 0) (z00 z08 z05)))) (z04 (z0q z0a)) z0l) (z03 (z0d (pe_bm PySem.F.plainAttrs_list PySem.F.slot_list_append PySem.F.type_list_append z12 (z0o hu (z0o hu (pv 0) z0a (fun _ _=>rfl)) (z0j z0g (pv 1) z08 (fun _ _=>rfl)) (fun _ _=>rfl)) (z00 (z1p (z00 (z0j z0g (pv 1) z08 (fun _ _=>rfl)) (z00 (z0j z0w (z0o hu (pv 0) z0a (fun _ _=>rfl)) (z0j z0g (pv 1) z08 (fun _ _=>rfl)) (fun _ _=>rfl)) z05))) z05))) (z04 (z0d (z0m GP (hr.mono (by decide)) rfl mP kP bP .nil z0z (z00 (pv 0) (z00 (z0j z0g (pv 1) z08 (fun _ _=>rfl)) (z00 (z0j z0g (pv 1) z08 (fun _ _=>rfl)) (z00 (z0j z0g (pv 1) z08 (fun _ _=>rfl)) z05))))))))) (z04 (z0u (pt_or2 (z0b z1f (z0j z0g (pv 1) z08 (fun _ _=>rfl)) z0a (z0i _)) (z0b z1f (z0j z0g (pv 1) z08 (fun _ _=>rfl)) z0a (z0i _))) (z04 (z0d (z0m GE (hr.mono (by decide)) rfl mE kE bE .nil z0z (z00 (pv 0) (z00 (pv 1) z05))))) (z04 (z0u (z0b z1f (z0j z0g (pv 1) z08 (fun _ _=>rfl)) z0a (z0i _)) (z04 (z0q (z0j z0w (z0o hu (pv 0) z0a (fun _ _=>rfl)) (z0j z0g (pv 1) z08 (fun _ _=>rfl)) (fun _ _=>rfl)))) (z04 (z0u (z0b z1f (z0j z0g (pv 1) z08 (fun _ _=>rfl)) z0a (z0i _)) (z04 (z0d (z0m GC (hr.mono (by decide)) rfl mC kC bC .nil z0z (z00 (pv 0) (z00 (z0j z0g (pv 1) z08 (fun _ _=>rfl)) z05))))) (z04 (z0d (z0m GU (hr.mono (by decide)) rfl mU kU bU .nil z0z (z00 (pv 0) z05))))))))))) (z04 (z0q z0a)))))),?_⟩
 cases e with
 | begin =>
  obtain ⟨c,y1,rfl,hc,r1⟩:=rep_tup1 rv
  cases r1.str_inv
  refine ⟨_,rfl,c,_,_,_,rfl,rfl,SqT.of hc,rfl,rfl,_,rfl,ifT rfl ?_⟩
  have ea:x.answered .begin=if (x.began.full 1).2=true then ((x.began.full 1).1,.word "no room") else ((x.began.full 1).1.opened,.num x.begun):=rfl
  refine ⟨_,rfl,h,_,rfl,A1.gBegun,_,_,rfl,rfl,_,rfl,h,_,rfl,A1.pBegun _,?_⟩
  have A2:HA _ h ce de lo pu st pl x.began:=A1.setB (n:=x.begun+1) (b:=(x.begun:Int)+1) (by omega)
  have o2:Oth (own h ce de pu st pl) H (upd H h (.dK (putK (hk ce de lo pu st x.room x.begun) (Sum.inr "begun") (.int ((x.begun:Int)+1))))):=z2s (HA.mh ..)
  generalize upd H h (.dK (putK (hk ce de lo pu st x.room x.begun) (Sum.inr "begun") (.int ((x.begun:Int)+1))))=H2 at A2 o2 ⊢
  have fb:x.began.fits (x.began.desk.length+1):=g.fits (by omega) (by have:=g.d2; show x.desk.length+1≤_; omega)
  refine ⟨_,rfl,h,ce,de,lo,pu,st,pl,x.began,1,rfl,A2,(by have:=g.pl; show x.puts.length≤200; omega),(by have:=g.d2; show x.desk.length≤1000; omega),fb,fun lo' H3 A3 o3=>⟨_,rfl,?_⟩⟩
  cases hf:(x.began.full 1).2 with
  | true =>
   rw [hf,if_pos rfl] at ea
   refine iteT ?_
   rw [ea] at q
   exact q lo' pl H3 A3 (o2.l.trans o3) fun b hb=>.inl hb
  | false =>
   rw [hf,if_neg Bool.false_ne_true] at ea
   rw [ea] at q
   refine iteF ?_
   have eb:(x.began.full 1).1.begun=x.begun+1:=z1x
   have ep:(x.began.full 1).1.puts=x.puts:=z28
   have eo:(x.began.full 1).1.opened={ (x.began.full 1).1 with puts:=(x.began.full 1).1.puts++[((((x.began.full 1).1.begun:Nat):Int) - 1,[])] }:=rfl
   rw [eo] at q
   generalize (x.began.full 1).1=y at A3 q eb ep
   have hop:y.isOpen ((y.begun:Int) - 1)=false:=by
    cases hy:y.isOpen ((y.begun:Int) - 1) with
    | false=>rfl
    | true =>
     have m:=z24 hy
     rw [ep] at m
     have:=(g.pz _ m).2.1
     rw [eb] at this
     have this':(((x.begun+1:Nat):Int) - 1)<(x.begun:Nat):=this
     omega
   refine ⟨le5,fun u hu2=>?_⟩
   have nu:=A3.there hu2
   have s4:=z09 hu2 (.lst [])
   have e4:(upd H3 u (.lst [])) u=some (.lst []):=z02
   have nul:u≠lo':=by
    obtain ⟨xs,el,_⟩:=A3.hl
    exact (z07 el hu2).symm
   have hu0:u∉own h ce de pu st pl→H u=none:=fun hn=>by
    cases e:H u with
    | none=>rfl
    | some ob =>
     have:=(o2.trans o3.1) u ob hn e
     rw [hu2] at this
     cases this
   have A4:=A3.same s4
   generalize upd H3 u (.lst [])=H4 at s4 e4 A4 ⊢
   have lpl:(pk pl).length<sizeLine:=z2p (by
    have e1:(pk pl).length=pl.length:=List.length_map _
    have e2:=A1.lenP
    have:=g.pl
    omega)
   refine ⟨_,rfl,h,_,rfl,A4.gPuts,_,rfl,h,_,rfl,A4.gBegun,_,_,rfl,rfl,pu,_,rfl,.inl ⟨_,Sum.inl ((y.begun:Int) - 1),A4.hp,rfl,lpl,rfl⟩,?_⟩
   have A5:=A4.opened (d:=(y.begun:Int) - 1) e4 nu nul hop
   refine ⟨_,rfl,h,_,rfl,A5.gBegun,_,_,rfl,rfl,?_⟩
   have q5:=q lo' _ _ A5 (o2.l.trans (o3.trans ((Same.oth s4).l.trans (z2s (HA.mp ..)).l))) fun b hb=>by
    rw [z37] at hb
    rcases hb with e | e | e | e | e | ⟨z,hz,e⟩
    ·rw [e]; exact .inl (HA.mh ..)
    ·rw [e]; exact .inl (HA.mc ..)
    ·rw [e]; exact .inl (HA.md ..)
    ·rw [e]; exact .inl (HA.mp ..)
    ·rw [e]; exact .inl (HA.ms ..)
    ·rcases List.mem_append.mp hz with hz | hz
     ·rw [← e]; exact .inl (HA.ml hz ..)
     ·have ez:=List.mem_singleton.mp hz
      rw [ez] at e
      rw [← e]
      exact .inr (hu0 nu)
   have ev:V.int ((y.begun:Int) - 1)=(Ans.num x.begun).v:=by
    show V.int _=V.int _
    rw [eb]
    congr 1
    omega
   show Q (V.int ((y.begun:Int) - 1)) _
   rw [ev]
   exact q5
 | put d p n =>
  obtain ⟨c,y1,y2,y3,y4,rfl,hc,r1,r2,r3,r4⟩:=rep_tup4 rv
  cases r1.str_inv
  cases r2.int_inv
  cases r3.int_inv
  cases r4.int_inv
  refine ⟨_,rfl,c,_,_,_,rfl,rfl,SqT.of hc,rfl,rfl,_,rfl,ifF (by decide +kernel) ?_⟩
  refine ⟨_,rfl,h,_,rfl,A1.gPuts,_,rfl,h,_,rfl,A1.gDesk,_,rfl,h,ce,de,lo,pu,st,pl,x,.ref c,(.put d p n),rfl,A1,rv,g.d1,fun z hz=>(g.pz z hz).1,fun H2 s2=>?_⟩
  have A2:=A1.same s2
  have hc2:=s2 _ _ hc
  cases hrf:x.refusal (.put d p n) with
  | some ww =>
   have ea:x.answered (.put d p n)=(x,.word ww):=by unfold Hs.answered; rw [hrf]
   rw [ea] at q
   refine ⟨_,rfl,rfl,_,rfl,ifNT (z1w hrf) ?_⟩
   exact ⟨_,rfl,q lo pl H2 A2 ((Same.oth s2).l) fun b hb=>.inl hb⟩
  | none =>
  have ea:x.answered (.put d p n)=x.deed (.put d p n):=by unfold Hs.answered; rw [hrf]
  rw [ea] at q
  refine ⟨_,rfl,rfl,_,rfl,ifNF rfl ?_⟩
  refine ⟨_,rfl,c,_,_,_,rfl,rfl,SqT.of hc2,rfl,rfl,_,rfl,ifT rfl ?_⟩
  have ho:x.isOpen d=true:=z2c (.inl ⟨p,n,rfl⟩) hrf
  obtain ⟨p0,p1⟩:=z29 (.inl ⟨d,n,rfl⟩) hrf
  obtain ⟨pn,rfl⟩:∃ pn:Nat,p=(pn:Int):=⟨p.toNat,by omega⟩
  have hpn:pn<x.desk.length:=by omega
  have ed:x.deed (.put d (pn:Int) n)=if (x.full 2).2=true then ((x.full 2).1,.word "no room") else ((((x.full 2).1.took d (pn:Int).toNat).putIn d (pn:Int).toNat n),.word "done"):=rfl
  rw [Int.toNat_natCast] at ed
  have fb:x.fits (x.desk.length+1+1):=g.fits (by omega) (by have:=g.d2; omega)
  refine ⟨_,rfl,h,ce,de,lo,pu,st,pl,x,2,rfl,A2,(by have:=g.pl; omega),(by have:=g.d2; omega),fb.mono (by omega),fun lo' H3 A3 o3=>⟨_,rfl,?_⟩⟩
  have o13:=(Same.oth (ow:=own h ce de pu st pl) s2).l.trans o3
  cases hf:(x.full 2).2 with
  | true =>
   rw [hf,if_pos rfl] at ed
   refine iteT ?_
   rw [ed] at q
   exact q lo' pl H3 A3 o13 fun b hb=>.inl hb
  | false =>
   rw [hf,if_neg Bool.false_ne_true] at ed
   rw [ed] at q
   refine iteF ?_
   have ep:(x.full 2).1.puts=x.puts:=z28
   have edk:(x.full 2).1.desk=x.desk:=full_desk
   have fy:(x.full 2).1.fits 1:=Hs.fits.full fb
   have hc3:=A2.keepT o3.1 _ _ hc2
   generalize (x.full 2).1=y at A3 q ep edk fy
   have hoy:y.isOpen d=true:=by unfold Hs.isOpen; rw [ep]; exact ho
   have hpy:pn<y.desk.length:=by rw [edk]; exact hpn
   obtain ⟨i,a,ys,hi,hw,ha,hr1,hg⟩:=A3.open_at hoy
   obtain ⟨o,d1,d2⟩:=A3.atD hpy
   have eo:y.desk.getD pn 0=o:=by rw [List.getD_eq_getElem?_getD,d1]; rfl
   have lys:=hr1.length
   rw [List.length_map] at lys
   have lz:(y.putsOf d).length≤110:=by
    have m:=z24 hoy
    rw [ep] at m
    have h3:(y.putsOf d).length≤_:=(g.pz _ m).2.2.1
    omega
   refine ⟨_,rfl,h,_,rfl,A3.gPuts,_,rfl,c,_,_,_,rfl,rfl,SqT.of hc3,rfl,pu,_,rfl,hg,.inl ⟨rfl,_,SqL.of ha⟩,_,rfl,c,_,_,_,rfl,rfl,SqT.of hc3,rfl,_,rfl,h,_,rfl,A3.gDesk,_,rfl,c,_,_,_,rfl,rfl,SqT.of hc3,rfl,de,_,_,_,rfl,rfl,SqL.of A3.hd,d2,le5,fun t ht=>?_⟩
   have s4:=z09 ht (.tup [.int (pn:Nat),.int o])
   have e4:(upd H3 t (.tup [.int (pn:Nat),.int o])) t=some (.tup [.int (pn:Nat),.int o]):=z02
   have A4:=A3.same s4
   have hc4:=s4 _ _ hc3
   generalize upd H3 t (.tup [.int (pn:Nat),.int o])=H4 at s4 e4 A4 hc4 ⊢
   refine ⟨a,ys,.ref t,rfl,rfl,s4 _ _ ha,z2p (by omega),?_⟩
   have A5:=A4.took (y:=(pn,o)) (v:=.ref t) hi (s4 _ _ ha) (.ofTup e4 (.cons .ofInt (.cons .ofInt .nil)))
   have ma:a∈own h ce de pu st pl:=HA.ml (List.mem_of_getElem? hi) ..
   have o5:Oth (own h ce de pu st pl) H4 (upd H4 a (.lst (ys++[.ref t]))):=z2s ma
   have hc5:=A4.keepT o5 _ _ hc4
   have ek:y.took d pn={ y with puts:=y.puts.map fun z=>if z.1=d then (z.1,z.2++[(pn,y.desk.getD pn 0)]) else z }:=rfl
   rw [eo] at ek
   rw [← ek] at A5
   generalize upd H4 a (.lst (ys++[.ref t]))=H5 at A5 o5 hc5 ⊢
   refine ⟨_,rfl,_,rfl,c,_,_,_,rfl,rfl,SqT.of hc5,rfl,_,rfl,c,_,_,_,rfl,rfl,SqT.of hc5,rfl,_,rfl,c,_,_,_,rfl,rfl,SqT.of hc5,rfl,h,ce,de,lo',pu,st,pl,y.took d pn,d,pn,n,rfl,A5,hpy,fy,fun lo2 H6 A6 o6=>?_⟩
   exact q lo2 pl H6 A6 (o13.trans ((Same.oth s4).l.trans (o5.l.trans o6))) fun b hb=>.inl hb
 | fin d =>
  obtain ⟨c,y1,y2,rfl,hc,r1,r2⟩:=z0y rv
  cases r1.str_inv
  cases r2.int_inv
  refine ⟨_,rfl,c,_,_,_,rfl,rfl,SqT.of hc,rfl,rfl,_,rfl,ifF (by decide +kernel) ?_⟩
  refine ⟨_,rfl,h,_,rfl,A1.gPuts,_,rfl,h,_,rfl,A1.gDesk,_,rfl,h,ce,de,lo,pu,st,pl,x,.ref c,(.fin d),rfl,A1,rv,g.d1,fun z hz=>(g.pz z hz).1,fun H2 s2=>?_⟩
  have A2:=A1.same s2
  have hc2:=s2 _ _ hc
  cases hrf:x.refusal (.fin d) with
  | some ww =>
   have ea:x.answered (.fin d)=(x,.word ww):=by unfold Hs.answered; rw [hrf]
   rw [ea] at q
   refine ⟨_,rfl,rfl,_,rfl,ifNT (z1w hrf) ?_⟩
   exact ⟨_,rfl,q lo pl H2 A2 ((Same.oth s2).l) fun b hb=>.inl hb⟩
  | none =>
  have ea:x.answered (.fin d)=x.deed (.fin d):=by unfold Hs.answered; rw [hrf]
  rw [ea] at q
  refine ⟨_,rfl,rfl,_,rfl,ifNF rfl ?_⟩
  refine ⟨_,rfl,c,_,_,_,rfl,rfl,SqT.of hc2,rfl,rfl,_,rfl,ifF (by decide +kernel) ?_⟩
  refine ⟨_,rfl,c,_,_,_,rfl,rfl,SqT.of hc2,rfl,rfl,_,rfl,ifT rfl (iteT ?_)⟩
  have ho:x.isOpen d=true:=z2c (.inr (.inl rfl)) hrf
  have m:=g.pz _ (z24 ho)
  have lz:(x.putsOf d).length≤nn:=m.2.2.1
  refine ⟨_,rfl,_,rfl,h,ce,de,lo,pu,st,pl,x,.ref c,false,d,rfl,A2,Rep.keep s2.keepT _ _ (Deed.D_flat _) rv,ho,m.2.2.2,g.fits (by omega) (by omega),fun lo' H3 A3 o3=>?_⟩
  refine q lo' _ H3 A3 ((Same.oth s2).l.trans o3) fun b hb=>.inl ?_
  rw [z37] at hb ⊢
  rcases hb with e | e | e | e | e | ⟨z,hz,e⟩
  ·exact .inl e
  ·exact .inr (.inl e)
  ·exact .inr (.inr (.inl e))
  ·exact .inr (.inr (.inr (.inl e)))
  ·exact .inr (.inr (.inr (.inr (.inl e))))
  ·exact .inr (.inr (.inr (.inr (.inr ⟨z,(List.mem_filter.mp hz).1,e⟩))))
 | drop d =>
  obtain ⟨c,y1,y2,rfl,hc,r1,r2⟩:=z0y rv
  cases r1.str_inv
  cases r2.int_inv
  refine ⟨_,rfl,c,_,_,_,rfl,rfl,SqT.of hc,rfl,rfl,_,rfl,ifF (by decide +kernel) ?_⟩
  refine ⟨_,rfl,h,_,rfl,A1.gPuts,_,rfl,h,_,rfl,A1.gDesk,_,rfl,h,ce,de,lo,pu,st,pl,x,.ref c,(.drop d),rfl,A1,rv,g.d1,fun z hz=>(g.pz z hz).1,fun H2 s2=>?_⟩
  have A2:=A1.same s2
  have hc2:=s2 _ _ hc
  cases hrf:x.refusal (.drop d) with
  | some ww =>
   have ea:x.answered (.drop d)=(x,.word ww):=by unfold Hs.answered; rw [hrf]
   rw [ea] at q
   refine ⟨_,rfl,rfl,_,rfl,ifNT (z1w hrf) ?_⟩
   exact ⟨_,rfl,q lo pl H2 A2 ((Same.oth s2).l) fun b hb=>.inl hb⟩
  | none =>
  have ea:x.answered (.drop d)=x.deed (.drop d):=by unfold Hs.answered; rw [hrf]
  rw [ea] at q
  refine ⟨_,rfl,rfl,_,rfl,ifNF rfl ?_⟩
  refine ⟨_,rfl,c,_,_,_,rfl,rfl,SqT.of hc2,rfl,rfl,_,rfl,ifF (by decide +kernel) ?_⟩
  refine ⟨_,rfl,c,_,_,_,rfl,rfl,SqT.of hc2,rfl,rfl,_,rfl,ifF (by decide +kernel) ?_⟩
  refine ⟨_,rfl,c,_,_,_,rfl,rfl,SqT.of hc2,rfl,rfl,_,rfl,ifT rfl ?_⟩
  have ho:x.isOpen d=true:=z2c (.inr (.inr rfl)) hrf
  have m:=g.pz _ (z24 ho)
  have lz:(x.putsOf d).length≤nn:=m.2.2.1
  refine ⟨_,rfl,_,rfl,h,ce,de,lo,pu,st,pl,x,.ref c,true,d,rfl,A2,Rep.keep s2.keepT _ _ (Deed.D_flat _) rv,ho,m.2.2.2,g.fits (by omega) (by omega),fun lo' H3 A3 o3=>?_⟩
  refine q lo' _ H3 A3 ((Same.oth s2).l.trans o3) fun b hb=>.inl ?_
  rw [z37] at hb ⊢
  rcases hb with e | e | e | e | e | ⟨z,hz,e⟩
  ·exact .inl e
  ·exact .inr (.inl e)
  ·exact .inr (.inr (.inl e))
  ·exact .inr (.inr (.inr (.inl e)))
  ·exact .inr (.inr (.inr (.inr (.inl e))))
  ·exact .inr (.inr (.inr (.inr (.inr ⟨z,(List.mem_filter.mp hz).1,e⟩))))
 | look p =>
  obtain ⟨c,y1,y2,rfl,hc,r1,r2⟩:=z0y rv
  cases r1.str_inv
  cases r2.int_inv
  refine ⟨_,rfl,c,_,_,_,rfl,rfl,SqT.of hc,rfl,rfl,_,rfl,ifF (by decide +kernel) ?_⟩
  refine ⟨_,rfl,h,_,rfl,A1.gPuts,_,rfl,h,_,rfl,A1.gDesk,_,rfl,h,ce,de,lo,pu,st,pl,x,.ref c,(.look p),rfl,A1,rv,g.d1,fun z hz=>(g.pz z hz).1,fun H2 s2=>?_⟩
  have A2:=A1.same s2
  have hc2:=s2 _ _ hc
  cases hrf:x.refusal (.look p) with
  | some ww =>
   have ea:x.answered (.look p)=(x,.word ww):=by unfold Hs.answered; rw [hrf]
   rw [ea] at q
   refine ⟨_,rfl,rfl,_,rfl,ifNT (z1w hrf) ?_⟩
   exact ⟨_,rfl,q lo pl H2 A2 ((Same.oth s2).l) fun b hb=>.inl hb⟩
  | none =>
  have ea:x.answered (.look p)=x.deed (.look p):=by unfold Hs.answered; rw [hrf]
  rw [ea] at q
  refine ⟨_,rfl,rfl,_,rfl,ifNF rfl ?_⟩
  refine ⟨_,rfl,c,_,_,_,rfl,rfl,SqT.of hc2,rfl,rfl,_,rfl,ifF (by decide +kernel) ?_⟩
  refine ⟨_,rfl,c,_,_,_,rfl,rfl,SqT.of hc2,rfl,rfl,_,rfl,ifF (by decide +kernel) ?_⟩
  refine ⟨_,rfl,c,_,_,_,rfl,rfl,SqT.of hc2,rfl,rfl,_,rfl,ifF (by decide +kernel) ?_⟩
  obtain ⟨p0,p1⟩:=z29 (.inr (.inl rfl)) hrf
  obtain ⟨pn,rfl⟩:∃ pn:Nat,p=(pn:Int):=⟨p.toNat,by omega⟩
  have hpn:pn<x.desk.length:=by omega
  refine ⟨_,rfl,c,_,_,_,rfl,rfl,SqT.of hc2,rfl,rfl,_,rfl,ifT rfl ?_⟩
  obtain ⟨o,d1,d2⟩:=A2.atD hpn
  have ed:x.deed (.look (pn:Int))=(x,.num (x.desk.getD (pn:Int).toNat 0)):=rfl
  rw [Int.toNat_natCast,List.getD_eq_getElem?_getD,d1,Option.getD_some] at ed
  rw [ed] at q
  exact ⟨_,rfl,h,_,rfl,A2.gDesk,_,rfl,c,_,_,_,rfl,rfl,SqT.of hc2,rfl,de,_,_,_,rfl,rfl,SqL.of A2.hd,d2,q lo pl H2 A2 ((Same.oth s2).l) fun b hb=>.inl hb⟩
 | carry p =>
  obtain ⟨c,y1,y2,rfl,hc,r1,r2⟩:=z0y rv
  cases r1.str_inv
  cases r2.int_inv
  refine ⟨_,rfl,c,_,_,_,rfl,rfl,SqT.of hc,rfl,rfl,_,rfl,ifF (by decide +kernel) ?_⟩
  refine ⟨_,rfl,h,_,rfl,A1.gPuts,_,rfl,h,_,rfl,A1.gDesk,_,rfl,h,ce,de,lo,pu,st,pl,x,.ref c,(.carry p),rfl,A1,rv,g.d1,fun z hz=>(g.pz z hz).1,fun H2 s2=>?_⟩
  have A2:=A1.same s2
  have hc2:=s2 _ _ hc
  cases hrf:x.refusal (.carry p) with
  | some ww =>
   have ea:x.answered (.carry p)=(x,.word ww):=by unfold Hs.answered; rw [hrf]
   rw [ea] at q
   refine ⟨_,rfl,rfl,_,rfl,ifNT (z1w hrf) ?_⟩
   exact ⟨_,rfl,q lo pl H2 A2 ((Same.oth s2).l) fun b hb=>.inl hb⟩
  | none =>
  have ea:x.answered (.carry p)=x.deed (.carry p):=by unfold Hs.answered; rw [hrf]
  rw [ea] at q
  refine ⟨_,rfl,rfl,_,rfl,ifNF rfl ?_⟩
  refine ⟨_,rfl,c,_,_,_,rfl,rfl,SqT.of hc2,rfl,rfl,_,rfl,ifF (by decide +kernel) ?_⟩
  refine ⟨_,rfl,c,_,_,_,rfl,rfl,SqT.of hc2,rfl,rfl,_,rfl,ifF (by decide +kernel) ?_⟩
  refine ⟨_,rfl,c,_,_,_,rfl,rfl,SqT.of hc2,rfl,rfl,_,rfl,ifF (by decide +kernel) ?_⟩
  obtain ⟨p0,p1⟩:=z29 (.inr (.inr rfl)) hrf
  obtain ⟨pn,rfl⟩:∃ pn:Nat,p=(pn:Int):=⟨p.toNat,by omega⟩
  have hpn:pn<x.desk.length:=by omega
  refine ⟨_,rfl,c,_,_,_,rfl,rfl,SqT.of hc2,rfl,rfl,_,rfl,ifF (by decide +kernel) ?_⟩
  refine ⟨_,rfl,c,_,_,_,rfl,rfl,SqT.of hc2,rfl,rfl,_,rfl,ifT rfl ?_⟩
  have ed:x.deed (.carry (pn:Int))=(x.carryIn (pn:Int).toNat,.word "done"):=rfl
  rw [Int.toNat_natCast] at ed
  rw [ed] at q
  refine ⟨_,rfl,_,rfl,c,_,_,_,rfl,rfl,SqT.of hc2,rfl,h,ce,de,lo,pu,st,pl,x,pn,rfl,A2,hpn,g.fits (by omega) (by omega),fun lo' H3 A3 o3=>?_⟩
  exact q lo' pl H3 A3 ((Same.oth s2).l.trans o3) fun b hb=>.inl hb
 | cut =>
  obtain ⟨c,y1,rfl,hc,r1⟩:=rep_tup1 rv
  cases r1.str_inv
  refine ⟨_,rfl,c,_,_,_,rfl,rfl,SqT.of hc,rfl,rfl,_,rfl,ifF (by decide +kernel) ?_⟩
  refine ⟨_,rfl,h,_,rfl,A1.gPuts,_,rfl,h,_,rfl,A1.gDesk,_,rfl,h,ce,de,lo,pu,st,pl,x,.ref c,(.cut),rfl,A1,rv,g.d1,fun z hz=>(g.pz z hz).1,fun H2 s2=>?_⟩
  have A2:=A1.same s2
  have hc2:=s2 _ _ hc
  cases hrf:x.refusal (.cut) with
  | some ww =>
   have ea:x.answered (.cut)=(x,.word ww):=by unfold Hs.answered; rw [hrf]
   rw [ea] at q
   refine ⟨_,rfl,rfl,_,rfl,ifNT (z1w hrf) ?_⟩
   exact ⟨_,rfl,q lo pl H2 A2 ((Same.oth s2).l) fun b hb=>.inl hb⟩
  | none =>
  have ea:x.answered (.cut)=x.deed (.cut):=by unfold Hs.answered; rw [hrf]
  rw [ea] at q
  refine ⟨_,rfl,rfl,_,rfl,ifNF rfl ?_⟩
  refine ⟨_,rfl,c,_,_,_,rfl,rfl,SqT.of hc2,rfl,rfl,_,rfl,ifF (by decide +kernel) ?_⟩
  refine ⟨_,rfl,c,_,_,_,rfl,rfl,SqT.of hc2,rfl,rfl,_,rfl,ifF (by decide +kernel) ?_⟩
  refine ⟨_,rfl,c,_,_,_,rfl,rfl,SqT.of hc2,rfl,rfl,_,rfl,ifF (by decide +kernel) ?_⟩
  refine ⟨_,rfl,c,_,_,_,rfl,rfl,SqT.of hc2,rfl,rfl,_,rfl,ifF (by decide +kernel) ?_⟩
  refine ⟨_,rfl,c,_,_,_,rfl,rfl,SqT.of hc2,rfl,rfl,_,rfl,ifF (by decide +kernel) ?_⟩
  have ed:x.deed .cut=(x.cutIn,.word "done"):=rfl
  rw [ed] at q
  refine ⟨_,rfl,h,ce,de,lo,pu,st,pl,x,rfl,A2,g.fits (by omega) (by omega),fun lo' H3 A3 o3=>?_⟩
  exact q lo' pl H3 A3 ((Same.oth s2).l.trans o3) fun b hb=>.inl hb
end
end K10
set_option Elab.async false
set_option linter.all false
set_option maxRecDepth 100000
namespace K10
open PySem L2
def Hs.new (ps:List Int) (room:Int):Hs:=⟨ps,ps,[],[],room,0,[]⟩
def spHouse:Sp:=fun vs H Q _=>∃ (p:Addr) (ps:List Int) (room:Int),vs=[.ref p,.int room]∧H p=some (.lst (ps.map V.int)) ∧
 ∀ h ce de lo pu st H',Same H H'→HA H' h ce de lo pu st [] (Hs.new ps room)→(∀ b∈own h ce de pu st [],H b=none)→Q (.ref h) H'
def spRoom:Sp:=fun vs H Q _=>∃ i:Int,vs=[.int i]∧∀ (r:Int) (H':Hp),Same H H'→Q (.int r) H'
def spPages:Sp:=fun vs H Q _=>∃ (i c:Int),vs=[.int i,.int c]∧1≤c∧c≤100∧∀ (p:Addr) (ps:List Int) (H':Hp),Same H H'→H p=none→H' p=some (.lst (ps.map V.int))→ps.length=c.toNat→Q (.ref p) H'
section
variable {P:Program} {w:World} {K:PySem.W.Frag} {mg:Str→Option Value} {base:Heap} {f:Addr} {fd:FuncData}
theorem scHouse:z0h ["_law_pages","_law_room","_law_house"] ["_law_pages","_law_room"] (z06 sHouse):=⟨rfl,rfl,rfl,by decide +kernel,rfl,by decide +kernel,by decide +kernel⟩
theorem mk_house (ce de lo pu st:Addr) (room:Int):putK (putK (putK (mergeK [] [(Sum.inr "cellar",V.ref ce),(Sum.inr "desk",V.ref de),(Sum.inr "log",V.ref lo),(Sum.inr "puts",V.ref pu)]) (Sum.inr "room") (.int room)) (Sum.inr "begun") (.int 0)) (Sum.inr "strokes") (.ref st)=hk ce de lo pu st room 0:=by kernel_rfl
set_option maxHeartbeats 1000000 in
theorem ok_house (F:Fun K "_law_house_of" "_law_house_of" sHouse f fd) (B:Blt mg):FnOk P w K mg base CX0 1 f fd ["_law_pages","_law_room"] spHouse:=by
 refine F.ok scHouse (fun vs H Q E h=>?_) (fun cdv A outer s H vs Q E hr h=>?_)
 ·obtain ⟨p,ps,room,rfl,_⟩:=h
  rfl
 obtain ⟨p,ps,room,rfl,hp,q⟩:=h
 have hu:=z2n hr
 refine ⟨_,(z03 (z0n (i:=2) scHouse.nd rfl (Or.inl rfl) (pe_disp (pps_cons z0a (z1a z1j rfl B.lst bList (z00 (pv 0) z05)) (pps_cons z0a (z1a z1j rfl B.lst bList (z00 (pv 0) z05)) (pps_cons z0a (z17 z05) (pps_cons z0a pe_dnewK pps_nil)))) rfl rfl (fun z=>nomatch z) (by decide))) (z03 (z2k hu (pv 2) z0a (pv 1) rfl) (z03 (z2k hu (pv 2) z0a z08 rfl) (z03 (z2k hu (pv 2) z0a (z17 z05) rfl) (z04 (z0q (pv 2))))))),?_⟩
 intro h hh
 have s0:=z09 hh (.dK [])
 have e0:(upd H h (.dK [])) h=some (.dK []):=z02
 generalize upd H h (.dK [])=H0 at s0 e0 ⊢
 refine ⟨_,rfl,p,_,rfl,.inl (SqL.of (s0 _ _ hp)),fun ce hce=>?_⟩
 have s1:=z09 hce (.lst (ps.map V.int))
 have e1:(upd H0 ce (.lst (ps.map V.int))) ce=some (.lst (ps.map V.int)):=z02
 have f1:=s0.free hce
 generalize upd H0 ce (.lst (ps.map V.int))=H1 at s1 e1 ⊢
 have S1:=s0.trans s1
 refine ⟨_,rfl,p,_,rfl,.inl (SqL.of (S1 _ _ hp)),fun de hde=>?_⟩
 have s2:=z09 hde (.lst (ps.map V.int))
 have e2:(upd H1 de (.lst (ps.map V.int))) de=some (.lst (ps.map V.int)):=z02
 have f2:=S1.free hde
 generalize upd H1 de (.lst (ps.map V.int))=H2 at s2 e2 ⊢
 have S2:=S1.trans s2
 refine ⟨le5,fun lo hlo=>?_⟩
 have s3:=z09 hlo (.lst [])
 have e3:(upd H2 lo (.lst [])) lo=some (.lst []):=z02
 generalize upd H2 lo (.lst [])=H3 at s3 e3 ⊢
 have S3:=S2.trans s3
 intro pu hpu
 have s4:=z09 hpu (.dK [])
 have e4:(upd H3 pu (.dK [])) pu=some (.dK []):=z02
 have f4:=S3.free hpu
 generalize upd H3 pu (.dK [])=H4 at s4 e4 ⊢
 have S4:=S3.trans s4
 have c1:=(s2.trans (s3.trans s4)) _ _ e1
 have c2:=(s3.trans s4) _ _ e2
 have c3:=s4 _ _ e3
 have c0:=(s1.trans (s2.trans (s3.trans s4))) _ _ e0
 have n1:ce≠h:=(z07 e0 hce).symm
 have n2:de≠h:=(z07 (s1 _ _ e0) hde).symm
 have n3:lo≠h:=(z07 ((s1.trans s2) _ _ e0) hlo).symm
 have n4:pu≠h:=(z07 ((s1.trans (s2.trans s3)) _ _ e0) hpu).symm
 have n5:ce≠de:=z07 e1 hde
 have n6:ce≠lo:=z07 (s2 _ _ e1) hlo
 have n7:ce≠pu:=z07 ((s2.trans s3) _ _ e1) hpu
 have n8:de≠lo:=z07 e2 hlo
 have n9:de≠pu:=z07 (s3 _ _ e2) hpu
 have na:lo≠pu:=z07 e3 hpu
 refine ⟨c0,[(Sum.inr "cellar",V.ref ce),(Sum.inr "desk",V.ref de),(Sum.inr "log",V.ref lo),(Sum.inr "puts",V.ref pu)],rfl,Nat.le_of_ble_eq_true rfl,?_⟩
 have L1:(mergeK [] [(Sum.inr "cellar",V.ref ce),(Sum.inr "desk",V.ref de),(Sum.inr "log",V.ref lo),(Sum.inr "puts",V.ref pu)]).length≤4:=by
  have:=z32 [(Sum.inr "cellar",V.ref ce),(Sum.inr "desk",V.ref de),(Sum.inr "log",V.ref lo),(Sum.inr "puts",V.ref pu)] []
  exact this
 have L2:(putK (mergeK [] [(Sum.inr "cellar",V.ref ce),(Sum.inr "desk",V.ref de),(Sum.inr "log",V.ref lo),(Sum.inr "puts",V.ref pu)]) (Sum.inr "room") (.int room)).length≤5:=by
  have:=z1k (mergeK [] [(Sum.inr "cellar",V.ref ce),(Sum.inr "desk",V.ref de),(Sum.inr "log",V.ref lo),(Sum.inr "puts",V.ref pu)]) (Sum.inr "room") (.int room)
  omega
 have L3:(putK (putK (mergeK [] [(Sum.inr "cellar",V.ref ce),(Sum.inr "desk",V.ref de),(Sum.inr "log",V.ref lo),(Sum.inr "puts",V.ref pu)]) (Sum.inr "room") (.int room)) (Sum.inr "begun") (.int 0)).length≤6:=by
  have:=z1k (putK (mergeK [] [(Sum.inr "cellar",V.ref ce),(Sum.inr "desk",V.ref de),(Sum.inr "log",V.ref lo),(Sum.inr "puts",V.ref pu)]) (Sum.inr "room") (.int room)) (Sum.inr "begun") (.int 0)
  omega
 refine ⟨_,rfl,_,rfl,h,_,rfl,.inl ⟨_,Sum.inr "room",z02,rfl,z2p (by omega),rfl⟩,?_⟩
 rw [upd_upd]
 refine ⟨_,rfl,h,_,rfl,.inl ⟨_,Sum.inr "begun",z02,rfl,z2p (by omega),rfl⟩,?_⟩
 rw [upd_upd]
 refine ⟨le5,fun st hst=>?_⟩
 have hst':(upd H4 h (.dK (putK (putK (mergeK [] [(Sum.inr "cellar",V.ref ce),(Sum.inr "desk",V.ref de),(Sum.inr "log",V.ref lo),(Sum.inr "puts",V.ref pu)]) (Sum.inr "room") (.int room)) (Sum.inr "begun") (.int 0)))) st=none:=hst
 have m0:st≠h:=fun e=>by rw [e,z02] at hst'; cases hst'
 have hst2:H4 st=none:=by rw [z01 m0] at hst'; exact hst'
 have f5:=S4.free hst2
 refine ⟨_,rfl,h,_,rfl,.inl ⟨_,Sum.inr "strokes",by rw [z01 m0.symm]; exact z02,rfl,z2p (by omega),rfl⟩,?_⟩
 rw [mk_house]
 have m1:ce≠st:=z07 c1 hst2
 have m2:de≠st:=z07 c2 hst2
 have m3:lo≠st:=z07 c3 hst2
 have m4:pu≠st:=z07 e4 hst2
 refine ⟨_,rfl,q h ce de lo pu st _ ?_ ?_ ?_⟩
 ·intro b o hb
  have nb:b≠h:=fun e=>by rw [e,hh] at hb; cases hb
  have ns:b≠st:=fun e=>by rw [e,f5] at hb; cases hb
  rw [z01 nb,z01 ns,z01 nb]
  exact S4 _ _ hb
 ·refine ⟨z02,by rw [z01 n1,z01 m1,z01 n1]; exact c1,by rw [z01 n2,z01 m2,z01 n2]; exact c2,⟨[],by rw [z01 n3,z01 m3,z01 n3]; exact c3,.nil⟩,by rw [z01 n4,z01 m4,z01 n4]; exact e4,rfl,fun i z w a=>by simp at a,List.nodup_nil,⟨[],by rw [z01 m0,z02],.nil⟩,?_,?_,rfl⟩
  ·unfold own
   simp [n1.symm,n2.symm,n4.symm,m0.symm,n5,n7,m1,n9,m2,m4]
  ·unfold own
   simp [n3,n6.symm,n8.symm,na,m3]
 ·intro b hb
  rw [z37] at hb
  rcases hb with e | e | e | e | e | ⟨z,hz,_⟩
  ·rw [e]; exact hh
  ·rw [e]; exact f1
  ·rw [e]; exact f2
  ·rw [e]; exact f4
  ·rw [e]; exact f5
  ·cases hz
end
end K10
set_option Elab.async false
set_option linter.all false
set_option maxRecDepth 100000
namespace K10
open PySem L2
section
variable {P:Program} {w:World} {K:PySem.W.Frag} {mg:Str→Option Value} {base:Heap} {f:Addr} {fd:FuncData}
theorem scPages:z0h ["_law_cell","_law_count"] ["_law_cell","_law_count"] (z06 sPages):=⟨rfl,rfl,rfl,by decide +kernel,rfl,by decide +kernel,by decide +kernel⟩
theorem ok_pages (F:Fun K "_law_pages_of" "_law_pages_of" sPages f fd) (B:Blt mg):FnOk P w K mg base CX0 1 f fd ["_law_cell","_law_count"] spPages:=by
 refine F.ok scPages (fun vs H Q E h=>?_) (fun cdv A outer s H vs Q E hr h=>?_)
 ·obtain ⟨i,c,rfl,_⟩:=h
  rfl
 obtain ⟨i,c,rfl,h1,h2,q⟩:=h
 refine ⟨_,(z04 (z0q (pe_comp [0] ["_law_k","_law_cell"] (BlkOk.one (fv:="_law_cell") (j:=0) rfl (by decide +kernel) (by decide +kernel) rfl (by decide +kernel) rfl rfl (by decide +kernel) rfl rfl rfl) rfl (pi_range1 rfl B.rng (z00 (pv 1) z05)) (fun C s1 H1 fp=>(z0j (ix_listK (K:=K) rfl) (z17 (z00 (z0v z2f (z0v z20 (pv 1) (z0v op_mul z08 (pv 0))) z08) (z00 (z0v op_sub (z0v z2f (pv 1) (z0v op_pow z08 z08)) (pv 0)) z05))) (z0v z2f (pv 0) z08) (fun _ _=>rfl)))))),?_⟩
 refine ⟨_,rfl,c,rfl,by omega,by omega,fun acc hacc=>comp_rangeS (fun v=>∃ z:Int,v=.int z) hacc (by omega) (fun k H3 kk hk hkk=>?_) fun ys H' ly hys s1 e1=>?_⟩
 ·refine ⟨_,rfl,_,rfl,_,_,rfl,rfl,.inl ⟨by decide,by decide⟩,_,_,rfl,rfl,_,_,rfl,rfl,(by decide:(0:Int)<7),_,rfl,_,_,rfl,rfl,⟨by decide,by decide,by decide⟩,_,_,rfl,rfl,(show (0:Int)<10 ^ (30:Int).toNat by decide),_,rfl,_,_,rfl,rfl,le5,fun t ht=>?_⟩
  refine ⟨_,rfl,_,_,rfl,rfl,(by decide:(0:Int)<2),?_⟩
  obtain ⟨z,a1,b1⟩:=z2q (ns:=[(i+3 * (0+(k:Int))) % 7,i % 10 ^ (30:Int).toNat - (0+(k:Int))]) (k:=(0+(k:Int)) % 2) (by omega) (by show _<(2:Int); omega)
  exact ⟨t,_,_,_,rfl,rfl,SqL.of z02,b1,hkk _ _ ⟨z,rfl⟩ (z09 ht _)⟩
 ·obtain ⟨ps,rfl⟩:=ints_of hys
  rw [List.length_map] at ly
  exact q acc ps H' s1 hacc e1 ly
theorem scRoom:z0h ["_law_head"] ["_law_head"] (z06 sRoom):=⟨rfl,rfl,rfl,by decide +kernel,rfl,by decide +kernel,by decide +kernel⟩
theorem ok_room (F:Fun K "_law_room_of" "_law_room_of" sRoom f fd) (B:Blt mg):FnOk P w K mg base CX0 1 f fd ["_law_head"] spRoom:=by
 refine F.ok scRoom (fun vs H Q E h=>?_) (fun cdv A outer s H vs Q E hr h=>?_)
 ·obtain ⟨i,rfl,_⟩:=h
  rfl
 obtain ⟨i,rfl,q⟩:=h
 refine ⟨_,(z04 (z0q (z0j z0w (z17 (z00 (z0v op_pow z08 z08) (z00 z08 (z00 z08 (z00 z08 (z00 z08 (z00 (z0v z20 z08 (z0v z2f (z0v op_fdiv (pv 0) z08) z08)) (z00 (z0v z2f (pv 0) (z0v op_pow z08 z08)) z05)))))))) (z0v z2f (z0v op_fdiv (pv 0) z08) z08) (fun _ _=>rfl)))),?_⟩
 refine ⟨_,_,rfl,rfl,⟨by decide,by decide,by decide⟩,_,rfl,_,_,rfl,rfl,⟨by decide,by decide⟩,_,_,rfl,rfl,(by decide:(0:Int)<60),_,_,rfl,rfl,_,rfl,_,_,rfl,rfl,⟨by decide,by decide,by decide⟩,_,_,rfl,rfl,(show (0:Int)<10 ^ (30:Int).toNat by decide),le5,fun t ht=>?_⟩
 refine ⟨_,rfl,_,_,rfl,rfl,⟨by decide,by decide⟩,_,_,rfl,rfl,(by decide:(0:Int)<7),?_⟩
 obtain ⟨z,a1,b1⟩:=z2q (ns:=[10 ^ (12:Int).toNat,4,6,9,14,15+i / 25 % 60,i % 10 ^ (30:Int).toNat]) (k:=i / 5 % 7) (by omega) (by show _<(7:Int); omega)
 exact ⟨t,_,_,_,rfl,rfl,SqL.of z02,b1,q z _ (z09 ht _)⟩
end
end K10
set_option Elab.async false
set_option linter.all false
set_option maxRecDepth 100000
namespace K10
open PySem L2
structure z13 (K:PySem.W.Frag) (mg:Str→Option Value) (C:Addr):Prop where
 cl:Cls K C
 nCellar:z2b K C "cellar"
 nDesk:z2b K C "desk"
 nRoom:z2b K C "room"
 nStrokes:z2b K C "strokes"
 nBegins:z2b K C "begins"
 nPuts:z2b K C "puts"
 nTakers:z2b K C "takers"
 nBound:z2b K C "bound"
 mgC:mg "House"=some (.ref C)
abbrev bmV:List Value:=[.type "ValueError",.type "Exception",.type "BaseException",.type "object"]
structure Exs (K:PySem.W.Frag) (mg:Str→Option Value) (CD CP CT CR:Addr):Prop where
 mD:mg "NoDealing"=some (.ref CD)
 mP:mg "NoPage"=some (.ref CP)
 mT:mg "Taken"=some (.ref CT)
 mR:mg "NoRoom"=some (.ref CR)
 xD:PySem.W.excIn K CD bmV "ValueError.__new__"=true
 xP:PySem.W.excIn K CP bmV "ValueError.__new__"=true
 xT:PySem.W.excIn K CT bmV "ValueError.__new__"=true
 xR:PySem.W.excIn K CR bmV "ValueError.__new__"=true
theorem pass10 {P:Program} {w:World} {X:Cx}:Passes (CX1 P w) X E0:=fun _ _ _ _ _ _ _ h=>by
 obtain ⟨_,_,_,_,_,_,_,_,_,q⟩:=h
 exact q.elim
def spDo (C:Addr):Sp:=fun vs H Q _=>∃ (c pg lg:Addr) (x:V) (ps ls:List V) (sk:SK),vs=[.ref c,x]∧CellAt C H c pg lg ps ls∧SKat H sk x∧sk.ok ps.length∧ls.length≤199999 ∧
 ∀ (lg':Addr) (H':Hp),CellAt C H' c pg lg' (SK.pg ps sk) (SK.lg ls sk)→(lg'=lg∨H lg'=none)→(∀ b o,H b=some o→b≠c→b≠pg→(b≠lg∨lg'≠lg)→H' b=some o)→Q .non H'
def spMS (CC CH:Addr):Sp:=fun vs H Q _=>∃ (a:Ad) (lo:Addr) (pl:List (Int × Addr)) (x:Hs) (ts:List (Key × V)) (v:V) (s:SM),vs=[.ref a.h,v]∧PH CC CH H a lo pl x ts∧Rep H s.D v∧s.okIn x∧x.fits 1 ∧
 ∀ lo' H',PH CC CH H' a lo' pl (x.stroke s) ts→z1b a lo pl lo' pl H H'→Q .non H'
def spWP (CC CH:Addr):Sp:=fun vs H Q _=>∃ (a:Ad) (lo:Addr) (pl:List (Int × Addr)) (x:Hs) (ts:List (Key × V)) (d:Int) (p:Nat) (n:Int),vs=[.ref a.h,.int d,.int (p:Nat),.int n]∧PH CC CH H a lo pl x ts∧p<x.desk.length∧x.fits 1 ∧
 ∀ lo' H',PH CC CH H' a lo' pl (x.putIn d p n) ts→z1b a lo pl lo' pl H H'→Q .non H'
def spHasR (CC CH:Addr):Sp:=fun vs H Q _=>∃ (a:Ad) (lo:Addr) (pl:List (Int × Addr)) (x:Hs) (ts:List (Key × V)) (m:Int),vs=[.ref a.h,.int m]∧PH CC CH H a lo pl x ts∧Q (.bl (x.roomy m)) H
def spAskP (CC CH CP:Addr):Sp:=fun vs H Q E=>∃ (a:Ad) (lo:Addr) (pl:List (Int × Addr)) (x:Hs) (ts:List (Key × V)) (p:Int),vs=[.ref a.h,.int p]∧PH CC CH H a lo pl x ts∧p.natAbs.log2<1920∧(if p<0∨(x.desk.length:Int)≤p then E (.ref CP) none H else Q .non H)
def spAskD (CC CH CD:Addr):Sp:=fun vs H Q E=>∃ (a:Ad) (lo:Addr) (pl:List (Int × Addr)) (x:Hs) (ts:List (Key × V)) (d:Int),vs=[.ref a.h,.int d]∧PH CC CH H a lo pl x ts∧d.natAbs.log2<1920∧(if x.isOpen d=false then E (.ref CD) none H else Q .non H)
def spAskF (CC CH CT:Addr):Sp:=fun vs H Q E=>∃ (a:Ad) (lo:Addr) (pl:List (Int × Addr)) (x:Hs) (ts:List (Key × V)) (d:Int) (p:Nat),vs=[.ref a.h,.int d,.int (p:Nat)]∧PH CC CH H a lo pl x ts∧x.begun≤1000∧p≤1000∧(if x.taker p=none∨x.taker p=some d then Q .non H else E (.ref CT) none H)
section
variable {P:Program} {w:World} {K:PySem.W.Frag} {mg:Str→Option Value} {base:Heap} {f:Addr} {fd:FuncData}
theorem scCI:z0h ["self","pages","log"] ["self","pages","log"] (z06 sCInit):=⟨rfl,rfl,rfl,by decide +kernel,rfl,by decide +kernel,by decide +kernel⟩
theorem ok_cinit {C:Addr} (F:Fun K "__init__" "Cellar.__init__" sCInit f fd) (B:Blt mg) (T:z2a K mg C):FnOk P w K mg base CX0 1 f fd ["self","pages","log"] (spCInit C):=by
 refine F.ok scCI (fun vs H Q E h=>?_) (fun cdv A outer s H vs Q E hr h=>?_)
 ·obtain ⟨c,dx,a,b,ps,ls,rfl,_⟩:=h
  rfl
 obtain ⟨c,dx,a,b,ps,ls,rfl,hc,ha,hb,k⟩:=h
 refine ⟨_,(z03 (ps_fld (pv 0) (z1a z1j rfl B.lst bList (z00 (pv 1) z05)) rfl) (z04 (ps_fld (pv 0) (z1a z1j rfl B.lst bList (z00 (pv 2) z05)) rfl))),?_⟩
 refine ⟨_,rfl,a,ps,rfl,.inl (SqL.of ha),fun pg hpg=>?_⟩
 have ncp:c≠pg:=z07 hc hpg
 have nca:c≠a:=z0x hc ha (by intro z; cases z)
 have ncb:c≠b:=z0x hc hb (by intro z; cases z)
 have nbp:b≠pg:=z07 hb hpg
 refine ⟨_,rfl,c,C,dx,[],rfl,(by rw [z01 ncp]; exact hc),T.cl,T.nP,(by show 0<1000; decide),?_⟩
 refine ⟨_,rfl,b,ls,rfl,.inl (SqL.of (by rw [z01 ncb.symm,z01 nbp]; exact hb)),fun lg hlg=>?_⟩
 have nlc:lg≠c:=fun z=>by rw [z,z02] at hlg; cases hlg
 have nlp:lg≠pg:=fun z=>by rw [z,z01 ncp.symm,z02] at hlg; cases hlg
 have hlg0:H lg=none:=by rw [z01 nlc,z01 nlp] at hlg; exact hlg
 refine ⟨_,rfl,c,C,dx,_,rfl,(by rw [z01 nlc.symm]; exact z02),T.cl,T.nL,(by show 1<1000; decide),?_⟩
 refine k pg lg _ hpg hlg0 ⟨⟨dx,z02⟩,by rw [z01 ncp.symm,z01 nlp.symm,z01 ncp.symm,z02],by rw [z01 nlc,z02],nlp.symm⟩ fun d o e hd=>?_
 rw [z01 hd,z01 (z07 e hlg0),z01 hd,z01 (z07 e hpg)]
 exact e
theorem scDo:z0h ["self","stroke"] ["self","stroke"] (z06 sDo):=⟨rfl,rfl,rfl,by decide +kernel,rfl,by decide +kernel,by decide +kernel⟩
theorem ok_do {C:Addr} (F:Fun K "do_stroke" "Cellar.do_stroke" sDo f fd) (T:z2a K mg C):FnOk P w K mg base CX0 1 f fd ["self","stroke"] (spDo C):=by
 refine F.ok scDo (fun vs H Q E h=>?_) (fun cdv A outer s H vs Q E hr h=>?_)
 ·obtain ⟨c,pg,lg,x,ps,ls,sk,rfl,_⟩:=h
  rfl
 obtain ⟨c,pg,lg,x,ps,ls,sk,rfl,⟨⟨dx,h1⟩,hp,hl,npl⟩,hat,hok,zl,k⟩:=h
 have ncp:c≠pg:=z0x h1 hp (by intro z; cases z)
 have ncl:c≠lg:=z0x h1 hl (by intro z; cases z)
 refine ⟨_,(z04 (z0u (z0b z1f (z0j z0g (pv 1) z08 (fun _ _=>rfl)) z0a (z0i _)) (z04 (z0d (pe_bm PySem.F.plainAttrs_list PySem.F.slot_list_append PySem.F.type_list_append z12 (z10 (pv 0) rfl) (z00 (z0j z0g (pv 1) z08 (fun _ _=>rfl)) z05)))) (z04 (z0u (z0b z1f (z0j z0g (pv 1) z08 (fun _ _=>rfl)) z0a (z0i _)) (z04 (ps_asg (z0j z0g (pv 1) z08 (fun _ _=>rfl)) (pg_sub (z10 (pv 0) rfl) (z0j z0g (pv 1) z08 (fun _ _=>rfl)) set_list))) (z04 (z0u (z0b z1f (z0j z0g (pv 1) z08 (fun _ _=>rfl)) z0a (z0i _)) (z04 (ps_fld (pv 0) (pe_slice sl_list (z10 (pv 0) rfl) (po_some (z0j z0g (pv 1) z08 (fun _ _=>rfl))) po_none) rfl)) z0l)))))),?_⟩
 cases sk with
 | line v =>
  obtain ⟨t,rfl,ht⟩:=hat
  refine ⟨_,rfl,t,_,_,_,rfl,rfl,SqT.of ht,rfl,rfl,_,rfl,ifT rfl ?_⟩
  refine ⟨_,rfl,c,C,dx,_,_,rfl,h1,T.cl,T.nL,cflds_log _ _,.inl ⟨rfl,_,SqL.of hl⟩,_,rfl,t,_,_,_,rfl,rfl,SqT.of ht,rfl,lg,_,v,rfl,rfl,hl,z2p (by omega),?_⟩
  refine k lg _ ⟨⟨dx,by rw [z01 ncl]; exact h1⟩,by rw [z01 npl]; exact hp,z02,npl⟩ (.inl rfl) fun b o e _ _ n3=>?_
  rw [z01 (n3.elim id fun z=>absurd rfl z)]
  exact e
 | page j n =>
  obtain ⟨t,rfl,ht⟩:=hat
  refine ⟨_,rfl,t,_,_,_,rfl,rfl,SqT.of ht,rfl,rfl,_,rfl,ifF pl_ne ?_⟩
  refine ⟨_,rfl,t,_,_,_,rfl,rfl,SqT.of ht,rfl,rfl,_,rfl,ifT rfl ?_⟩
  refine ⟨_,rfl,t,_,_,_,rfl,rfl,SqT.of ht,rfl,_,rfl,c,C,dx,_,_,rfl,h1,T.cl,T.nP,cflds_pages _ _,_,rfl,t,_,_,_,rfl,rfl,SqT.of ht,rfl,pg,_,_,j,rfl,rfl,hp,ixN_nat hok,?_⟩
  refine k lg _ ⟨⟨dx,by rw [z01 ncp]; exact h1⟩,z02,by rw [z01 npl.symm]; exact hl,npl⟩ (.inl rfl) fun b o e _ n2 _=>?_
  rw [z01 n2]
  exact e
 | cut m =>
  obtain ⟨t,rfl,ht⟩:=hat
  refine ⟨_,rfl,t,_,_,_,rfl,rfl,SqT.of ht,rfl,rfl,_,rfl,ifF cl_ne ?_⟩
  refine ⟨_,rfl,t,_,_,_,rfl,rfl,SqT.of ht,rfl,rfl,_,rfl,ifF cp_ne ?_⟩
  refine ⟨_,rfl,t,_,_,_,rfl,rfl,SqT.of ht,rfl,rfl,_,rfl,ifT rfl ?_⟩
  refine ⟨_,rfl,c,C,dx,_,_,rfl,h1,T.cl,T.nL,cflds_log _ _,_,rfl,t,_,_,_,rfl,rfl,SqT.of ht,rfl,m,rfl,lg,_,rfl,SqL.of hl,fun lg' hlg'=>?_⟩
  have ncl':c≠lg':=z07 h1 hlg'
  have npl':pg≠lg':=z07 hp hlg'
  refine ⟨_,rfl,c,C,dx,_,rfl,(by rw [z01 ncl']; exact h1),T.cl,T.nL,(by rw [cflds_eq]; show 2<1000; decide),?_⟩
  refine k lg' _ ⟨⟨dx,Eq.trans z02 (congrArg (fun l=>some (HO.ins C dx l)) (cflds_put _ _ _))⟩,by rw [z01 ncp.symm,z01 npl']; exact hp,by rw [z01 ncl'.symm,z02]; rfl,npl'⟩ (.inr hlg') fun b o e n1 _ _=>?_
  rw [z01 n1,z01 (z07 e hlg')]
  exact e
theorem scMS:z0h ["self","stroke"] ["self","stroke"] (z06 sMakeS):=⟨rfl,rfl,rfl,by decide +kernel,rfl,by decide +kernel,by decide +kernel⟩
theorem ok_ms {CC CH:Addr} {gD:Addr} {dD:FuncData} (F:Fun K "make_stroke" "House.make_stroke" sMakeS f fd) (T:z13 K mg CH) (TC:z2a K mg CC) (GD:FnOk P w K mg base CX0 1 gD dD ["self","stroke"] (spDo CC)) (bD:z0r K dD ["self","stroke"] []) (mD:Meth K CC "do_stroke" gD):FnOk P w K mg base CX0 2 f fd ["self","stroke"] (spMS CC CH):=by
 refine F.ok scMS (fun vs H Q E h=>?_) (fun cdv A outer s H vs Q E hr h=>?_)
 ·obtain ⟨a,lo,pl,x,ts,v,s,rfl,_⟩:=h
  rfl
 obtain ⟨a,lo,pl,x,ts,v,sm,rfl,A,hv,hok,hfit,q⟩:=h
 obtain ⟨dx,o1⟩:=A.ob
 obtain ⟨dy,o2⟩:=A.co
 obtain ⟨xs,e1,e2⟩:=A.hl
 obtain ⟨zs,e3,e4⟩:=A.sk
 obtain ⟨y,hat,hln⟩:=stroke_at hv
 have nel:a.ce≠lo:=A.va.ne.2.2.2.2.2.2.2.2.2.2.2.1.symm
 have lxs:=e2.1
 have lzs:zs.length=x.strokes.length:=by rw [Reps.length e4,List.length_map]
 obtain ⟨hf1,hf2,hf3⟩:=hfit
 have hsk:(skOf y sm).ok (x.cellar.map V.int).length:=by
  rw [List.length_map,A.va.cd]
  cases sm with
  | line ln=>trivial
  | page p n=>exact hok
  | cut k=>trivial
 refine ⟨_,(z03 (z0d (z11 (z10 (pv 0) rfl) TC.cl mD GD (hr.mono (by decide)) bD .nil z0z (z00 (pv 1) z05))) (z04 (z0d (pe_bm PySem.F.plainAttrs_list PySem.F.slot_list_append PySem.F.type_list_append z12 (z10 (pv 0) rfl) (z00 (pv 1) z05))))),?_⟩
 refine ⟨_,rfl,a.h,CH,dx,_,_,rfl,o1,T.cl,T.nCellar,hf_cellar .., a.c,dy,_,rfl,o2,cflds_no _ _ (by decide +kernel) (by decide +kernel),_,rfl,a.c,a.ce,lo,v,_,xs,skOf y sm,rfl,⟨⟨dy,o2⟩,A.hc,e1,nel⟩,hat,hsk,by omega,fun lo' H1 CA hlo kp=>?_⟩
 have c1:a.h≠a.c:=A.cn.1.symm
 have o1':H1 a.h=_:=kp _ _ o1 c1 A.hn.1.symm (.inl A.hn.2.2.2.2.1.symm)
 have e3':H1 a.st=_:=kp _ _ e3 A.cn.2.2.2.2.1.symm A.va.ne.2.2.2.2.2.2.1.symm (.inl A.va.ne.2.2.2.2.2.2.2.2.2.2.2.2.2.2.1.symm)
 refine ⟨_,rfl,a.h,CH,dx,_,_,rfl,o1',T.cl,T.nStrokes,hf_strokes .., .inl ⟨rfl,_,SqL.of e3'⟩,_,rfl,a.st,zs,v,rfl,rfl,e3',z2p (by omega),?_⟩
 refine q lo' _ (A.stroked hok hv hln e1 e2 e3 e4 CA hlo kp) (z1b.upd ⟨fun b o hb e=>?_,fun b hb=>?_⟩ (his_st ..))
 ·exact kp b o e (fun z=>hb (by rw [z]; exact his_c ..)) (fun z=>hb (by rw [z]; exact his_ce ..)) (.inl fun z=>hb (by rw [z]; exact his_lo ..))
 ·rcases List.mem_cons.mp hb with z | z
  ·rcases hlo with y | y
   ·rw [z,y]; exact .inl (his_lo ..)
   ·rw [z]; exact .inr y
  ·exact .inl (List.mem_cons_of_mem _ z)
theorem scWP:z0h ["self","dealing","page","number"] ["self","dealing","page","number"] (z06 sWriteP):=⟨rfl,rfl,rfl,by decide +kernel,rfl,by decide +kernel,by decide +kernel⟩
theorem ok_wp {CC CH:Addr} {gS:Addr} {dS:FuncData} (F:Fun K "write_put" "House.write_put" sWriteP f fd) (T:z13 K mg CH) (GS:FnOk P w K mg base CX0 2 gS dS ["self","stroke"] (spMS CC CH)) (bS:z0r K dS ["self","stroke"] []) (mS:Meth K CH "make_stroke" gS):FnOk P w K mg base CX0 3 f fd ["self","dealing","page","number"] (spWP CC CH):=by
 refine F.ok scWP (fun vs H Q E h=>?_) (fun cdv A outer s H vs Q E hr h=>?_)
 ·obtain ⟨a,lo,pl,x,ts,d,p,n,rfl,_⟩:=h
  rfl
 obtain ⟨a,lo,pl,x,ts,d,p,n,rfl,A,hp,hfit,q⟩:=h
 obtain ⟨dx,o1⟩:=A.ob
 obtain ⟨z,z1,z2⟩:=A.va.atD hp
 have ez:x.desk.getD p 0=z:=by rw [List.getD_eq_getElem?_getD,z1]; rfl
 refine ⟨_,(z03 (z0d (z11 (pv 0) T.cl mS GS (hr.mono (by decide)) bS .nil z0z (z00 (z1p (z00 z0a (z00 (z1p (z00 z0a (z00 (pv 1) (z00 (pv 2) (z00 (z0j z0w (z10 (pv 0) rfl) (pv 2) (fun _ _=>rfl)) (z00 (pv 3) z05)))))) z05))) z05))) (z04 (ps_asg (pv 3) (pg_sub (z10 (pv 0) rfl) (pv 2) set_list)))),?_⟩
 refine ⟨_,rfl,a.h,dx,_,rfl,o1,(by kernel_rfl),_,rfl,_,rfl,_,rfl,a.h,CH,dx,_,_,rfl,o1,T.cl,T.nDesk,z2x .., _,rfl,a.de,_,_,_,rfl,rfl,SqL.of A.hd,z2,_,rfl,le5,fun t1 h1=>⟨le5,fun t2 h2=>?_⟩⟩
 have s1:=z09 h1 (.tup [.str "put",.int d,.int ((p:Nat):Int),.int z,.int n])
 have s2:=z09 h2 (.tup [.str "line",.ref t1])
 have A2:=A.same (s1.trans s2)
 have hv:Rep (upd (upd H t1 (.tup [.str "put",.int d,.int ((p:Nat):Int),.int z,.int n])) t2 (.tup [.str "line",.ref t1])) (SM.line (.put d p z n)).D (.ref t2) :=
  Rep.ofTup z02 (.cons .ofStr (.cons (Rep.ofTup (s2 _ _ z02) (.cons .ofStr (.cons .ofInt (.cons .ofInt (.cons .ofInt (.cons .ofInt .nil)))))) .nil))
 refine ⟨a,lo,pl,x,ts,_,.line (.put d p z n),rfl,A2,hv,hp,hfit,fun lo' H3 A3 m3=>?_⟩
 obtain ⟨dx3,o3⟩:=A3.ob
 have hp3:p<(x.desk.map V.int).length:=by rw [List.length_map]; exact hp
 have hd3:=A3.hd
 rw [z1v] at hd3
 refine ⟨_,rfl,_,rfl,a.h,CH,dx3,_,_,rfl,o3,T.cl,T.nDesk,z2x .., _,rfl,a.de,_,_,p,rfl,rfl,hd3,ixN_nat hp3,?_⟩
 have ed:x.putIn d p n={ x.stroke (.line (.put d p z n)) with desk:=x.desk.set p n }:=by
  unfold Hs.putIn
  rw [ez]
 have A4:=A3.setD (c:=x.desk.set p n) (by rw [z1v,List.length_set])
 rw [z33]
 rw [← ed] at A4
 exact q lo' _ A4 (((s1.trans s2).moves.trans m3).upd (his_de ..))
theorem scHR:z0h ["self","more"] ["self","more"] (z06 sHasR):=⟨rfl,rfl,rfl,by decide +kernel,rfl,by decide +kernel,by decide +kernel⟩
theorem ok_hr {CC CH:Addr} (F:Fun K "has_room" "House.has_room" sHasR f fd) (B:Blt mg) (T:z13 K mg CH) (TC:z2a K mg CC):FnOk P w K mg base CX0 1 f fd ["self","more"] (spHasR CC CH):=by
 refine F.ok scHR (fun vs H Q E h=>?_) (fun cdv A outer s H vs Q E hr h=>?_)
 ·obtain ⟨a,lo,pl,x,ts,m,rfl,_⟩:=h
  rfl
 obtain ⟨a,lo,pl,x,ts,m,rfl,A,q⟩:=h
 obtain ⟨dx,o1⟩:=A.ob
 obtain ⟨dy,o2⟩:=A.co
 obtain ⟨xs,e1,e2⟩:=A.hl
 refine ⟨_,(z04 (z0q (pe_cmpR op_le (z0v z20 (z0v z20 (z0p z0k rfl B.len PySem.boot_len (z00 (z10 (z10 (pv 0) rfl) rfl) z05)) (z10 (pv 0) rfl)) (pv 1)) (z10 (pv 0) rfl) (z0i _)))),?_⟩
 refine ⟨_,rfl,a.h,CH,dx,_,_,rfl,o1,T.cl,T.nCellar,hf_cellar .., a.c,CC,dy,_,_,rfl,o2,TC.cl,TC.nL,cflds_log _ _,lo,_,rfl,.inl (SqL.of e1),_,rfl,a.h,CH,dx,_,_,rfl,o1,T.cl,T.nBound,hf_bound .., _,_,rfl,rfl,_,rfl,_,_,rfl,rfl,_,rfl,a.h,CH,dx,_,_,rfl,o1,T.cl,T.nRoom,hf_room .., _,_,rfl,rfl,?_⟩
 have e:x.roomy m=decide (((xs.length:Nat):Int)+x.bound+m≤x.room):=by
  unfold Hs.roomy
  rw [e2.1]
 rw [e] at q
 exact q
end
end K10
set_option Elab.async false
set_option linter.all false
set_option maxRecDepth 100000
namespace K10
open PySem L2
section
variable {P:Program} {w:World} {K:PySem.W.Frag} {mg:Str→Option Value} {base:Heap} {f:Addr} {fd:FuncData}
theorem scAP:z0h ["self","page"] ["self","page"] (z06 sAskP):=⟨rfl,rfl,rfl,by decide +kernel,rfl,by decide +kernel,by decide +kernel⟩
theorem ok_ap {CC CH CD CP CT CR:Addr} (F:Fun K "ask_page" "House.ask_page" sAskP f fd) (B:Blt mg) (T:z13 K mg CH) (E:Exs K mg CD CP CT CR):FnOk P w K mg base (CX1 P w) 1 f fd ["self","page"] (spAskP CC CH CP):=by
 refine F.okX scAP (fun vs H Q Ex h=>?_) (fun cdv A outer s H vs Q Ex hr h=>?_)
 ·obtain ⟨a,lo,pl,x,ts,p,rfl,_⟩:=h
  rfl
 obtain ⟨a,lo,pl,x,ts,p,rfl,A,hsm,q⟩:=h
 obtain ⟨dx,o1⟩:=A.ob
 refine ⟨_,(z04 (z0u (pt_or2 (z0b op_lt (pv 1) z08 (z0i _)) (z0b op_ge (pv 1) (z0p z0k rfl B.len PySem.boot_len (z00 (z10 (pv 0) rfl) z05)) (z0i _))) (z04 (ps_raise E.xP E.mP PySem.F.excBase_ValueError rfl (pe_joined (z2d 2000 z0a (z2d 2000 (pe_fmt (pv 1)) pj_nil))))) z0l)),?_⟩
 refine ⟨_,rfl,_,_,rfl,rfl,_,rfl,ite2 (fun c1=>?_) (fun c1=>?_)⟩
 ·have c2:p<0:=of_decide_eq_true c1
  refine iteT ?_
  rw [if_pos (.inl c2)] at q
  exact ⟨_,rfl,(Nat.le_of_ble_eq_true rfl),_,rfl,_,rfl,hsm,_,rfl,(Nat.le_trans (z2j hsm) (by decide)),fun _=>q⟩
 ·refine ⟨_,rfl,_,rfl,a.h,CH,dx,_,_,rfl,o1,T.cl,T.nDesk,z2x .., a.de,_,rfl,.inl (SqL.of A.hd),_,_,rfl,rfl,_,rfl,ite2 (fun c3=>?_) (fun c3=>?_)⟩
  ·have c4:((x.desk.map V.int).length:Int)≤p:=of_decide_eq_true c3
   rw [List.length_map] at c4
   rw [if_pos (.inr c4)] at q
   exact ⟨_,rfl,(Nat.le_of_ble_eq_true rfl),_,rfl,_,rfl,hsm,_,rfl,(Nat.le_trans (z2j hsm) (by decide)),fun _=>q⟩
  ·have c2:¬p<0:=fun z=>c1 (decide_eq_true z)
   have c4:¬(x.desk.length:Int)≤p:=fun z=>c3 (decide_eq_true (by rw [List.length_map]; exact z))
   rw [if_neg (fun z=>z.elim c2 c4)] at q
   exact q
theorem scAD:z0h ["self","dealing"] ["self","dealing"] (z06 sAskD):=⟨rfl,rfl,rfl,by decide +kernel,rfl,by decide +kernel,by decide +kernel⟩
theorem ok_ad {CC CH CD CP CT CR:Addr} (F:Fun K "ask_dealing" "House.ask_dealing" sAskD f fd) (T:z13 K mg CH) (E:Exs K mg CD CP CT CR):FnOk P w K mg base (CX1 P w) 1 f fd ["self","dealing"] (spAskD CC CH CD):=by
 refine F.okX scAD (fun vs H Q Ex h=>?_) (fun cdv A outer s H vs Q Ex hr h=>?_)
 ·obtain ⟨a,lo,pl,x,ts,p,rfl,_⟩:=h
  rfl
 obtain ⟨a,lo,pl,x,ts,d,rfl,A,hsm,q⟩:=h
 obtain ⟨dx,o1⟩:=A.ob
 have hu:=z2n hr
 have hopen:(valV (pk pl) (Sum.inl d)).isSome=x.isOpen d:=A.va.isOpen d
 refine ⟨_,(z04 (z0u (pt_cmp (pc_dnotin hu (pv 1) (z10 (pv 0) rfl))) (z04 (ps_raise E.xD E.mD PySem.F.excBase_ValueError rfl (pe_joined (z2d 2000 z0a (z2d 2000 (pe_fmt (pv 1)) (z2d 2000 z0a pj_nil)))))) z0l)),?_⟩
 refine ⟨_,rfl,_,rfl,a.h,CH,dx,_,_,rfl,o1,T.cl,T.nPuts,hf_puts .., a.pu,_,rfl,DGet.k (k:=Sum.inl d) A.hp,_,rfl,?_⟩
 rw [hopen]
 cases ho:x.isOpen d with
 | false =>
  rw [ho,if_pos rfl] at q
  refine iteT ?_
  exact ⟨_,rfl,(Nat.le_of_ble_eq_true rfl),_,rfl,_,rfl,hsm,_,rfl,(Nat.le_trans (z2j hsm) (by decide)),_,rfl,(Nat.le_of_ble_eq_true rfl),fun _=>q⟩
 | true =>
  rw [ho,if_neg (fun z=>nomatch z)] at q
  exact iteF q
theorem taker_of {x:Hs} {ts:List (Key × V)} {p:Nat} (t:Takes x ts):(∀ v,valV ts (Sum.inl ((p:Nat):Int))=some v→∃ d:Int,v=.int d∧0≤d∧d<x.begun∧(x.isOpen d=true→x.taker p=some d)∧(x.isOpen d=false→x.taker p=none))∧(valV ts (Sum.inl ((p:Nat):Int))=none→x.taker p=none):=by
 have key:∀ d,x.taker p=some d→valV ts (Sum.inl ((p:Nat):Int))=some (.int d)∧x.isOpen d=true:=fun d e=>by
  unfold Hs.taker at e
  cases q:x.puts.find? (fun z=>z.2.any fun y=>y.1 == p) with
  | none=>rw [q] at e; cases e
  | some z =>
   rw [q] at e
   have e':z.1=d:=Option.some.inj e
   have hz:=List.mem_of_find?_eq_some q
   have hp:=List.find?_some q
   obtain ⟨y,hy,hq⟩:=List.any_eq_true.mp hp
   have e2:=t.a z hz y hy
   rw [beq_iff_eq.mp hq,e'] at e2
   exact ⟨e2,List.any_eq_true.mpr ⟨z,hz,by rw [e']; exact beq_self_eq_true d⟩⟩
 refine ⟨fun v e=>?_,fun e=>?_⟩
 ·obtain ⟨p',d,e1,e2,e3,e4,e5⟩:=t.b _ v e
  have ep:p'=p:=by have:=Sum.inl.inj e1; omega
  subst ep
  refine ⟨d,e2,e3,e4,fun ho=>?_,fun ho=>?_⟩
  ·obtain ⟨z,hz,z1,y,hy,y1⟩:=e5 ho
   cases q:x.taker p' with
   | none =>
    unfold Hs.taker at q
    have q':x.puts.find? (fun z=>z.2.any fun y=>y.1 == p')=none:=by
     cases w:x.puts.find? (fun z=>z.2.any fun y=>y.1 == p') with
     | none=>rfl
     | some u=>rw [w] at q; cases q
    have:=List.find?_eq_none.mp q' z hz
    exact absurd (List.any_eq_true.mpr ⟨y,hy,by rw [y1]; exact beq_self_eq_true p'⟩) this
   | some d' =>
    obtain ⟨k1,_⟩:=key d' q
    rw [e,e2] at k1
    have:V.int d=V.int d':=Option.some.inj k1
    injection this with this
    rw [this]
  ·cases q:x.taker p' with
   | none=>rfl
   | some d' =>
    obtain ⟨k1,k2⟩:=key d' q
    rw [e,e2] at k1
    have:V.int d=V.int d':=Option.some.inj k1
    injection this with this
    rw [this,k2] at ho
    cases ho
 ·cases q:x.taker p with
  | none=>rfl
  | some d =>
   rw [(key d q).1] at e
   cases e
theorem small_nat {n:Nat} (h:n≤1000):(n:Int).natAbs.log2<1920:=by
 refine small_log ?_
 rw [Int.natAbs_natCast]
 exact Nat.lt_of_le_of_lt h (Nat.lt_of_lt_of_le (by decide:1000<2 ^ 10) (Nat.pow_le_pow_right (by decide) (by decide)))
theorem scAF:z0h ["self","dealing","page","taker"] ["self","dealing","page"] (z06 sAskF):=⟨rfl,rfl,rfl,by decide +kernel,rfl,by decide +kernel,by decide +kernel⟩
theorem ok_af {CC CH CD CP CT CR:Addr} (F:Fun K "ask_free" "House.ask_free" sAskF f fd) (T:z13 K mg CH) (E:Exs K mg CD CP CT CR):FnOk P w K mg base (CX1 P w) 1 f fd ["self","dealing","page"] (spAskF CC CH CT):=by
 refine F.okX scAF (fun vs H Q Ex h=>?_) (fun cdv A outer s H vs Q Ex hr h=>?_)
 ·obtain ⟨a,lo,pl,x,ts,d,p,rfl,_⟩:=h
  rfl
 obtain ⟨a,lo,pl,x,ts,d,p,rfl,A,hb,hp,q⟩:=h
 obtain ⟨dx,o1⟩:=A.ob
 have hu:=z2n hr
 obtain ⟨t1,t2⟩:=taker_of (p:=p) A.tf
 refine ⟨_,(z03 (z0n (i:=3) scAF.nd rfl (Or.inl rfl) (pe_dget2 hu (z10 (pv 0) rfl) (pv 2) (pv 1) ⟨rfl,rfl,rfl,rfl⟩)) (z04 (z0u (pt_and2 (z0b op_ne (pv 3) (pv 1) (z0i _)) (pt_cmp (pc_din hu (pv 3) (z10 (pv 0) rfl)))) (z04 (ps_raise E.xT E.mT PySem.F.excBase_ValueError rfl (pe_joined (z2d 2000 z0a (z2d 2000 (pe_fmt (pv 2)) (z2d 2000 z0a (z2d 2000 (pe_fmt (pv 3)) pj_nil))))))) z0l))),?_⟩
 refine ⟨_,rfl,a.h,CH,dx,_,_,rfl,o1,T.cl,T.nTakers,hf_takers .., a.tk,rfl,.inl ⟨_,.inl A.kt⟩,_,rfl,_,rfl,_,DGet.k (k:=Sum.inl ((p:Nat):Int)) A.kt,?_⟩
 cases e:valV ts (Sum.inl ((p:Nat):Int)) with
 | none =>
  rw [t2 e,if_pos (.inl rfl)] at q
  refine ⟨_,rfl,_,rfl,rfl,_,rfl,iteNS rfl (iteF ?_)⟩
  exact q
 | some v =>
  obtain ⟨d',rfl,h0,h1,h2,h3⟩:=t1 v e
  refine ⟨_,rfl,_,rfl,rfl,_,rfl,?_⟩
  by_cases ed:d'=d
  ·subst ed
   refine iteNS rfl (iteF ?_)
   cases ho:x.isOpen d' with
   | true=>rw [h2 ho,if_pos (.inr rfl)] at q; exact q
   | false=>rw [h3 ho,if_pos (.inl rfl)] at q; exact q
  ·refine ifNT (fun z=>ed (by injection z)) ?_
   have hopen:(valV (pk pl) (Sum.inl d')).isSome=x.isOpen d':=A.va.isOpen d'
   refine ⟨_,rfl,_,rfl,a.h,CH,dx,_,_,rfl,o1,T.cl,T.nPuts,hf_puts .., a.pu,_,rfl,DGet.k (k:=Sum.inl d') A.hp,_,rfl,?_⟩
   rw [hopen]
   cases ho:x.isOpen d' with
   | false =>
    rw [h3 ho,if_pos (.inl rfl)] at q
    exact iteF q
   | true =>
    rw [h2 ho,if_neg (fun z=>z.elim (fun z=>nomatch z) fun z=>ed (Option.some.inj z))] at q
    refine iteT ?_
    have sm:d'.natAbs.log2<1920:=by
     have e1:d'=((d'.toNat:Nat):Int):=by omega
     rw [e1]
     exact small_nat (by omega)
    exact ⟨_,rfl,(Nat.le_of_ble_eq_true rfl),_,rfl,_,rfl,small_nat hp,_,rfl,(Nat.le_trans (z2j (small_nat hp)) (by decide)),_,rfl,(Nat.le_of_ble_eq_true rfl),_,rfl,_,rfl,sm,_,rfl,(Nat.le_trans (z2j sm) (by decide)),fun _=>q⟩
end
end K10
set_option Elab.async false
set_option linter.all false
set_option maxRecDepth 100000
namespace K10
open PySem L2
def putP (log:List LN) (j p:Nat):Prop:=∃ d o n,log[j]?=some (.put d p o n)
def Need (ps ds:List Int) (log:List LN) (st:List Int) (k:Nat):Prop :=
 ∃ d p o n,log[k]?=some (.put d p o n)∧(d∈st∨((∀ j,k<j→¬putP log j p)∧ps[p]?≠ds[p]?))
def IsN (ps ds:List Int) (log:List LN) (st:List Int) (k:Nat):Prop:=k≤log.length∧(∀ j,j<k→¬Need ps ds log st j)∧(k<log.length→Need ps ds log st k)
theorem IsN.uniq {ps ds:List Int} {log:List LN} {st:List Int} {k k':Nat} (h:IsN ps ds log st k) (h':IsN ps ds log st k'):k=k':=by
 obtain ⟨a1,a2,a3⟩:=h
 obtain ⟨b1,b2,b3⟩:=h'
 rcases Nat.lt_trichotomy k k' with z | z | z
 ·exact absurd (a3 (by omega)) (b2 k z)
 ·exact z
 ·exact absurd (b3 (by omega)) (a2 k' z)
theorem no_put {log:List LN} {i p:Nat} {d:Int} (h:log[i]?=some (.fin d)):¬putP log i p:=fun ⟨_,_,_,e⟩=>by rw [h] at e; cases e
theorem no_need {ps ds:List Int} {log:List LN} {st:List Int} {i:Nat} {d:Int} (h:log[i]?=some (.fin d)):¬Need ps ds log st i:=fun ⟨_,_,_,_,e,_⟩=>by rw [h] at e; cases e
theorem put_len {log:List LN} {j p:Nat} (h:putP log j p):j<log.length:=by
 obtain ⟨_,_,_,e⟩:=h
 exact (List.getElem?_eq_some_iff.mp e).1
def spNeed:Sp:=fun vs H Q _=>∃ (p d l s:Addr) (ps ds st:List Int) (xs:List V) (log:List LN),vs=[.ref p,.ref d,.ref l,.ref s]∧H p=some (.lst (ps.map V.int))∧H d=some (.lst (ds.map V.int))∧H l=some (.lst xs)∧H s=some (.lst (st.map V.int)) ∧
 LogAt H log xs∧(∀ ln∈log,ln.ok ps.length)∧ps.length=ds.length∧log.length≤100000∧st.length≤1000∧∀ (k:Nat) (H':Hp),Same H H'→IsN ps ds log st k→Q (.int k) H'
def LastOk (log:List LN) (kvs:List (Key × V)):Prop:=∀ p k,putP log k p→∃ j:Nat,valV kvs (Sum.inl (p:Int))=some (.int j)∧putP log j p∧∀ j',j<j'→¬putP log j' p
def spLast:Sp:=fun vs H Q _=>∃ (l:Addr) (xs:List V) (log:List LN),vs=[.ref l]∧H l=some (.lst xs)∧LogAt H log xs∧log.length≤100000∧∀ (r:Addr) (kvs:List (Key × V)) (H':Hp),Same H H'→H' r=some (.dK kvs)→LastOk log kvs→Q (.ref r) H'
section
variable {P:Program} {w:World} {K:PySem.W.Frag} {mg:Str→Option Value} {base:Heap} {f:Addr} {fd:FuncData}
theorem scLast:z0h ["log","places","place","line"] ["log"] (z06 sLastP):=⟨rfl,rfl,rfl,by decide +kernel,rfl,by decide +kernel,by decide +kernel⟩
def LastIn (log:List LN) (i:Nat) (kvs:List (Key × V)):Prop:=∀ p k,k<i→putP log k p→∃ j:Nat,j<i∧valV kvs (Sum.inl (p:Int))=some (.int j)∧putP log j p∧∀ j',j<j'→j'<i→¬putP log j' p
theorem LastIn.fin {log:List LN} {i:Nat} {kvs:List (Key × V)} {d:Int} (h:LastIn log i kvs) (e:log[i]?=some (.fin d)):LastIn log (i+1) kvs:=fun p k hk hp=>by
 have hki:k≠i:=fun z=>by subst z; exact no_put e hp
 obtain ⟨j,h1,h2,h3,h4⟩:=h p k (by omega) hp
 refine ⟨j,by omega,h2,h3,fun j' a b=>?_⟩
 by_cases z:j'=i
 ·rw [z]; exact no_put e
 ·exact h4 j' a (by omega)
theorem LastIn.put {log:List LN} {i p:Nat} {kvs:List (Key × V)} {d o n:Int} (h:LastIn log i kvs) (e:log[i]?=some (.put d p o n)):LastIn log (i+1) (putK kvs (Sum.inl (p:Int)) (.int (i:Nat))):=fun p' k hk hp=>by
 by_cases ep:p'=p
 ·subst ep
  refine ⟨i,by omega,by rw [valV_put,if_pos rfl],⟨d,o,n,e⟩,fun j' a b=>by omega⟩
 ·have hki:k≠i:=fun z=>by
   subst z
   obtain ⟨_,_,_,e2⟩:=hp
   rw [e] at e2
   cases e2
   exact ep rfl
  obtain ⟨j,h1,h2,h3,h4⟩:=h p' k (by omega) hp
  have nk:¬((Sum.inl (p':Int):Key)=Sum.inl (p:Int)):=fun z=>ep (by have:=Sum.inl.inj z; omega)
  refine ⟨j,by omega,by rw [valV_put,if_neg nk]; exact h2,h3,fun j' a b=>?_⟩
  by_cases z:j'=i
  ·rw [z]
   rintro ⟨_,_,_,e2⟩
   rw [e] at e2
   cases e2
   exact ep rfl
  ·exact h4 j' a (by omega)
theorem LastIn.done {log:List LN} {kvs:List (Key × V)} (h:LastIn log log.length kvs):LastOk log kvs:=fun p k hp=>by
 obtain ⟨j,_,h2,h3,h4⟩:=h p k (put_len hp) hp
 exact ⟨j,h2,h3,fun j' a b=>h4 j' a (put_len b) b⟩
theorem ok_last (F:Fun K "last_put_places" "last_put_places" sLastP f fd) (B:Blt mg):FnOk P w K mg base CX0 1 f fd ["log"] spLast:=by
 refine F.ok scLast (fun vs H Q E h=>?_) (fun cdv A outer s H vs Q E hr h=>?_)
 ·obtain ⟨l,xs,log,rfl,_⟩:=h
  rfl
 obtain ⟨l,xs,log,rfl,hl,hL,zl,q⟩:=h
 have hu:=z2n hr
 have lx:=hL.1
 refine ⟨_,(z03 (z0n (i:=1) scLast.nd rfl (Or.inl rfl) pe_dnewK) (z03 (z2v PassesOwn.never rfl (pi_enum rfl B.enu (z00 (pv 0) z05)) (pg_tup rfl (z2o (z1e (i:=2) scLast.nd rfl (Or.inl rfl)) (z2o (z1e (i:=3) scLast.nd rfl (Or.inl rfl)) pgs_nil))) (z04 (z0u (z0b z1f (z0j z0g (pv 3) z08 (fun _ _=>rfl)) z0a (z0i _)) (z04 (z2k hu (pv 1) (z0j z0g (pv 3) z08 (fun _ _=>rfl)) (pv 2) rfl)) z0l))) (z04 (z0q (pv 1))))),?_⟩
 intro r hr'
 refine ⟨_,rfl,l,rfl,⟨xs,SqL.of (z09 hr' _ _ _ hl)⟩,for_enum (K:=K) (a:=l) (xs:=xs) (fun i σ H2=>∃ (o2 o3:Option V) (kvs:List (Key × V)),σ=[some (.ref l),some (.ref r),o2,o3]∧Same H H2∧H2 r=some (.dK kvs)∧kvs.length≤i∧LastIn log i kvs)
  ⟨none,none,[],rfl,z09 hr' _,z02,Nat.le_refl _,fun p k hk _=>absurd hk (Nat.not_lt_zero _)⟩ (fun i σ H2 _ ⟨_,_,_,_,s2,_⟩=>SqL.of (s2 _ _ hl)) ?_ ?_⟩
 ·rintro i x σ H2 pr hi ⟨o2,o3,kvs,rfl,s2,er,zk,hI⟩ hpr
  have hi':i<xs.length:=(List.getElem?_eq_some_iff.mp hi).1
  obtain ⟨ln,hln,hat⟩:=hL.get hi
  have s3:=s2.trans (z09 hpr (.tup [.int (i:Nat),x]))
  have hat2:=hat.mono s3.keepT
  have er3:(upd H2 pr (.tup [.int (i:Nat),x])) r=some (.dK kvs):=by rw [z01 (z07 er hpr)]; exact er
  have ep3:(upd H2 pr (.tup [.int (i:Nat),x])) pr=some (.tup [.int (i:Nat),x]):=z02
  generalize upd H2 pr (.tup [.int (i:Nat),x])=H3 at s3 hat2 er3 ep3 ⊢
  refine ⟨pr,_,rfl,SqT.of ep3,rfl,_,_,rfl,_,_,rfl,rfl,?_⟩
  cases ln with
  | fin d =>
   obtain ⟨c,rfl,hc⟩:=hat2
   refine ⟨_,rfl,c,_,_,_,rfl,rfl,SqT.of hc,rfl,rfl,_,rfl,ifF pe_ne ?_⟩
   exact ⟨_,_,kvs,rfl,s3,er3,by omega,hI.fin hln⟩
  | put d p o n =>
   obtain ⟨c,rfl,hc⟩:=hat2
   refine ⟨_,rfl,c,_,_,_,rfl,rfl,SqT.of hc,rfl,rfl,_,rfl,ifT rfl ?_⟩
   refine ⟨_,rfl,_,rfl,_,rfl,c,_,_,_,rfl,rfl,SqT.of hc,rfl,r,_,rfl,DPut.k (k:=Sum.inl (p:Int)) er3 (z2p (by omega)),?_⟩
   have:=z1k kvs (Sum.inl (p:Int):Key) (V.int (i:Nat))
   exact ⟨_,_,_,rfl,s3.upd_new hr',z02,by omega,hI.put hln⟩
 ·rintro σ H2 ⟨o2,o3,kvs,rfl,s2,er,zk,hI⟩
  rw [← lx] at hI
  exact ⟨_,rfl,q r kvs H2 s2 er hI.done⟩
theorem scFrom:z0h ["pages","desk","log","dealings","unended","last_places","place","line","page","uncarried"] ["pages","desk","log","dealings"] (z06 sNeedF):=⟨rfl,rfl,rfl,by decide +kernel,rfl,by decide +kernel,by decide +kernel⟩
theorem ok_from {g:Addr} {gd:FuncData} (F:Fun K "needed_from" "needed_from" sNeedF f fd) (B:Blt mg) (GL:FnOk P w K mg base CX0 1 g gd ["log"] spLast) (bL:z0r K gd ["log"] []) (kL:PySem.W.keepIn K (.ref g)=true) (mL:mg "last_put_places"=some (.ref g)) :
  FnOk P w K mg base CX0 2 f fd ["pages","desk","log","dealings"] spNeed:=by
 refine F.ok scFrom (fun vs H Q E h=>?_) (fun cdv A outer s H vs Q E hr h=>?_)
 ·obtain ⟨p,d,l,s,ps,ds,st,xs,log,rfl,_⟩:=h
  rfl
 obtain ⟨p,d,l,s0,ps,ds,st,xs,log,rfl,hp,hd,hl,hs,hL,hok,hpd,zl,zs,q⟩:=h
 have lx:=hL.1
 have hu:=z2n hr
 refine ⟨_,(z03 (z0n (i:=4) scFrom.nd rfl (Or.inl rfl) (z1a (call_dictP hr.hd) rfl B.dct bDict (z00 (pe_comp [] ["dealing"] (BlkOk.plain (by decide +kernel) rfl rfl) rfl (z36 (pv 3)) (fun C s1 H1 fp=>(z1p (z00 (pv 0) (z00 pe_bl z05))))) z05))) (z03 (z0n (i:=5) scFrom.nd rfl (Or.inl rfl) (z0m GL (hr.mono (by decide)) rfl mL kL bL .nil z0z (z00 (pv 2) z05))) (z03 (z2v PassesOwn.never rfl (pi_enum rfl B.enu (z00 (pv 2) z05)) (pg_tup rfl (z2o (z1e (i:=6) scFrom.nd rfl (Or.inl rfl)) (z2o (z1e (i:=7) scFrom.nd rfl (Or.inl rfl)) pgs_nil))) (z04 (z0u (z0b z1f (z0j z0g (pv 7) z08 (fun _ _=>rfl)) z0a (z0i _)) (z03 (z0n (i:=8) scFrom.nd rfl (Or.inl rfl) (z0j z0g (pv 7) z08 (fun _ _=>rfl))) (z03 (z0n (i:=9) scFrom.nd rfl (Or.inl rfl) (pe_and (pe_cmpR z1f (z0o hu (pv 5) (pv 8) (fun _ _=>rfl)) (pv 6) (z0i _)) (pe_one (pe_cmpR op_ne (z0j z0w (pv 0) (pv 8) (fun _ _=>rfl)) (z0j z0w (pv 1) (pv 8) (fun _ _=>rfl)) (z0i _))))) (z04 (z0u (pt_or2 (pt_cmp (pc_din hu (z0j z0g (pv 7) z08 (fun _ _=>rfl)) (pv 4))) (pt_val (pv 9))) (z04 (z0q (pv 6))) z0l)))) z0l))) (z04 (z0q (z0p z0k rfl B.len PySem.boot_len (z00 (pv 2) z05))))))),?_⟩
 refine ⟨_,rfl,s0,rfl,⟨_,SqL.of hs⟩,fun acc hacc=>comp_pairs (K:=K) (w:=.bl true) hs hacc (by omega) (fun z H3 k hk=>⟨_,rfl,le5,hk⟩) fun ys H1 s1 eacc hys=>?_⟩
 refine ⟨acc,ys,st.map fun n=>((Sum.inl n:Key),V.bl true),rfl,eacc,fun j x hx=>?_,by rw [List.length_map]; exact hys.1,by rw [← hys.1]; omega,fun u hu'=>?_⟩
 ·obtain ⟨z,h1,h2⟩:=hys.get hx
  exact ⟨_,by rw [List.getElem?_map,h1]; rfl,h2⟩
 have hin:∀ z:Int,(valV (putAll [] (st.map fun n=>((Sum.inl n:Key),V.bl true))) (Sum.inl z:Key)).isSome=decide (z∈st):=fun z=>by
  rw [putAll_has,valV_nil]
  simp
 have s2:=s1.trans (z09 hu' (.dK (putAll [] (st.map fun n=>((Sum.inl n:Key),V.bl true)))))
 have eu:(upd H1 u (.dK (putAll [] (st.map fun n=>((Sum.inl n:Key),V.bl true))))) u=some (.dK (putAll [] (st.map fun n=>((Sum.inl n:Key),V.bl true)))):=z02
 generalize (putAll [] (st.map fun n=>((Sum.inl n:Key),V.bl true)))=us at hin s2 eu ⊢
 generalize upd H1 u (.dK us)=H2 at s2 eu ⊢
 clear s1 eacc hys hacc hu'
 refine ⟨_,rfl,l,xs,log,rfl,s2 _ _ hl,hL.mono fun a x h=>h.mono s2.keepT,zl,fun r kvs H3 s3 er hlast=>?_⟩
 have S3:=s2.trans s3
 have eu3:=s3 _ _ eu
 refine ⟨_,rfl,l,rfl,⟨xs,SqL.of (S3 _ _ hl)⟩,for_enum (K:=K) (a:=l) (xs:=xs) (fun i σ H4=>∃ o6 o7 o8 o9:Option V,σ=[some (.ref p),some (.ref d),some (.ref l),some (.ref s0),some (.ref u),some (.ref r),o6,o7,o8,o9]∧Same H3 H4∧∀ j,j<i→¬Need ps ds log st j)
  ⟨none,none,none,none,rfl,Same.refl _,fun j hj=>absurd hj (Nat.not_lt_zero _)⟩ (fun i σ H4 _ ⟨_,_,_,_,_,s4,_⟩=>SqL.of (s4 _ _ (S3 _ _ hl))) ?_ ?_⟩
 ·rintro i x σ H4 pr hi ⟨o6,o7,o8,o9,rfl,s4,hn⟩ hpr
  have hi':i<xs.length:=(List.getElem?_eq_some_iff.mp hi).1
  obtain ⟨ln,hln,hat⟩:=hL.get hi
  have hk:=hok ln (List.mem_of_getElem? hln)
  have s5:=s4.trans (z09 hpr (.tup [.int (i:Nat),x]))
  have ep5:(upd H4 pr (.tup [.int (i:Nat),x])) pr=some (.tup [.int (i:Nat),x]):=z02
  generalize upd H4 pr (.tup [.int (i:Nat),x])=H5 at s5 ep5 ⊢
  have S5:=S3.trans s5
  have hat2:=hat.mono S5.keepT
  have next:¬Need ps ds log st i→∀ j,j<i+1→¬Need ps ds log st j:=fun h j hj=>by
   by_cases e:j=i
   ·rw [e]; exact h
   ·exact hn j (by omega)
  refine ⟨pr,_,rfl,SqT.of ep5,rfl,_,_,rfl,_,_,rfl,rfl,?_⟩
  cases ln with
  | fin dd =>
   obtain ⟨c,rfl,hc⟩:=hat2
   refine ⟨_,rfl,c,_,_,_,rfl,rfl,SqT.of hc,rfl,rfl,_,rfl,ifF pe_ne ?_⟩
   exact ⟨_,_,_,_,rfl,s5,next (no_need hln)⟩
  | put dd pp oo nn =>
   obtain ⟨c,rfl,hc⟩:=hat2
   have hpp:pp<ps.length:=hk
   obtain ⟨z1,a1,b1⟩:=z2q (ns:=ps) (k:=((pp:Nat):Int)) (by omega) (by omega)
   obtain ⟨z2,a2,b2⟩:=z2q (ns:=ds) (k:=((pp:Nat):Int)) (by omega) (by omega)
   rw [Int.toNat_natCast] at a1 a2
   obtain ⟨j,j1,j2,j3⟩:=hlast pp i ⟨dd,oo,nn,hln⟩
   have hget:DGet H5 r (.int (pp:Nat)) (some (.int (j:Nat))):=by
    have h0:=DGet.k (k:=Sum.inl ((pp:Nat):Int)) (s5 _ _ er)
    rw [j1] at h0
    exact h0
   have lastiff:j=i↔∀ j',i<j'→¬putP log j' pp:=by
    constructor
    ·intro e; rw [← e]; exact j3
    ·intro h
     rcases Nat.lt_trichotomy j i with z | z | z
     ·exact absurd ⟨dd,oo,nn,hln⟩ (j3 i z)
     ·exact z
     ·exact absurd j2 (h j z)
   refine ⟨_,rfl,c,_,_,_,rfl,rfl,SqT.of hc,rfl,rfl,_,rfl,ifT rfl ?_⟩
   refine ⟨_,rfl,c,_,_,_,rfl,rfl,SqT.of hc,rfl,?_⟩
   have join:∀ b:Bool,(b=true↔((∀ j',i<j'→¬putP log j' pp)∧ps[pp]?≠ds[pp]?)) →
     (b=true∨dd∈st↔Need ps ds log st i):=fun b hb=>by
    constructor
    ·rintro (z | z)
     ·exact ⟨dd,pp,oo,nn,hln,.inr (hb.mp z)⟩
     ·exact ⟨dd,pp,oo,nn,hln,.inl z⟩
    ·rintro ⟨d2,p2,o2,n2,e2,hor⟩
     rw [hln] at e2
     cases e2
     rcases hor with z | z
     ·exact .inr z
     ·exact .inl (hb.mpr z)
   have psd:ps[pp]?≠ds[pp]?↔z1≠z2:=by
    rw [a1,a2]
    exact ⟨fun h e=>h (by rw [e]),fun h e=>h (Option.some.inj e)⟩
   refine ⟨_,rfl,_,rfl,r,_,rfl,hget,_,rfl,rfl,_,rfl,?_⟩
   refine ite2 (fun c1=>?_) (fun c1=>?_)
   ·have eji:j=i:=by
     have e:V.int (j:Nat)=V.int (i:Nat):=of_decide_eq_true c1
     injection e with e
     omega
    refine ⟨_,rfl,_,rfl,p,_,_,_,rfl,rfl,SqL.of (S5 _ _ hp),b1,_,rfl,_,rfl,d,_,_,_,rfl,rfl,SqL.of (S5 _ _ hd),b2,rfl,?_⟩
    have hb:=join (!decide (V.int z1=V.int z2)) (by
     rw [psd]
     constructor
     ·intro h
      refine ⟨lastiff.mp eji,fun e=>?_⟩
      rw [e] at h
      simp at h
     ·rintro ⟨_,h⟩
      have:¬V.int z1=V.int z2:=fun e=>h (by injection e)
      simp [this])
    generalize (!decide (V.int z1=V.int z2))=b at hb ⊢
    refine ⟨_,rfl,c,_,_,_,rfl,rfl,SqT.of hc,rfl,_,rfl,u,_,rfl,DGet.k (k:=Sum.inl dd) (s5 _ _ eu3),_,rfl,?_⟩
    rw [hin dd]
    refine ite2 (fun c2=>?_) (fun c2=>?_)
    ·refine iteT ?_
     exact ⟨_,rfl,q i H5 S5 ⟨by omega,hn,fun _=>hb.mp (.inr (of_decide_eq_true c2))⟩⟩
    ·have nst:¬dd∈st:=fun h=>c2 (decide_eq_true h)
     refine ⟨_,rfl,_,rfl,ite2 (fun c3=>?_) (fun c3=>?_)⟩
     ·exact ⟨_,rfl,q i H5 S5 ⟨by omega,hn,fun _=>hb.mp (.inl c3)⟩⟩
     ·refine ⟨_,_,_,_,rfl,s5,next fun h=>?_⟩
      rcases hb.mpr h with z | z
      ·exact c3 z
      ·exact nst z
   ·have nji:¬j=i:=fun e=>c1 (by rw [e]; exact decide_eq_true rfl)
    have hb:=join false ⟨(fun z=>nomatch z),fun z=>absurd (lastiff.mpr z.1) nji⟩
    generalize false=b at hb ⊢
    refine ⟨_,rfl,c,_,_,_,rfl,rfl,SqT.of hc,rfl,_,rfl,u,_,rfl,DGet.k (k:=Sum.inl dd) (s5 _ _ eu3),_,rfl,?_⟩
    rw [hin dd]
    refine ite2 (fun c2=>?_) (fun c2=>?_)
    ·refine iteT ?_
     exact ⟨_,rfl,q i H5 S5 ⟨by omega,hn,fun _=>hb.mp (.inr (of_decide_eq_true c2))⟩⟩
    ·have nst:¬dd∈st:=fun h=>c2 (decide_eq_true h)
     refine ⟨_,rfl,_,rfl,ite2 (fun c3=>?_) (fun c3=>?_)⟩
     ·exact ⟨_,rfl,q i H5 S5 ⟨by omega,hn,fun _=>hb.mp (.inl c3)⟩⟩
     ·refine ⟨_,_,_,_,rfl,s5,next fun h=>?_⟩
      rcases hb.mpr h with z | z
      ·exact c3 z
      ·exact nst z
 ·rintro σ H4 ⟨o6,o7,o8,o9,rfl,s4,hn⟩
  refine ⟨_,rfl,l,xs,rfl,.inl (SqL.of (s4 _ _ (S3 _ _ hl))),?_⟩
  rw [← lx] at hn ⊢
  exact q log.length H4 (S3.trans s4) ⟨Nat.le_refl _,hn,fun h=>absurd h (Nat.lt_irrefl _)⟩
theorem need_cons {ps ds:List Int} {log:List LN} {st:List Int} {ln:LN} {k:Nat}:Need ps ds (ln::log) st (k+1)↔Need ps ds log st k:=by
 have pc:∀ j p,putP (ln::log) (j+1) p↔putP log j p:=fun j p=>Iff.rfl
 constructor
 ·rintro ⟨d,p,o,n,e,h⟩
  refine ⟨d,p,o,n,e,h.imp id fun h=>⟨fun j hj=>?_,h.2⟩⟩
  exact fun z=>h.1 (j+1) (by omega) ((pc j p).mpr z)
 ·rintro ⟨d,p,o,n,e,h⟩
  refine ⟨d,p,o,n,e,h.imp id fun h=>⟨fun j hj=>?_,h.2⟩⟩
  cases j with
  | zero=>omega
  | succ j=>exact fun z=>h.1 j (by omega) ((pc j p).mp z)
theorem need_ix (ps ds st:List Int) (op:Int→Bool) (ho:∀ d,op d=true↔d∈st):∀ log:List LN,IsN ps ds log st (z1h ps ds op log)
 | []=>⟨Nat.le_refl _,fun j hj=>absurd hj (Nat.not_lt_zero _),fun h=>absurd h (Nat.lt_irrefl _)⟩
 | .fin d::r=>by
  obtain ⟨h1,h2,h3⟩:=need_ix ps ds st op ho r
  refine ⟨Nat.succ_le_succ h1,fun j hj=>?_,fun h=>?_⟩
  ·cases j with
   | zero=>exact no_need (d:=d) rfl
   | succ j=>exact fun z=>h2 j (Nat.lt_of_succ_lt_succ hj) (need_cons.mp z)
  ·exact need_cons.mpr (h3 (Nat.lt_of_succ_lt_succ h))
 | .put d p o n::r=>by
  have later:r.any (z2r p)=false↔∀ j,0<j→¬putP (.put d p o n::r) j p:=by
   constructor
   ·intro h j hj z
    cases j with
    | zero=>omega
    | succ j =>
     obtain ⟨d2,o2,n2,e⟩:=z
     have e':r[j]?=some (.put d2 p o2 n2):=e
     have:r.any (z2r p)=true:=List.any_eq_true.mpr ⟨_,List.mem_of_getElem? e',decide_eq_true rfl⟩
     rw [h] at this
     cases this
   ·intro h
    cases q:r.any (z2r p) with
    | false=>rfl
    | true =>
     obtain ⟨ln,hm,hp⟩:=List.any_eq_true.mp q
     obtain ⟨j,hj⟩:=List.mem_iff_getElem?.mp hm
     cases ln with
     | fin d2=>cases hp
     | put d2 p2 o2 n2 =>
      have e:p2=p:=of_decide_eq_true hp
      subst e
      exact absurd ⟨d2,o2,n2,hj⟩ (h (j+1) (Nat.succ_pos j))
  show IsN ps ds _ st (if op d=true∨(r.any (z2r p)=false∧ps[p]?≠ds[p]?) then 0 else z1h ps ds op r+1)
  by_cases c:op d=true∨(r.any (z2r p)=false∧ps[p]?≠ds[p]?)
  ·rw [if_pos c]
   refine ⟨Nat.zero_le _,fun j hj=>absurd hj (Nat.not_lt_zero _),fun _=>⟨d,p,o,n,rfl,c.imp (ho d).mp fun z=>⟨later.mp z.1,z.2⟩⟩⟩
  ·rw [if_neg c]
   obtain ⟨h1,h2,h3⟩:=need_ix ps ds st op ho r
   refine ⟨Nat.succ_le_succ h1,fun j hj=>?_,fun h=>need_cons.mpr (h3 (Nat.lt_of_succ_lt_succ h))⟩
   cases j with
   | zero =>
    rintro ⟨d2,p2,o2,n2,e,h⟩
    cases e
    exact c (h.imp (ho d).mpr fun z=>⟨later.mpr z.1,z.2⟩)
   | succ j=>exact fun z=>h2 j (Nat.lt_of_succ_lt_succ hj) (need_cons.mp z)
end
end K10
set_option Elab.async false
set_option linter.all false
set_option maxRecDepth 100000
namespace K10
open PySem L2
def spCut (CC CH:Addr):Sp:=fun vs H Q _=>∃ (a:Ad) (lo:Addr) (pl:List (Int × Addr)) (x:Hs) (ts:List (Key × V)),vs=[.ref a.h]∧PH CC CH H a lo pl x ts∧x.fits 1∧pl.length≤1000 ∧
 ∀ lo' H',PH CC CH H' a lo' pl x.cutIn ts→z1b a lo pl lo' pl H H'→Q .non H'
def spCarry (CC CH CP:Addr):Sp:=fun vs H Q E=>∃ (a:Ad) (lo:Addr) (pl:List (Int × Addr)) (x:Hs) (ts:List (Key × V)) (p:Int),vs=[.ref a.h,.int p]∧PH CC CH H a lo pl x ts∧p.natAbs.log2<1920∧x.fits 1 ∧
 (if p<0∨(x.desk.length:Int)≤p then E (.ref CP) none H else ∀ lo' H',PH CC CH H' a lo' pl (x.carryIn p.toNat) ts→z1b a lo pl lo' pl H H'→Q .non H')
def spMakeR (CC CH:Addr):Sp:=fun vs H Q _=>∃ (a:Ad) (lo:Addr) (pl:List (Int × Addr)) (x:Hs) (ts:List (Key × V)),vs=[.ref a.h]∧PH CC CH H a lo pl x ts∧x.desk.length≤1000∧x.fits (x.desk.length+1)∧pl.length≤1000 ∧
 ∀ lo' H',PH CC CH H' a lo' pl x.madeRoom ts→z1b a lo pl lo' pl H H'→Q .non H'
def spAskR (CC CH CR:Addr):Sp:=fun vs H Q E=>∃ (a:Ad) (lo:Addr) (pl:List (Int × Addr)) (x:Hs) (ts:List (Key × V)) (m:Nat),vs=[.ref a.h,.int (m:Nat)]∧PH CC CH H a lo pl x ts∧m≤10∧x.desk.length≤1000∧x.fits (x.desk.length+1)∧pl.length≤1000 ∧
 ∀ lo' H',PH CC CH H' a lo' pl (x.full (m:Nat)).1 ts→z1b a lo pl lo' pl H H'→if (x.full (m:Nat)).2=true then E (.ref CR) none H' else Q .non H'
section
variable {P:Program} {w:World} {K:PySem.W.Frag} {mg:Str→Option Value} {base:Heap} {f:Addr} {fd:FuncData}
theorem scCut:z0h ["self","many"] ["self"] (z06 sCut):=⟨rfl,rfl,rfl,by decide +kernel,rfl,by decide +kernel,by decide +kernel⟩
theorem ok_cut {CC CH:Addr} {gS:Addr} {dS:FuncData} {gN:Addr} {dN:FuncData} (F:Fun K "cut" "House.cut" sCut f fd) (B:Blt mg) (T:z13 K mg CH) (TC:z2a K mg CC) (GS:FnOk P w K mg base CX0 2 gS dS ["self","stroke"] (spMS CC CH)) (bS:z0r K dS ["self","stroke"] []) (mS:Meth K CH "make_stroke" gS)
  (GN:FnOk P w K mg base CX0 2 gN dN ["pages","desk","log","dealings"] spNeed) (bN:z0r K dN ["pages","desk","log","dealings"] []) (kN:PySem.W.keepIn K (.ref gN)=true) (mN:mg "needed_from"=some (.ref gN)):FnOk P w K mg base CX0 3 f fd ["self"] (spCut CC CH):=by
 refine F.ok scCut (fun vs H Q E h=>?_) (fun cdv A outer s H vs Q E hr h=>?_)
 ·obtain ⟨a,lo,pl,x,ts,rfl,_⟩:=h
  rfl
 obtain ⟨a,lo,pl,x,ts,rfl,A,hfit,hpl,q⟩:=h
 obtain ⟨dx,o1⟩:=A.ob
 obtain ⟨dy,o2⟩:=A.co
 obtain ⟨xs,e1,e2⟩:=A.hl
 refine ⟨_,(z03 (z0n (i:=1) scCut.nd rfl (Or.inl rfl) (z0m GN (hr.mono (by decide)) rfl mN kN bN .nil z0z (z00 (z10 (z10 (pv 0) rfl) rfl) (z00 (z10 (pv 0) rfl) (z00 (z10 (z10 (pv 0) rfl) rfl) (z00 (z1a (call_listD hr.hd) rfl B.lst bList (z00 (z10 (pv 0) rfl) z05)) z05)))))) (z04 (z0u (z0b op_gt (pv 1) z08 (z0i _)) (z04 (z0d (z11 (pv 0) T.cl mS GS (hr.mono (by decide)) bS .nil z0z (z00 (z1p (z00 z0a (z00 (pv 1) z05))) z05)))) z0l))),?_⟩
 refine ⟨_,rfl,a.h,CH,dx,_,_,rfl,o1,T.cl,T.nCellar,hf_cellar .., a.c,CC,dy,_,_,rfl,o2,TC.cl,TC.nP,cflds_pages _ _,_,rfl,a.h,CH,dx,_,_,rfl,o1,T.cl,T.nDesk,z2x .., _,rfl,a.h,CH,dx,_,_,rfl,o1,T.cl,T.nCellar,hf_cellar .., a.c,CC,dy,_,_,rfl,o2,TC.cl,TC.nL,cflds_log _ _,_,rfl,a.h,CH,dx,_,_,rfl,o1,T.cl,T.nPuts,hf_puts .., a.pu,_,rfl,A.hp,fun l hl=>?_⟩
 have ek:(pk pl).map (fun z=>kV z.1)=(pl.map (·.1)).map V.int:=pk_keys pl
 have s1:=z09 hl (.lst ((pk pl).map fun z=>kV z.1))
 have el:(upd H l (.lst ((pk pl).map fun z=>kV z.1))) l=some (.lst ((pl.map (·.1)).map V.int)):=by rw [z02,ek]
 generalize upd H l (.lst ((pk pl).map fun z=>kV z.1))=H1 at s1 el ⊢
 have A1:=A.same s1
 have hop:∀ d,x.isOpen d=true↔d∈pl.map (·.1):=fun d=>by
  rw [A.va.pe]
  unfold Hs.isOpen
  rw [List.any_eq_true,List.mem_map]
  constructor
  ·rintro ⟨z,hz,e⟩; exact ⟨z,hz,beq_iff_eq.mp e⟩
  ·rintro ⟨z,hz,e⟩; exact ⟨z,hz,by rw [e]; exact beq_self_eq_true d⟩
 refine ⟨a.ce,a.de,lo,l,x.cellar,x.desk,pl.map (·.1),xs,x.log,rfl,A1.hc,A1.hd,s1 _ _ e1,el,e2.mono fun b y h=>h.mono s1.keepT,fun ln h=>by rw [A.va.cd]; exact hfit.2.2 ln h,A.va.cd,by have:=hfit.2.1; omega,by rw [List.length_map]; exact hpl,fun k H2 s2 hk=>?_⟩
 have ekk:k=z1h x.cellar x.desk x.isOpen x.log:=hk.uniq (need_ix _ _ _ _ hop _)
 subst ekk
 have A2:=A1.same s2
 obtain ⟨dx2,o12⟩:=A2.ob
 refine ⟨_,rfl,_,_,rfl,rfl,_,rfl,ite2 (fun c1=>?_) (fun c1=>?_)⟩
 ·have c2:(0:Int)<((z1h x.cellar x.desk x.isOpen x.log:Nat):Int):=of_decide_eq_true c1
  refine ⟨_,rfl,a.h,dx2,_,rfl,o12,(by kernel_rfl),_,rfl,le5,fun t ht=>?_⟩
  have s3:=z09 ht (.tup [.str "cut",.int ((z1h x.cellar x.desk x.isOpen x.log:Nat):Int)])
  refine ⟨a,lo,pl,x,ts,_,.cut (z1h x.cellar x.desk x.isOpen x.log),rfl,A2.same s3,rep_cut z02,trivial,hfit,fun lo' H4 A4 m4=>?_⟩
  have ec:x.cutIn=x.stroke (.cut (z1h x.cellar x.desk x.isOpen x.log)):=by
   unfold Hs.cutIn
   rw [if_pos (by omega)]
  rw [← ec] at A4
  exact q lo' H4 A4 ((s1.trans (s2.trans s3)).moves.trans m4)
 ·have c2:¬(0:Int)<((z1h x.cellar x.desk x.isOpen x.log:Nat):Int):=fun z=>c1 (decide_eq_true z)
  have ec:x.cutIn=x:=by
   unfold Hs.cutIn
   rw [if_neg (by omega)]
  rw [ec] at q
  exact q lo H2 A2 (s1.trans s2).moves
theorem scCarry:z0h ["self","page"] ["self","page"] (z06 sCarry):=⟨rfl,rfl,rfl,by decide +kernel,rfl,by decide +kernel,by decide +kernel⟩
theorem ok_carry {CC CH CP:Addr} {gS:Addr} {dS:FuncData} {gP:Addr} {dP:FuncData} (F:Fun K "carry" "House.carry" sCarry f fd) (T:z13 K mg CH) (TC:z2a K mg CC) (GS:FnOk P w K mg base CX0 2 gS dS ["self","stroke"] (spMS CC CH)) (bS:z0r K dS ["self","stroke"] []) (mS:Meth K CH "make_stroke" gS)
  (GP:FnOk P w K mg base (CX1 P w) 1 gP dP ["self","page"] (spAskP CC CH CP)) (bP:z0r K dP ["self","page"] []) (mP:Meth K CH "ask_page" gP):FnOk P w K mg base (CX1 P w) 3 f fd ["self","page"] (spCarry CC CH CP):=by
 refine F.okX scCarry (fun vs H Q E h=>?_) (fun cdv A outer s H vs Q E hr h=>?_)
 ·obtain ⟨a,lo,pl,x,ts,p,rfl,_⟩:=h
  rfl
 obtain ⟨a,lo,pl,x,ts,p,rfl,A,hsm,hfit,q⟩:=h
 obtain ⟨dx,o1⟩:=A.ob
 obtain ⟨dy,o2⟩:=A.co
 refine ⟨_,(z03 (z0d (z11 (pv 0) T.cl mP GP (hr.mono (by decide)) bP .nil (pass1 fun _ _ z=>z) (z00 (pv 1) z05))) (z04 (z0u (z0b op_ne (z0j z0w (z10 (z10 (pv 0) rfl) rfl) (pv 1) (fun _ _=>rfl)) (z0j z0w (z10 (pv 0) rfl) (pv 1) (fun _ _=>rfl)) (z0i _)) (z04 (z0d (z11 (pv 0) T.cl mS GS (hr.mono (by decide)) bS .nil z0z (z00 (z1p (z00 z0a (z00 (pv 1) (z00 (z0j z0w (z10 (pv 0) rfl) (pv 1) (fun _ _=>rfl)) z05)))) z05)))) z0l))),?_⟩
 refine ⟨_,rfl,a.h,dx,_,rfl,o1,(by kernel_rfl),_,rfl,a,lo,pl,x,ts,p,rfl,A,hsm,?_⟩
 by_cases c:p<0∨(x.desk.length:Int)≤p
 ·rw [if_pos c] at q ⊢
  exact q
 rw [if_neg c] at q ⊢
 have hp:p.toNat<x.desk.length:=by omega
 have ep:p=((p.toNat:Nat):Int):=by omega
 obtain ⟨z1,y1,w1⟩:=A.va.atC hp
 obtain ⟨z2,y2,w2⟩:=A.va.atD hp
 rw [← ep] at w1 w2
 have ez:x.desk.getD p.toNat 0=z2:=by rw [List.getD_eq_getElem?_getD,y2]; rfl
 refine ⟨_,rfl,a.h,CH,dx,_,_,rfl,o1,T.cl,T.nCellar,hf_cellar .., a.c,CC,dy,_,_,rfl,o2,TC.cl,TC.nP,cflds_pages _ _,_,rfl,a.ce,_,_,_,rfl,rfl,SqL.of A.hc,w1,_,rfl,a.h,CH,dx,_,_,rfl,o1,T.cl,T.nDesk,z2x .., _,rfl,a.de,_,_,_,rfl,rfl,SqL.of A.hd,w2,rfl,_,rfl,?_⟩
 by_cases e:z1=z2
 ·subst e
  refine iteNS rfl ?_
  have ec:x.carryIn p.toNat=x:=by
   unfold Hs.carryIn
   rw [if_pos (y1.trans y2.symm)]
  rw [ec] at q
  exact q lo H A (z1b.refl ..)
 ·refine ifNT (fun z=>e (by injection z)) ?_
  refine ⟨_,rfl,a.h,dx,_,rfl,o1,(by kernel_rfl),_,rfl,_,rfl,a.h,CH,dx,_,_,rfl,o1,T.cl,T.nDesk,z2x .., _,rfl,a.de,_,_,_,rfl,rfl,SqL.of A.hd,w2,le5,fun t ht=>?_⟩
  have s1:=z09 ht (.tup [.str "page",.int p,.int z2])
  have hv:Rep (upd H t (.tup [.str "page",.int p,.int z2])) (SM.page p.toNat z2).D (.ref t):=rep_page (by rw [z02,← ep])
  refine ⟨a,lo,pl,x,ts,_,.page p.toNat z2,rfl,A.same s1,hv,hp,hfit,fun lo' H2 A2 m2=>?_⟩
  have ec:x.carryIn p.toNat=x.stroke (.page p.toNat z2):=by
   unfold Hs.carryIn
   rw [if_neg (by rw [y1,y2]; exact fun z=>e (Option.some.inj z)),ez]
  rw [← ec] at A2
  exact q lo' H2 A2 (s1.moves.trans m2)
theorem scMR:z0h ["self","page"] ["self"] (z06 sMakeR):=⟨rfl,rfl,rfl,by decide +kernel,rfl,by decide +kernel,by decide +kernel⟩
theorem ok_mr {CC CH CP:Addr} {gC:Addr} {dC:FuncData} {gU:Addr} {dU:FuncData} (F:Fun K "make_room" "House.make_room" sMakeR f fd) (B:Blt mg) (T:z13 K mg CH) (GC:FnOk P w K mg base (CX1 P w) 3 gC dC ["self","page"] (spCarry CC CH CP)) (bC:z0r K dC ["self","page"] []) (mC:Meth K CH "carry" gC)
  (GU:FnOk P w K mg base CX0 3 gU dU ["self"] (spCut CC CH)) (bU:z0r K dU ["self"] []) (mU:Meth K CH "cut" gU):FnOk P w K mg base CX0 4 f fd ["self"] (spMakeR CC CH):=by
 refine F.ok scMR (fun vs H Q E h=>?_) (fun cdv A outer s H vs Q E hr h=>?_)
 ·obtain ⟨a,lo,pl,x,ts,rfl,_⟩:=h
  rfl
 obtain ⟨a,lo,pl,x,ts,rfl,A,hd,hfit,hpl,q⟩:=h
 obtain ⟨dx,o1⟩:=A.ob
 have ld:(x.desk.map V.int).length=x.desk.length:=List.length_map _
 refine ⟨_,(z03 (z2v PassesOwn.never rfl (pi_range1 rfl B.rng (z00 (z0p z0k rfl B.len PySem.boot_len (z00 (z10 (pv 0) rfl) z05)) z05)) (z1e (i:=1) scMR.nd rfl (Or.inl rfl)) (z04 (z0d (z11 (pv 0) T.cl mC GC (hr.mono (by decide)) bC .nil pass10 (z00 (pv 1) z05))))) (z04 (z0d (pe_meth0 (pv 0) T.cl mU GU (hr.mono (by decide)) bU .nil z0z)))),?_⟩
 refine ⟨_,rfl,a.h,CH,dx,_,_,rfl,o1,T.cl,T.nDesk,z2x .., a.de,_,rfl,.inl (SqL.of A.hd),_,rfl,by omega,by omega,for_range (fun i σ H2=>∃ (lo1:Addr) (o:Option V),σ=[some (.ref a.h),o]∧PH CC CH H2 a lo1 pl (x.carries i) ts∧z1b a lo pl lo1 pl H H2)
  ⟨lo,none,rfl,A,z1b.refl ..⟩ ?_ ?_⟩
 ·rintro i σ H2 hi ⟨lo1,o,rfl,A2,m2⟩
  have hi':i<x.desk.length:=by omega
  have e0:(0:Int)+(i:Int)=((i:Nat):Int):=by omega
  rw [e0]
  obtain ⟨dx2,o12⟩:=A2.ob
  have hf2:(x.carries i).fits 1:=(hfit.mono (by omega:i+1≤x.desk.length+1)).carries (by omega)
  have ed:(x.carries i).desk.length=x.desk.length:=by rw [z27]
  refine ⟨_,rfl,a.h,dx2,_,rfl,o12,(by kernel_rfl),_,rfl,a,lo1,pl,x.carries i,ts,_,rfl,A2,small_nat (by omega),hf2,?_⟩
  rw [if_neg (by rw [ed]; omega)]
  intro lo2 H3 A3 m3
  rw [Int.toNat_natCast,← z16] at A3
  exact ⟨lo2,_,rfl,A3,m2.trans m3⟩
 ·rintro σ H2 ⟨lo1,o,rfl,A2,m2⟩
  have en:((x.desk.map V.int).length:Int).toNat=x.desk.length:=by omega
  have A2':PH CC CH H2 a lo1 pl (x.carries x.desk.length) ts:=by
   simpa [ld] using A2
  obtain ⟨dx2,o12⟩:=A2'.ob
  refine ⟨_,rfl,a.h,dx2,_,rfl,o12,(by kernel_rfl),a,lo1,pl,x.carries x.desk.length,ts,rfl,A2',hfit.carries (Nat.le_refl _),hpl,fun lo2 H3 A3 m3=>?_⟩
  rw [← z1d] at A3
  exact q lo2 H3 A3 (m2.trans m3)
theorem scAR:z0h ["self","more"] ["self","more"] (z06 sAskR):=⟨rfl,rfl,rfl,by decide +kernel,rfl,by decide +kernel,by decide +kernel⟩
theorem ok_ar {CC CH CD CP CT CR:Addr} {gH:Addr} {dH:FuncData} {gM:Addr} {dM:FuncData} (F:Fun K "ask_room" "House.ask_room" sAskR f fd) (T:z13 K mg CH) (E:Exs K mg CD CP CT CR) (GH:FnOk P w K mg base CX0 1 gH dH ["self","more"] (spHasR CC CH)) (bH:z0r K dH ["self","more"] []) (mH:Meth K CH "has_room" gH)
  (GM:FnOk P w K mg base CX0 4 gM dM ["self"] (spMakeR CC CH)) (bM:z0r K dM ["self"] []) (mM:Meth K CH "make_room" gM):FnOk P w K mg base (CX1 P w) 5 f fd ["self","more"] (spAskR CC CH CR):=by
 refine F.okX scAR (fun vs H Q Ex h=>?_) (fun cdv A outer s H vs Q Ex hr h=>?_)
 ·obtain ⟨a,lo,pl,x,ts,m,rfl,_⟩:=h
  rfl
 obtain ⟨a,lo,pl,x,ts,m,rfl,A,hm,hd,hfit,hpl,q⟩:=h
 obtain ⟨dx,o1⟩:=A.ob
 refine ⟨_,(z04 (z0u (pt_not (pt_val (z11 (pv 0) T.cl mH GH (hr.mono (by decide)) bH .nil z0z (z00 (pv 1) z05)))) (z03 (z0d (pe_meth0 (pv 0) T.cl mM GM (hr.mono (by decide)) bM .nil z0z)) (z04 (z0u (pt_not (pt_val (z11 (pv 0) T.cl mH GH (hr.mono (by decide)) bH .nil z0z (z00 (pv 1) z05)))) (z04 (ps_raise E.xR E.mR PySem.F.excBase_ValueError rfl (pe_joined (z2d 2000 z0a (z2d 2000 (pe_fmt (pv 1)) (z2d 2000 z0a pj_nil)))))) z0l))) z0l)),?_⟩
 refine ⟨_,rfl,a.h,dx,_,rfl,o1,(by kernel_rfl),_,rfl,a,lo,pl,x,ts,_,rfl,A,_,rfl,?_⟩
 cases e1:x.roomy ((m:Nat):Int) with
 | true =>
  refine iteF ?_
  have ef:x.full ((m:Nat):Int)=(x,false):=by
   unfold Hs.full
   rw [if_pos e1]
  have q2:=q lo H (by rw [ef]; exact A) (z1b.refl ..)
  rw [ef,if_neg (fun z=>nomatch z)] at q2
  exact q2
 | false =>
  refine iteT ?_
  refine ⟨_,rfl,a.h,dx,_,rfl,o1,(by kernel_rfl),a,lo,pl,x,ts,rfl,A,hd,hfit,hpl,fun lo1 H1 A1 m1=>?_⟩
  have ef:x.full ((m:Nat):Int)=(x.madeRoom, !x.madeRoom.roomy ((m:Nat):Int)):=by
   unfold Hs.full
   rw [if_neg (by rw [e1]; exact fun z=>nomatch z)]
  have q2:=q lo1 H1 (by rw [ef]; exact A1) m1
  rw [ef] at q2
  obtain ⟨dx1,o11⟩:=A1.ob
  refine ⟨_,rfl,a.h,dx1,_,rfl,o11,(by kernel_rfl),_,rfl,a,lo1,pl,_,ts,_,rfl,A1,_,rfl,?_⟩
  cases e2:x.madeRoom.roomy ((m:Nat):Int) with
  | true =>
   rw [e2] at q2
   exact iteF q2
  | false =>
   rw [e2] at q2
   refine iteT ?_
   have sm:=small_nat (n:=m) (by omega)
   exact ⟨_,rfl,(Nat.le_of_ble_eq_true rfl),_,rfl,_,rfl,sm,_,rfl,(Nat.le_trans (z2j sm) (by decide)),_,rfl,(Nat.le_of_ble_eq_true rfl),fun _=>q2⟩
end
end K10
set_option Elab.async false
set_option linter.all false
set_option maxRecDepth 100000
namespace K10
open PySem L2
theorem z1y {x:Hs} {e:Deed} {w:Str} (h:x.refusal e=some w):x.answered e=(x,.word w):=by
 unfold Hs.answered
 rw [h]
theorem z1u {x:Hs} {e:Deed} (h:x.refusal e=none):x.answered e=x.deed e:=by
 unfold Hs.answered
 rw [h]
def outP (CD CP CT CR:Addr) (dn:V) (Q:VK) (E:XK) (H:Hp):Ans→Prop
 | .num i=>Q (.int i) H
 | .word w=>if w="done" then Q dn H else if w="no dealing" then E (.ref CD) none H else if w="no page" then E (.ref CP) none H else if w="taken" then E (.ref CT) none H else E (.ref CR) none H
section
variable {CD CP CT CR:Addr} {dn:V} {Q:VK} {E:XK} {H:Hp}
theorem out_done:outP CD CP CT CR dn Q E H (.word "done")↔Q dn H:=by unfold outP; dsimp only; rw [if_pos rfl]
theorem z31:outP CD CP CT CR dn Q E H (.word "no dealing")↔E (.ref CD) none H:=by unfold outP; dsimp only; rw [if_neg (by decide +kernel),if_pos rfl]
theorem out_page:outP CD CP CT CR dn Q E H (.word "no page")↔E (.ref CP) none H:=by unfold outP; dsimp only; rw [if_neg (by decide +kernel),if_neg (by decide +kernel),if_pos rfl]
theorem out_taken:outP CD CP CT CR dn Q E H (.word "taken")↔E (.ref CT) none H:=by unfold outP; dsimp only; rw [if_neg (by decide +kernel),if_neg (by decide +kernel),if_neg (by decide +kernel),if_pos rfl]
theorem out_room:outP CD CP CT CR dn Q E H (.word "no room")↔E (.ref CR) none H:=by unfold outP; dsimp only; rw [if_neg (by decide +kernel),if_neg (by decide +kernel),if_neg (by decide +kernel),if_neg (by decide +kernel)]
end
def After (CC CH CD CP CT CR:Addr) (dn:V) (a:Ad) (lo:Addr) (pl:List (Int × Addr)) (x:Hs) (ts:List (Key × V)) (H:Hp) (Q:VK) (E:XK) (e:Deed):Prop :=
 ∀ lo' pl' ts' H',PH CC CH H' a lo' pl' (x.answered e).1 ts'→ts'.length≤ts.length+1→z1b a lo pl lo' pl' H H'→outP CD CP CT CR dn Q E H' (x.answered e).2
structure Ready (CC CH:Addr) (H:Hp) (a:Ad) (lo:Addr) (pl:List (Int × Addr)) (x:Hs) (ts:List (Key × V)) (n:Nat):Prop where
 ph:PH CC CH H a lo pl x ts
 gd:x.good n
 n1:n≤110
 tl:ts.length≤100000
 bg:x.begun≤900
def sm (i:Int):Prop:=i.natAbs.log2<1920
def spBegin (CC CH CD CP CT CR:Addr):Sp:=fun vs H Q E=>∃ (a:Ad) (lo:Addr) (pl:List (Int × Addr)) (x:Hs) (ts:List (Key × V)) (n:Nat),vs=[.ref a.h]∧Ready CC CH H a lo pl x ts n∧After CC CH CD CP CT CR .non a lo pl x ts H Q E .begin
def spPut (CC CH CD CP CT CR:Addr):Sp:=fun vs H Q E=>∃ (a:Ad) (lo:Addr) (pl:List (Int × Addr)) (x:Hs) (ts:List (Key × V)) (n:Nat) (d p k:Int),vs=[.ref a.h,.int d,.int p,.int k]∧Ready CC CH H a lo pl x ts n∧sm d∧sm p∧After CC CH CD CP CT CR .non a lo pl x ts H Q E (.put d p k)
def spEnd (CC CH CD CP CT CR:Addr):Sp:=fun vs H Q E=>∃ (a:Ad) (lo:Addr) (pl:List (Int × Addr)) (x:Hs) (ts:List (Key × V)) (n:Nat) (d:Int),vs=[.ref a.h,.int d]∧PH CC CH H a lo pl x ts∧x.fits 1∧sm d∧(if x.isOpen d=false then E (.ref CD) none H else ∀ lo' H',PH CC CH H' a lo' (pl.filter fun z=>z.1 != d) (x.endIn d) ts→z1b a lo pl lo' (pl.filter fun z=>z.1 != d) H H'→Q .non H')
def spDrop (CC CH CD CP CT CR:Addr):Sp:=fun vs H Q E=>∃ (a:Ad) (lo:Addr) (pl:List (Int × Addr)) (x:Hs) (ts:List (Key × V)) (n:Nat) (d:Int),vs=[.ref a.h,.int d]∧Ready CC CH H a lo pl x ts n∧sm d∧After CC CH CD CP CT CR .non a lo pl x ts H Q E (.drop d)
def spLook (CC CH CD CP CT CR:Addr):Sp:=fun vs H Q E=>∃ (a:Ad) (lo:Addr) (pl:List (Int × Addr)) (x:Hs) (ts:List (Key × V)) (n:Nat) (p:Int),vs=[.ref a.h,.int p]∧Ready CC CH H a lo pl x ts n∧sm p∧After CC CH CD CP CT CR .non a lo pl x ts H Q E (.look p)
section
variable {CC CH:Addr} {H:Hp} {a:Ad} {lo:Addr} {pl:List (Int × Addr)} {x:Hs} {ts:List (Key × V)} {n:Nat}
theorem Ready.fits (R:Ready CC CH H a lo pl x ts n) {k:Nat} (hk:k≤50000):x.fits k:=R.gd.fits (by have:=R.n1; omega) hk
theorem Ready.plz (R:Ready CC CH H a lo pl x ts n):pl.length≤1000:=by
 have h1:=R.ph.va.lenP
 have h2:=R.gd.pl
 have h3:=R.n1
 omega
theorem Ready.dk (R:Ready CC CH H a lo pl x ts n):x.desk.length≤1000:=by
 have:=R.gd.d2
 omega
end
section
variable {P:Program} {w:World} {K:PySem.W.Frag} {mg:Str→Option Value} {base:Heap} {f:Addr} {fd:FuncData}
theorem scBegin:z0h ["self","dealing"] ["self"] (z06 sBegin):=⟨rfl,rfl,rfl,by decide +kernel,rfl,by decide +kernel,by decide +kernel⟩
set_option maxHeartbeats 4000000 in
theorem ok_begin {CC CH CD CP CT CR:Addr} {gR:Addr} {dR:FuncData} (F:Fun K "begin" "House.begin" sBegin f fd) (T:z13 K mg CH) (GR:FnOk P w K mg base (CX1 P w) 5 gR dR ["self","more"] (spAskR CC CH CR)) (bR:z0r K dR ["self","more"] []) (mR:Meth K CH "ask_room" gR):FnOk P w K mg base (CX1 P w) 6 f fd ["self"] (spBegin CC CH CD CP CT CR):=by
 refine F.okX scBegin (fun vs H Q Ex h=>?_) (fun cdv A outer s H vs Q Ex hr h=>?_)
 ·obtain ⟨a,lo,pl,x,ts,n,rfl,_⟩:=h
  rfl
 obtain ⟨a,lo,pl,x,ts,n,rfl,R,q⟩:=h
 have A:=R.ph
 obtain ⟨dx,o1⟩:=A.ob
 have hu:=z2n hr
 refine ⟨_,(z03 (z0n (i:=1) scBegin.nd rfl (Or.inl rfl) (z10 (pv 0) rfl)) (z03 (ps_fldaug (pv 0) z08 in_add) (z03 (z0d (z11 (pv 0) T.cl mR GR (hr.mono (by decide)) bR .nil (pass1 fun _ _ z=>z) (z00 z08 z05))) (z03 (z2k hu (z10 (pv 0) rfl) (pv 1) (z17 z05) rfl) (z03 (ps_fldaug (pv 0) z08 in_add) (z04 (z0q (pv 1)))))))),?_⟩
 refine ⟨_,rfl,a.h,CH,dx,_,_,rfl,o1,T.cl,T.nBegins,hf_begins .., ?_⟩
 refine ⟨_,rfl,a.h,CH,dx,_,_,rfl,o1,T.cl,T.nBegins,hf_begins .., _,_,rfl,rfl,dx,_,o1,(by show 8<1000; decide),?_⟩
 rw [hf_setBegins]
 have A1:=A.began (dx:=dx) (b:=(x.begun:Int)+1) rfl
 have m1:z1b a lo pl lo pl H (upd H a.h (.ins CH dx (hf a.c a.de a.st a.pu a.tk x.room ((x.begun:Int)+1) x.bound))):=(z1b.refl ..).upd (his_h ..)
 generalize upd H a.h (.ins CH dx (hf a.c a.de a.st a.pu a.tk x.room ((x.begun:Int)+1) x.bound))=H1 at A1 m1 ⊢
 obtain ⟨dx1,o11⟩:=A1.ob
 have hfit:x.began.fits (x.began.desk.length+1):=R.fits (k:=x.desk.length+1) (by have:=R.dk; omega)
 refine ⟨_,rfl,a.h,dx1,_,rfl,o11,(by kernel_rfl),a,lo,pl,x.began,ts,1,rfl,A1,by decide,R.dk,hfit,R.plz,fun lo2 H2 A2 m2=>?_⟩
 have ea:x.answered .begin=(if (x.began.full 1).2=true then ((x.began.full 1).1,Ans.word "no room") else ((x.began.full 1).1.opened,.num x.begun)):=rfl
 by_cases hfu:(x.began.full ((1:Nat):Int)).2=true
 ·rw [if_pos hfu]
  have hfu':(x.began.full 1).2=true:=hfu
  rw [if_pos hfu'] at ea
  have q2:=q lo2 pl ts H2 (by rw [ea]; exact A2) (Nat.le_succ _) (m1.trans m2)
  rw [ea] at q2
  exact out_room.mp q2
 rw [if_neg hfu]
 have hfu':¬(x.began.full 1).2=true:=hfu
 rw [if_neg hfu'] at ea
 have ebg:(x.began.full ((1:Nat):Int)).1.begun=x.begun+1:=z1x
 have epu:(x.began.full ((1:Nat):Int)).1.puts=x.puts:=z28
 refine ⟨le5,fun nl hn=>?_⟩
 have s3:=z09 hn (.lst [])
 have A3:=A2.same s3
 obtain ⟨dx3,o13⟩:=A3.ob
 have zl:=R.plz
 refine ⟨_,rfl,a.h,CH,dx3,_,_,rfl,o13,T.cl,T.nPuts,hf_puts .., _,rfl,a.pu,_,rfl,DPut.k (k:=Sum.inl ((x.begun:Nat):Int)) A3.hp (z2p (by unfold pk; rw [List.length_map]; omega)),?_⟩
 have o14:(upd (upd H2 nl (.lst [])) a.pu (.dK (putK (pk pl) (Sum.inl ((x.begun:Nat):Int)) (.ref nl)))) a.h=(upd H2 nl (.lst [])) a.h:=z01 A2.hn.2.2.1.symm
 rw [o13] at o14
 refine ⟨_,rfl,a.h,CH,dx3,_,_,rfl,o14,T.cl,T.nBound,hf_bound .., _,_,rfl,rfl,dx3,_,o14,(by show 8<1000; decide),_,rfl,?_⟩
 rw [hf_setBound]
 have hop:(x.began.full ((1:Nat):Int)).1.isOpen ((x.begun:Nat):Int)=false:=by
  unfold Hs.isOpen
  rw [epu]
  cases e:x.puts.any (fun z=>z.1 == ((x.begun:Nat):Int)) with
  | false=>rfl
  | true =>
   obtain ⟨z,hz,he⟩:=List.any_eq_true.mp e
   have h1:=(R.gd.pz z hz).2.1
   have h2:=beq_iff_eq.mp he
   omega
 have A4:=A2.opened (n:=nl) (dx:=dx3) (d:=((x.begun:Nat):Int)) (b:=(x.began.full ((1:Nat):Int)).1.bound+1) hn hop rfl (by rw [ebg]; omega) fun k e he z=>by
  obtain ⟨p,d',e1,e2,e3,e4,e5⟩:=A.tf.b k _ he
  injection e2 with e2
  omega
 have m4:z1b a lo2 pl lo2 (pl++[(((x.begun:Nat):Int),nl)]) H2 (upd (upd (upd H2 nl (.lst [])) a.pu (.dK (putK (pk pl) (Sum.inl ((x.begun:Nat):Int)) (.ref nl)))) a.h (.ins CH dx3 (hf a.c a.de a.st a.pu a.tk (x.began.full ((1:Nat):Int)).1.room (x.began.full ((1:Nat):Int)).1.begun ((x.began.full ((1:Nat):Int)).1.bound+1)))):=by
  refine z1b.upd (z1b.upd ⟨fun b o hb e=>s3 b o e,fun b hb=>?_⟩ (his_pu ..)) (his_h ..)
  rcases List.mem_cons.mp hb with z | hb
  ·rw [z]; exact .inl (his_lo ..)
  ·rcases List.mem_cons.mp hb with z | hb
   ·rw [z]; exact .inl (his_c ..)
   ·rcases List.mem_cons.mp hb with z | hb
    ·rw [z]; exact .inl (his_tk ..)
    ·rcases z37.mp hb with z | z | z | z | z | ⟨z,hz,e⟩
     ·rw [z]; exact .inl (his_h ..)
     ·rw [z]; exact .inl (his_ce ..)
     ·rw [z]; exact .inl (his_de ..)
     ·rw [z]; exact .inl (his_pu ..)
     ·rw [z]; exact .inl (his_st ..)
     ·rcases List.mem_append.mp hz with y | y
      ·rw [← e]; exact .inl (his_pl y ..)
      ·rw [List.mem_singleton.mp y] at e
       rw [← e]; exact .inr hn
 have q2:=q lo2 _ ts _ (by rw [ea]; exact A4) (Nat.le_succ _) ((m1.trans m2).trans m4)
 rw [ea] at q2
 exact q2
theorem scLook:z0h ["self","page"] ["self","page"] (z06 sLook):=⟨rfl,rfl,rfl,by decide +kernel,rfl,by decide +kernel,by decide +kernel⟩
theorem ok_look {CC CH CD CP CT CR:Addr} {gP:Addr} {dP:FuncData} (F:Fun K "look" "House.look" sLook f fd) (T:z13 K mg CH) (GP:FnOk P w K mg base (CX1 P w) 1 gP dP ["self","page"] (spAskP CC CH CP)) (bP:z0r K dP ["self","page"] []) (mP:Meth K CH "ask_page" gP):FnOk P w K mg base (CX1 P w) 2 f fd ["self","page"] (spLook CC CH CD CP CT CR):=by
 refine F.okX scLook (fun vs H Q Ex h=>?_) (fun cdv A outer s H vs Q Ex hr h=>?_)
 ·obtain ⟨a,lo,pl,x,ts,n,p,rfl,_⟩:=h
  rfl
 obtain ⟨a,lo,pl,x,ts,n,p,rfl,R,hsm,q⟩:=h
 have A:=R.ph
 obtain ⟨dx,o1⟩:=A.ob
 refine ⟨_,(z03 (z0d (z11 (pv 0) T.cl mP GP (hr.mono (by decide)) bP .nil (pass1 fun _ _ z=>z) (z00 (pv 1) z05))) (z04 (z0q (z0j z0w (z10 (pv 0) rfl) (pv 1) (fun _ _=>rfl))))),?_⟩
 refine ⟨_,rfl,a.h,dx,_,rfl,o1,(by kernel_rfl),_,rfl,a,lo,pl,x,ts,p,rfl,A,hsm,?_⟩
 by_cases c:p<0∨(x.desk.length:Int)≤p
 ·rw [if_pos c]
  have ea:x.answered (.look p)=(x,.word "no page"):=by
   exact z1y (if_pos c)
  have q2:=q lo pl ts H (by rw [ea]; exact A) (Nat.le_succ _) (z1b.refl ..)
  rw [ea] at q2
  exact out_page.mp q2
 ·rw [if_neg c]
  have hp:p.toNat<x.desk.length:=by omega
  have ep:p=((p.toNat:Nat):Int):=by omega
  obtain ⟨z2,y2,w2⟩:=A.va.atD hp
  rw [← ep] at w2
  have ea:x.answered (.look p)=(x,.num (x.desk.getD p.toNat 0)):=by
   exact z1u (e:=.look p) (if_neg c)
  have ez:x.desk.getD p.toNat 0=z2:=by rw [List.getD_eq_getElem?_getD,y2]; rfl
  have q2:=q lo pl ts H (by rw [ea]; exact A) (Nat.le_succ _) (z1b.refl ..)
  rw [ea,ez] at q2
  exact ⟨_,rfl,a.h,CH,dx,_,_,rfl,o1,T.cl,T.nDesk,z2x .., _,rfl,a.de,_,_,_,rfl,rfl,SqL.of A.hd,w2,q2⟩
theorem scEnd:z0h ["self","dealing"] ["self","dealing"] (z06 sEnd):=⟨rfl,rfl,rfl,by decide +kernel,rfl,by decide +kernel,by decide +kernel⟩
set_option maxHeartbeats 4000000 in
theorem ok_end {CC CH CD CP CT CR:Addr} {gD:Addr} {dD:FuncData} {gS:Addr} {dS:FuncData} (F:Fun K "end" "House.end" sEnd f fd) (B:Blt mg) (T:z13 K mg CH) (GD:FnOk P w K mg base (CX1 P w) 1 gD dD ["self","dealing"] (spAskD CC CH CD)) (bD:z0r K dD ["self","dealing"] []) (mD:Meth K CH "ask_dealing" gD)
  (GS:FnOk P w K mg base CX0 2 gS dS ["self","stroke"] (spMS CC CH)) (bS:z0r K dS ["self","stroke"] []) (mS:Meth K CH "make_stroke" gS):FnOk P w K mg base (CX1 P w) 3 f fd ["self","dealing"] (spEnd CC CH CD CP CT CR):=by
 refine F.okX scEnd (fun vs H Q Ex h=>?_) (fun cdv A outer s H vs Q Ex hr h=>?_)
 ·obtain ⟨a,lo,pl,x,ts,n,d,rfl,_⟩:=h
  rfl
 obtain ⟨a,lo,pl,x,ts,n,d,rfl,A,hfit,hsm,q⟩:=h
 obtain ⟨dx,o1⟩:=A.ob
 refine ⟨_,(z03 (z0d (z11 (pv 0) T.cl mD GD (hr.mono (by decide)) bD .nil (pass1 fun _ _ z=>z) (z00 (pv 1) z05))) (z03 (z0d (z11 (pv 0) T.cl mS GS (hr.mono (by decide)) bS .nil z0z (z00 (z1p (z00 z0a (z00 (z1p (z00 z0a (z00 (pv 1) z05))) z05))) z05))) (z04 (ps_fldaug (pv 0) (z0v z20 (z0p z0k rfl B.len PySem.boot_len (z00 (pe_dpop1 (z10 (pv 0) rfl) (pv 1) ⟨rfl,rfl,rfl,rfl⟩) z05)) z08) in_sub)))),?_⟩
 refine ⟨_,rfl,a.h,dx,_,rfl,o1,(by kernel_rfl),_,rfl,a,lo,pl,x,ts,d,rfl,A,hsm,?_⟩
 cases ho:x.isOpen d with
 | false =>
  rw [ho,if_pos rfl] at q
  rw [if_pos rfl]
  exact q
 | true =>
  rw [ho,if_neg (fun z=>nomatch z)] at q
  rw [if_neg (fun z=>nomatch z)]
  refine ⟨_,rfl,a.h,dx,_,rfl,o1,(by kernel_rfl),_,rfl,le5,fun t1 h1=>⟨le5,fun t2 h2=>?_⟩⟩
  have s1:=z09 h1 (.tup [.str "end",.int d])
  have s2:=z09 h2 (.tup [.str "line",.ref t1])
  have A2:=A.same (s1.trans s2)
  have hv:Rep (upd (upd H t1 (.tup [.str "end",.int d])) t2 (.tup [.str "line",.ref t1])) (SM.line (.fin d)).D (.ref t2) :=
   Rep.ofTup z02 (.cons .ofStr (.cons (Rep.ofTup (s2 _ _ z02) (.cons .ofStr (.cons .ofInt .nil))) .nil))
  refine ⟨a,lo,pl,x,ts,_,.line (.fin d),rfl,A2,hv,trivial,hfit,fun lo3 H3 A3 m3=>?_⟩
  obtain ⟨dx3,o3⟩:=A3.ob
  have ho3:(x.stroke (.line (.fin d))).isOpen d=true:=ho
  obtain ⟨i,al,ys,i1,i2,i3,i4,i5⟩:=A3.va.open_at ho3
  have hm:=List.mem_of_getElem? i1
  have i3':H3 al=some (.lst ys):=by rw [z1o (A3.hn.2.2.2.2.2 _ hm) (A3.cn.2.2.2.2.2 _ hm)] at i3; exact i3
  have ly:ys.length=((x.stroke (.line (.fin d))).putsOf d).length:=by rw [Reps.length i4,List.length_map]
  have hv3:valV (pk pl) (Sum.inl d)=some (.ref al):=by
   have:=z1z (l:=pl) (by rw [A3.va.pe]; exact A3.va.pn) i1
   rw [valV_pk]
   rw [this]
   rfl
  have nal:al≠a.pu:=z0x i3' A3.hp (fun z=>nomatch z)
  have o4:(upd H3 a.pu (.dK (dropK (pk pl) (Sum.inl d)))) a.h=H3 a.h:=z01 A3.hn.2.2.1.symm
  rw [o3] at o4
  refine ⟨_,rfl,a.h,CH,dx3,_,_,rfl,o3,T.cl,T.nBound,hf_bound .., _,rfl,a.h,CH,dx3,_,_,rfl,o3,T.cl,T.nPuts,hf_puts .., a.pu,rfl,.inl ⟨_,.inl A3.hp⟩,_,rfl,_,Sum.inl d,_,A3.hp,rfl,hv3,al,ys,rfl,.inl (SqL.of (by rw [z01 nal]; exact i3')),_,_,rfl,rfl,_,_,rfl,rfl,dx3,_,o4,(by show 8<1000; decide),?_⟩
  rw [hf_setBound]
  have A4:=A3.ended (dx:=dx3) (d:=d) (b:=(x.stroke (.line (.fin d))).bound - (((ys.length:Nat):Int)+1)) (by rw [bound_end A3.va.pn ho3,ly])
  refine q lo3 _ A4 (((s1.trans s2).moves.trans m3).trans (z1b.upd (z1b.upd ⟨fun b o _ e=>e,fun b hb=>?_⟩ (his_pu ..)) (his_h ..)))
  rcases List.mem_cons.mp hb with z | hb
  ·rw [z]; exact .inl (his_lo ..)
  ·rcases List.mem_cons.mp hb with z | hb
   ·rw [z]; exact .inl (his_c ..)
   ·rcases List.mem_cons.mp hb with z | hb
    ·rw [z]; exact .inl (his_tk ..)
    ·rcases z37.mp hb with z | z | z | z | z | ⟨z,hz,e⟩
     ·rw [z]; exact .inl (his_h ..)
     ·rw [z]; exact .inl (his_ce ..)
     ·rw [z]; exact .inl (his_de ..)
     ·rw [z]; exact .inl (his_pu ..)
     ·rw [z]; exact .inl (his_st ..)
     ·rw [← e]; exact .inl (his_pl (List.mem_filter.mp hz).1 ..)
end
end K10
set_option Elab.async false
set_option linter.all false
set_option maxRecDepth 100000
namespace K10
open PySem L2
section
variable {P:Program} {w:World} {K:PySem.W.Frag} {mg:Str→Option Value} {base:Heap} {f:Addr} {fd:FuncData}
theorem scPut:z0h ["self","dealing","page","number"] ["self","dealing","page","number"] (z06 sPut):=⟨rfl,rfl,rfl,by decide +kernel,rfl,by decide +kernel,by decide +kernel⟩
set_option maxHeartbeats 8000000 in
theorem ok_put {CC CH CD CP CT CR:Addr} {gD:Addr} {dD:FuncData} {gP:Addr} {dP:FuncData} {gF:Addr} {dF:FuncData} {gR:Addr} {dR:FuncData} {gW:Addr} {dW:FuncData} (F:Fun K "put" "House.put" sPut f fd) (T:z13 K mg CH) (GD:FnOk P w K mg base (CX1 P w) 1 gD dD ["self","dealing"] (spAskD CC CH CD)) (bD:z0r K dD ["self","dealing"] []) (mD:Meth K CH "ask_dealing" gD)
  (GP:FnOk P w K mg base (CX1 P w) 1 gP dP ["self","page"] (spAskP CC CH CP)) (bP:z0r K dP ["self","page"] []) (mP:Meth K CH "ask_page" gP)
  (GF:FnOk P w K mg base (CX1 P w) 1 gF dF ["self","dealing","page"] (spAskF CC CH CT)) (bF:z0r K dF ["self","dealing","page"] []) (mF:Meth K CH "ask_free" gF)
  (GR:FnOk P w K mg base (CX1 P w) 5 gR dR ["self","more"] (spAskR CC CH CR)) (bR:z0r K dR ["self","more"] []) (mR:Meth K CH "ask_room" gR)
  (GW:FnOk P w K mg base CX0 3 gW dW ["self","dealing","page","number"] (spWP CC CH)) (bW:z0r K dW ["self","dealing","page","number"] []) (mW:Meth K CH "write_put" gW):FnOk P w K mg base (CX1 P w) 6 f fd ["self","dealing","page","number"] (spPut CC CH CD CP CT CR):=by
 refine F.okX scPut (fun vs H Q Ex h=>?_) (fun cdv A outer s H vs Q Ex hr h=>?_)
 ·obtain ⟨a,lo,pl,x,ts,n,d,p,k,rfl,_⟩:=h
  rfl
 obtain ⟨a,lo,pl,x,ts,n,d,p,k,rfl,R,sd,sp,q⟩:=h
 have A:=R.ph
 obtain ⟨dx,o1⟩:=A.ob
 have hu:=z2n hr
 have er:x.refusal (.put d p k)=(if x.isOpen d=false then some ("no dealing":Str) else if p<0∨(x.desk.length:Int)≤p then some ("no page":Str) else if x.taker p.toNat=none∨x.taker p.toNat=some d then none else some ("taken":Str)):=rfl
 have stay:∀ w:Str,x.refusal (.put d p k)=some w→outP CD CP CT CR .non Q Ex H (.word w):=fun w h=>by
  have ea:=z1y h
  have q2:=q lo pl ts H (by rw [ea]; exact A) (Nat.le_succ _) (z1b.refl ..)
  rw [ea] at q2
  exact q2
 refine ⟨_,(z03 (z0d (z11 (pv 0) T.cl mD GD (hr.mono (by decide)) bD .nil (pass1 fun _ _ z=>z) (z00 (pv 1) z05))) (z03 (z0d (z11 (pv 0) T.cl mP GP (hr.mono (by decide)) bP .nil (pass1 fun _ _ z=>z) (z00 (pv 2) z05))) (z03 (z0d (z11 (pv 0) T.cl mF GF (hr.mono (by decide)) bF .nil (pass1 fun _ _ z=>z) (z00 (pv 1) (z00 (pv 2) z05)))) (z03 (z0d (z11 (pv 0) T.cl mR GR (hr.mono (by decide)) bR .nil (pass1 fun _ _ z=>z) (z00 z08 z05))) (z03 (z0d (pe_bm PySem.F.plainAttrs_list PySem.F.slot_list_append PySem.F.type_list_append z12 (z0o hu (z10 (pv 0) rfl) (pv 1) (fun _ _=>rfl)) (z00 (z1p (z00 (pv 2) (z00 (z0j z0w (z10 (pv 0) rfl) (pv 2) (fun _ _=>rfl)) z05))) z05))) (z03 (z2k hu (z10 (pv 0) rfl) (pv 2) (pv 1) rfl) (z03 (ps_fldaug (pv 0) z08 in_add) (z04 (z0d (z11 (pv 0) T.cl mW GW (hr.mono (by decide)) bW .nil z0z (z00 (pv 1) (z00 (pv 2) (z00 (pv 3) z05))))))))))))),?_⟩
 refine ⟨_,rfl,a.h,dx,_,rfl,o1,(by kernel_rfl),_,rfl,a,lo,pl,x,ts,d,rfl,A,sd,?_⟩
 cases ho:x.isOpen d with
 | false =>
  rw [if_pos rfl]
  rw [ho,if_pos rfl] at er
  exact z31.mp (stay _ er)
 | true =>
 rw [if_neg (fun z=>nomatch z)]
 rw [ho,if_neg (fun z=>nomatch z)] at er
 refine ⟨_,rfl,a.h,dx,_,rfl,o1,(by kernel_rfl),_,rfl,a,lo,pl,x,ts,p,rfl,A,sp,?_⟩
 by_cases c:p<0∨(x.desk.length:Int)≤p
 ·rw [if_pos c]
  rw [if_pos c] at er
  exact out_page.mp (stay _ er)
 rw [if_neg c]
 rw [if_neg c] at er
 obtain ⟨pn,rfl⟩:∃ pn:Nat,p=(pn:Int):=⟨p.toNat,by omega⟩
 rw [Int.toNat_natCast] at er
 have hp:pn<x.desk.length:=by omega
 refine ⟨_,rfl,a.h,dx,_,rfl,o1,(by kernel_rfl),_,rfl,_,rfl,a,lo,pl,x,ts,d,pn,rfl,A,by have:=R.bg; omega,by have:=R.dk; omega,?_⟩
 by_cases ct:x.taker pn=none∨x.taker pn=some d
 case neg =>
  rw [if_neg ct]
  rw [if_neg ct] at er
  exact out_taken.mp (stay _ er)
 rw [if_pos ct]
 rw [if_pos ct] at er
 have ea:x.answered (.put d pn k)=(if (x.full 2).2=true then ((x.full 2).1,Ans.word "no room") else (((x.full 2).1.took d pn).putIn d pn k,.word "done")):=by
  rw [z1u er]
  show (if (x.full 2).2=true then ((x.full 2).1,Ans.word "no room") else (((x.full 2).1.took d (pn:Int).toNat).putIn d (pn:Int).toNat k,.word "done"))=_
  rw [Int.toNat_natCast]
 have hfit:x.fits (x.desk.length+1):=R.fits (by have:=R.dk; omega)
 refine ⟨_,rfl,a.h,dx,_,rfl,o1,(by kernel_rfl),a,lo,pl,x,ts,2,rfl,A,by decide,R.dk,hfit,R.plz,fun lo2 H2 A2 m2=>?_⟩
 by_cases hfu:(x.full ((2:Nat):Int)).2=true
 ·rw [if_pos hfu]
  have hfu':(x.full 2).2=true:=hfu
  rw [if_pos hfu'] at ea
  have q2:=q lo2 pl ts H2 (by rw [ea]; exact A2) (Nat.le_succ _) m2
  rw [ea] at q2
  exact out_room.mp q2
 rw [if_neg hfu]
 have hfu':¬(x.full 2).2=true:=hfu
 rw [if_neg hfu'] at ea
 have ebg:(x.full ((2:Nat):Int)).1.begun=x.begun:=z1x
 have epu:(x.full ((2:Nat):Int)).1.puts=x.puts:=z28
 have edk:(x.full ((2:Nat):Int)).1.desk=x.desk:=full_desk
 have hfy:(x.full ((2:Nat):Int)).1.fits 1:=Hs.fits.full (R.fits (by have:=R.dk; omega))
 have ea':x.answered (.put d pn k)=(((x.full ((2:Nat):Int)).1.took d pn).putIn d pn k,.word "done"):=ea
 generalize (x.full ((2:Nat):Int)).1=y at A2 ea' ebg epu edk hfy
 have hoy:y.isOpen d=true:=by unfold Hs.isOpen; rw [epu]; exact ho
 obtain ⟨i,al,ys,i1,i2,i3,i4,i5⟩:=A2.va.open_at hoy
 have hm:=List.mem_of_getElem? i1
 have i3':H2 al=some (.lst ys):=by rw [z1o (A2.hn.2.2.2.2.2 _ hm) (A2.cn.2.2.2.2.2 _ hm)] at i3; exact i3
 have ly:ys.length=(y.putsOf d).length:=by rw [Reps.length i4,List.length_map]
 have hv2:valV (pk pl) (Sum.inl d)=some (.ref al):=by
  have:=z1z (l:=pl) (by rw [A2.va.pe]; exact A2.va.pn) i1
  rw [valV_pk]
  rw [this]
  rfl
 have hpz:=R.gd.pz (d,x.putsOf d) (z24 ho)
 have epo:y.putsOf d=x.putsOf d:=by unfold Hs.putsOf; rw [epu]
 obtain ⟨dx2,o12⟩:=A2.ob
 have hpy:pn<y.desk.length:=by rw [edk]; exact hp
 obtain ⟨z,z1,z2⟩:=A2.va.atD hpy
 have ez:y.desk.getD pn 0=z:=by rw [List.getD_eq_getElem?_getD,z1]; rfl
 have hn1:=R.n1
 have hget:DGet H2 a.pu (.int d) (some (.ref al)):=by
  have h0:=DGet.k (k:=Sum.inl d) A2.hp
  rw [hv2] at h0
  exact h0
 refine ⟨_,rfl,a.h,CH,dx2,_,_,rfl,o12,T.cl,T.nPuts,hf_puts .., _,rfl,a.pu,_,rfl,hget,.inl ⟨rfl,_,SqL.of i3'⟩,_,rfl,_,rfl,a.h,CH,dx2,_,_,rfl,o12,T.cl,T.nDesk,z2x .., _,rfl,a.de,_,_,_,rfl,rfl,SqL.of A2.hd,z2,le5,fun t ht=>?_⟩
 have s3:=z09 ht (.tup [.int ((pn:Nat):Int),.int z])
 have A3:=A2.same s3
 have hv3:Rep (upd H2 t (.tup [.int ((pn:Nat):Int),.int z])) (pairD (pn,y.desk.getD pn 0)) (.ref t):=by
  rw [ez]
  exact Rep.ofTup z02 (.cons .ofInt (.cons .ofInt .nil))
 have i33:=s3 _ _ i3'
 have o13:=s3 _ _ o12
 have k13:=s3 _ _ A2.kt
 have m3:z1b a lo pl lo2 pl H (upd H2 t (.tup [.int ((pn:Nat):Int),.int z])):=m2.trans s3.moves
 generalize upd H2 t (.tup [.int ((pn:Nat):Int),.int z])=H3 at s3 A3 hv3 i33 o13 k13 m3 ⊢
 refine ⟨al,ys,.ref t,rfl,rfl,i33,z2p (by have:=hpz.2.2.1; rw [← epo,← ly] at this; omega),?_⟩
 have nah:a.h≠al:=(A3.hn.2.2.2.2.2 _ hm).symm
 have nak:a.tk≠al:=A3.tkn.2.2.2.2.2.2 _ hm
 have o14:(upd H3 al (.lst (ys++[.ref t]))) a.h=H3 a.h:=z01 nah
 rw [o13] at o14
 have k14:(upd H3 al (.lst (ys++[.ref t]))) a.tk=H3 a.tk:=z01 nak
 rw [k13] at k14
 have htl:=R.tl
 refine ⟨_,rfl,_,rfl,a.h,CH,dx2,_,_,rfl,o14,T.cl,T.nTakers,hf_takers .., _,rfl,a.tk,_,rfl,DPut.k (k:=Sum.inl ((pn:Nat):Int)) k14 (z2p (by omega)),?_⟩
 have o15:(upd (upd H3 al (.lst (ys++[.ref t]))) a.tk (.dK (putK ts (Sum.inl ((pn:Nat):Int)) (.int d)))) a.h=(upd H3 al (.lst (ys++[.ref t]))) a.h:=z01 A3.tkn.1.symm
 rw [o14] at o15
 refine ⟨_,rfl,a.h,CH,dx2,_,_,rfl,o15,T.cl,T.nBound,hf_bound .., _,_,rfl,rfl,dx2,_,o15,(by show 8<1000; decide),?_⟩
 rw [hf_setBound]
 have hfree:∀ z∈y.puts,(∃ w∈z.2,w.1=pn)→z.1=d:=fun z hz ⟨w,hw,hwp⟩=>by
  have hx:=A2.tf.a z hz w hw
  rw [hwp] at hx
  obtain ⟨d',e1,_,_,e4,_⟩:=(taker_of (p:=pn) A2.tf).1 _ hx
  injection e1 with e1
  have hoz:y.isOpen d'=true:=List.any_eq_true.mpr ⟨z,hz,by rw [e1]; exact beq_self_eq_true d'⟩
  have et:=e4 hoz
  have et':x.taker pn=some d':=by unfold Hs.taker at et ⊢; rw [epu] at et; exact et
  rw [et'] at ct
  rcases ct with w | w
  ·cases w
  ·rw [e1]; exact Option.some.inj w
 have A5:=A3.took (dx:=dx2) (p:=pn) (b:=y.bound+1) i1 i33 hv3 (bound_took A3.va.pn hoy).symm hpz.1 (by rw [ebg]; exact hpz.2.1) hfree
 have m5:z1b a lo pl lo2 pl H (upd (upd (upd H3 al (.lst (ys++[.ref t]))) a.tk (.dK (putK ts (Sum.inl ((pn:Nat):Int)) (.int d)))) a.h (.ins CH dx2 (hf a.c a.de a.st a.pu a.tk y.room y.begun (y.bound+1)))) :=
  ((m3.upd (his_pl hm ..)).upd (his_tk ..)).upd (his_h ..)
 generalize upd (upd (upd H3 al (.lst (ys++[.ref t]))) a.tk (.dK (putK ts (Sum.inl ((pn:Nat):Int)) (.int d)))) a.h (.ins CH dx2 (hf a.c a.de a.st a.pu a.tk y.room y.begun (y.bound+1)))=H5 at A5 m5 ⊢
 obtain ⟨dx5,o5⟩:=A5.ob
 refine ⟨_,rfl,a.h,dx5,_,rfl,o5,(by kernel_rfl),_,rfl,_,rfl,_,rfl,a,lo2,pl,y.took d pn,_,d,pn,k,rfl,A5,hpy,hfy,fun lo6 H6 A6 m6=>?_⟩
 have q2:=q lo6 pl _ H6 (by rw [ea']; exact A6) (z1k ..) (m5.trans m6)
 rw [ea'] at q2
 exact out_done.mp q2
theorem scDrop:z0h ["self","dealing","page","old"] ["self","dealing"] (z06 sDrop):=⟨rfl,rfl,rfl,by decide +kernel,rfl,by decide +kernel,by decide +kernel⟩
set_option maxHeartbeats 8000000 in
theorem ok_drop {CC CH CD CP CT CR:Addr} {gD:Addr} {dD:FuncData} {gW:Addr} {dW:FuncData} {gN:Addr} {dN:FuncData} (F:Fun K "drop" "House.drop" sDrop f fd) (B:Blt mg) (hrev:mg "reversed"=none) (T:z13 K mg CH) (GD:FnOk P w K mg base (CX1 P w) 1 gD dD ["self","dealing"] (spAskD CC CH CD)) (bD:z0r K dD ["self","dealing"] []) (mD:Meth K CH "ask_dealing" gD)
  (GW:FnOk P w K mg base CX0 3 gW dW ["self","dealing","page","number"] (spWP CC CH)) (bW:z0r K dW ["self","dealing","page","number"] []) (mW:Meth K CH "write_put" gW)
  (GN:FnOk P w K mg base (CX1 P w) 3 gN dN ["self","dealing"] (spEnd CC CH CD CP CT CR)) (bN:z0r K dN ["self","dealing"] []) (mN:Meth K CH "end" gN):FnOk P w K mg base (CX1 P w) 4 f fd ["self","dealing"] (spDrop CC CH CD CP CT CR):=by
 refine F.okX scDrop (fun vs H Q Ex h=>?_) (fun cdv A outer s H vs Q Ex hr h=>?_)
 ·obtain ⟨a,lo,pl,x,ts,n,d,rfl,_⟩:=h
  rfl
 obtain ⟨a,lo,pl,x,ts,n,d,rfl,R,sd,q⟩:=h
 have A:=R.ph
 obtain ⟨dx,o1⟩:=A.ob
 have hu:=z2n hr
 have er:x.refusal (.drop d)=(if x.isOpen d=false then some ("no dealing":Str) else none):=rfl
 refine ⟨_,(z03 (z0d (z11 (pv 0) T.cl mD GD (hr.mono (by decide)) bD .nil (pass1 fun _ _ z=>z) (z00 (pv 1) z05))) (z03 (z2v PassesOwn.leaving rfl (pi_rev rfl hrev (z0o hu (z10 (pv 0) rfl) (pv 1) (fun _ _=>rfl))) (pg_tup rfl (z2o (z1e (i:=2) scDrop.nd rfl (Or.inl rfl)) (z2o (z1e (i:=3) scDrop.nd rfl (Or.inl rfl)) pgs_nil))) (z04 (z0d (z11 (pv 0) T.cl mW GW (hr.mono (by decide)) bW .nil z0z (z00 (pv 1) (z00 (pv 2) (z00 (pv 3) z05))))))) (z04 (z0d (z11 (pv 0) T.cl mN GN (hr.mono (by decide)) bN .nil (pass1 fun _ _ z=>z) (z00 (pv 1) z05)))))),?_⟩
 refine ⟨_,rfl,a.h,dx,_,rfl,o1,(by kernel_rfl),_,rfl,a,lo,pl,x,ts,d,rfl,A,sd,?_⟩
 cases ho:x.isOpen d with
 | false =>
  rw [if_pos rfl]
  rw [ho,if_pos rfl] at er
  have ea:=z1y er
  have q2:=q lo pl ts H (by rw [ea]; exact A) (Nat.le_succ _) (z1b.refl ..)
  rw [ea] at q2
  exact z31.mp q2
 | true =>
 rw [if_neg (fun z=>nomatch z)]
 rw [ho,if_neg (fun z=>nomatch z)] at er
 have ea:=z1u er
 obtain ⟨i,al,ys,i1,i2,i3,i4,i5⟩:=A.va.open_at ho
 have hm:=List.mem_of_getElem? i1
 have i3':H al=some (.lst ys):=by rw [z1o (A.hn.2.2.2.2.2 _ hm) (A.cn.2.2.2.2.2 _ hm)] at i3; exact i3
 have ly:ys.length=(x.putsOf d).length:=by rw [Reps.length i4,List.length_map]
 have hv2:valV (pk pl) (Sum.inl d)=some (.ref al):=by
  have:=z1z (l:=pl) (by rw [A.va.pe]; exact A.va.pn) i1
  rw [valV_pk]
  rw [this]
  rfl
 have hpz:=R.gd.pz (d,x.putsOf d) (z24 ho)
 have hn1:=R.n1
 have lpo:(x.putsOf d).length≤110:=Nat.le_trans hpz.2.2.1 hn1
 have listAt:∀ {H2:Hp} {lo2:Addr} {y:Hs},PH CC CH H2 a lo2 pl y ts→y.puts=x.puts→∃ us,H2 al=some (.lst us)∧Reps H2 ((x.putsOf d).map pairD) us:=fun {H2 lo2 y} A2 ep=>by
  obtain ⟨w,us,w1,w2,w3,w4,_⟩:=A2.va.at_ i1
  rw [ep,i2] at w1
  cases w1
  rw [z1o (A2.hn.2.2.2.2.2 _ hm) (A2.cn.2.2.2.2.2 _ hm)] at w3
  exact ⟨us,w3,Reps.keep A2.keepV _ _ (z0e z0t _) w4⟩
 have hget:DGet H a.pu (.int d) (some (.ref al)):=by
  have h0:=DGet.k (k:=Sum.inl d) A.hp
  rw [hv2] at h0
  exact h0
 refine ⟨_,rfl,a.h,CH,dx,_,_,rfl,o1,T.cl,T.nPuts,hf_puts .., _,rfl,a.pu,_,rfl,hget,al,ys,rfl,SqL.of i3',for_revA (K:=K) (a:=al) (N:=ys.length) (fun i σ H2=>∃ (lo1:Addr) (o2 o3:Option V),σ=[some (.ref a.h),some (.int d),o2,o3]∧PH CC CH H2 a lo1 pl (x.undone d ((x.putsOf d).reverse.take i)) ts∧z1b a lo pl lo1 pl H H2)
  ⟨lo,none,none,rfl,A,z1b.refl ..⟩ (fun i σ H2 _ ⟨lo1,_,_,_,A2,_⟩=>?_) ?_ ?_⟩
 ·obtain ⟨us,u1,u2⟩:=listAt A2 z23
  exact ⟨us,by rw [Reps.length u2,List.length_map,ly],SqL.of u1⟩
 ·rintro i v σ H2 hi hus ⟨lo1,o2,o3,rfl,A2,m2⟩
  obtain ⟨us,u1,u2⟩:=listAt A2 z23
  obtain ⟨z,hz,rz⟩:=reps_get u2 (hus us (SqL.of u1))
  obtain ⟨c,y1,y2,rfl,hc,r1,r2⟩:=z0y rz
  cases r1.int_inv
  cases r2.int_inv
  have hzm:=List.mem_of_getElem? hz
  have hzp:z.1<(x.undone d ((x.putsOf d).reverse.take i)).desk.length:=by rw [z30]; exact hpz.2.2.2 z hzm
  have hfz:(x.undone d ((x.putsOf d).reverse.take i)).fits 1:=Hs.fits.undone (R.fits (by rw [List.length_take,List.length_reverse]; omega)) fun w hw=>hpz.2.2.2 w (List.mem_reverse.mp (List.mem_of_mem_take hw))
  refine ⟨c,_,rfl,SqT.of hc,rfl,_,_,rfl,_,_,rfl,rfl,?_⟩
  obtain ⟨dx2,o12⟩:=A2.ob
  refine ⟨_,rfl,a.h,dx2,_,rfl,o12,(by kernel_rfl),_,rfl,_,rfl,_,rfl,a,lo1,pl,_,ts,d,z.1,z.2,rfl,A2,hzp,hfz,fun lo3 H3 A3 m3=>?_⟩
  have et:(x.putsOf d).reverse.take (i+1)=(x.putsOf d).reverse.take i++[z]:=by
   rw [List.take_add_one,List.getElem?_reverse (by omega),← ly,hz]
   rfl
  refine ⟨lo3,_,_,rfl,?_,m2.trans m3⟩
  rw [et,undone_snoc]
  exact A3
 ·rintro σ H2 ⟨lo1,o2,o3,rfl,A2,m2⟩
  rw [ly,← List.length_reverse,List.take_length] at A2
  have eu:x.undone d (x.putsOf d).reverse=x.undo d:=z25.symm
  rw [eu] at A2
  obtain ⟨dx2,o12⟩:=A2.ob
  have hoy:(x.undo d).isOpen d=true:=by
   unfold Hs.isOpen
   rw [z25,z23]
   exact ho
  have hfu:(x.undo d).fits 1:=by
   rw [z25]
   exact Hs.fits.undone (R.fits (by rw [List.length_reverse]; omega)) fun w hw=>hpz.2.2.2 w (List.mem_reverse.mp hw)
  refine ⟨_,rfl,a.h,dx2,_,rfl,o12,(by kernel_rfl),_,rfl,a,lo1,pl,x.undo d,ts,n,d,rfl,A2,hfu,sd,?_⟩
  rw [hoy,if_neg (fun z=>nomatch z)]
  intro lo3 H3 A3 m3
  have q2:=q lo3 _ ts H3 (by rw [ea]; exact A3) (Nat.le_succ _) (m2.trans m3)
  rw [ea] at q2
  exact out_done.mp q2
end
end K10
set_option Elab.async false
set_option linter.all false
set_option maxRecDepth 100000
namespace K10
open PySem L2
def spHInit (CC CH:Addr):Sp:=fun vs H Q _=>∃ (h dx pg:Addr) (ps:List Int) (room:Int),vs=[.ref h,.ref pg,.int room]∧H h=some (.ins CH dx [])∧H pg=some (.lst (ps.map V.int)) ∧
 ∀ (a:Ad) (lo:Addr) (H':Hp),a.h=h→PH CC CH H' a lo [] (hs0 ps room) []→(∀ b,b∈a.his lo []→b=h∨H b=none)→(∀ b o,H b=some o→b≠h→H' b=some o)→Q .non H'
def smD:Deed→Prop
 | .put d p _=>sm d∧sm p
 | .fin d=>sm d
 | .drop d=>sm d
 | .look p=>sm p
 | .carry p=>sm p
 | _=>True
def spDoDeed (CC CH CD CP CT CR:Addr):Sp:=fun vs H Q E=>∃ (a:Ad) (lo:Addr) (pl:List (Int × Addr)) (x:Hs) (ts:List (Key × V)) (n:Nat) (v:V) (e:Deed),vs=[.ref a.h,v]∧Ready CC CH H a lo pl x ts n∧Rep H e.D v∧smD e∧After CC CH CD CP CT CR (.str "done") a lo pl x ts H Q E e
def spAnswer (CC CH:Addr):Sp:=fun vs H Q _=>∃ (a:Ad) (lo:Addr) (pl:List (Int × Addr)) (x:Hs) (ts:List (Key × V)) (n:Nat) (v:V) (e:Deed),vs=[.ref a.h,v]∧Ready CC CH H a lo pl x ts n∧Rep H e.D v∧smD e ∧
 ∀ lo' pl' ts' H',PH CC CH H' a lo' pl' (x.answered e).1 ts'→ts'.length≤ts.length+1→z1b a lo pl lo' pl' H H'→Q (x.answered e).2.v H'
section
variable {P:Program} {w:World} {K:PySem.W.Frag} {mg:Str→Option Value} {base:Heap} {f:Addr} {fd:FuncData}
theorem hf_made (c de st pu tk:Addr) (room:Int):putF "bound" (.int 0) (putF "takers" (.ref tk) (putF "puts" (.ref pu) (putF "begins" (.int 0) (putF "strokes" (.ref st) (putF "room" (.int room) (putF "desk" (.ref de) (putF "cellar" (.ref c) [])))))))=hf c de st pu tk room 0 0:=by kernel_rfl
theorem scHI:z0h ["self","pages","room"] ["self","pages","room"] (z06 sHInit):=⟨rfl,rfl,rfl,by decide +kernel,rfl,by decide +kernel,by decide +kernel⟩
set_option maxHeartbeats 8000000 in
theorem ok_hinit {CC CH gI:Addr} {dI:FuncData} (F:Fun K "__init__" "House.__init__" sHInit f fd) (B:Blt mg) (T:z13 K mg CH) (TC:z2a K mg CC) (MC:Mk K CC gI) (GI:FnOk P w K mg base CX0 1 gI dI ["self","pages","log"] (spCInit CC)) (bI:z0r K dI ["self","pages","log"] []) :
  FnOk P w K mg base CX0 3 f fd ["self","pages","room"] (spHInit CC CH):=by
 refine F.ok scHI (fun vs H Q E h=>?_) (fun cdv A outer s H vs Q E hr h=>?_)
 ·obtain ⟨h,dx,pg,ps,room,rfl,_⟩:=h
  rfl
 obtain ⟨h,dx,pg,ps,room,rfl,hh,hp,q⟩:=h
 refine ⟨_,(z03 (ps_fld (pv 0) (pe_make MC GI hr rfl TC.mgC bI .nil z0z (z00 (pv 1) (z00 (z17 z05) z05))) rfl) (z03 (ps_fld (pv 0) (z1a z1j rfl B.lst bList (z00 (pv 1) z05)) rfl) (z03 (ps_fld (pv 0) (pv 2) rfl) (z03 (ps_fld (pv 0) (z17 z05) rfl) (z03 (ps_fld (pv 0) z08 rfl) (z03 (ps_fld (pv 0) pe_dnewK rfl) (z03 (ps_fld (pv 0) pe_dnewK rfl) (z04 (ps_fld (pv 0) z08 rfl))))))))),?_⟩
 refine ⟨_,rfl,le5,fun el hel=>?_⟩
 intro c dc nc ndc nec
 have s1:=z09 hel (.lst [])
 have s2:Same (upd H el (.lst [])) (upd (upd (upd H el (.lst [])) dc (.own c)) c (.ins CC dc [])):=fun b o e=>by
  rw [z01 (z07 e nc),z01 (z07 e ndc)]
  exact e
 refine ⟨c,dc,pg,el,ps.map V.int,[],rfl,z02,s2 _ _ (s1 _ _ hp),s2 _ _ z02,fun ce lo H2 nce nlo CA kp=>⟨rfl,?_⟩⟩
 have S2:Same H H2:=fun b o e=>kp b o (s2 b o (s1 b o e)) (z07 (s1 b o e) nc)
 have c0:H c=none:=s1.free nc
 have ce0:H ce=none:=(s1.trans s2).free nce
 have lo0:H lo=none:=(s1.trans s2).free nlo
 obtain ⟨⟨dy,o2⟩,e1,e2,nel⟩:=CA
 have hch:c≠h:=fun z=>by rw [z,hh] at c0; cases c0
 have hceh:ce≠h:=fun z=>by rw [z,hh] at ce0; cases ce0
 have hloh:lo≠h:=fun z=>by rw [z,hh] at lo0; cases lo0
 refine ⟨_,rfl,h,CH,dx,[],rfl,S2 _ _ hh,T.cl,T.nCellar,(by show 0<1000; decide),?_⟩
 have st3:∀ b o,H b=some o→b≠h→(upd H2 h (.ins CH dx (putF "cellar" (.ref c) []))) b=some o:=fun b o e n=>by rw [z01 n]; exact S2 b o e
 have fr3:∀ b,(upd H2 h (.ins CH dx (putF "cellar" (.ref c) []))) b=none→H b=none∧b≠h:=fun b e=>by
  have n:b≠h:=fun z=>by rw [z,z02] at e; cases e
  rw [z01 n] at e
  exact ⟨S2.free e,n⟩
 have h3:(upd H2 h (.ins CH dx (putF "cellar" (.ref c) []))) h=some (.ins CH dx (putF "cellar" (.ref c) [])):=z02
 have o23:(upd H2 h (.ins CH dx (putF "cellar" (.ref c) []))) c=some (.ins CC dy (cflds ce lo)):=by rw [z01 hch]; exact o2
 have e13:(upd H2 h (.ins CH dx (putF "cellar" (.ref c) []))) ce=some (.lst (ps.map V.int)):=by rw [z01 hceh]; exact e1
 have e23:(upd H2 h (.ins CH dx (putF "cellar" (.ref c) []))) lo=some (.lst []):=by rw [z01 hloh]; exact e2
 generalize upd H2 h (.ins CH dx (putF "cellar" (.ref c) []))=H3 at st3 fr3 h3 o23 e13 e23 ⊢
 have hph:pg≠h:=z0x hp hh (fun z=>nomatch z)
 refine ⟨_,rfl,pg,_,rfl,.inl (SqL.of (st3 _ _ hp hph)),fun de hde=>?_⟩
 obtain ⟨de0,ndeh⟩:=fr3 de hde
 have ndec:∀ b o,H3 b=some o→b≠de:=fun b o e=>z07 e hde
 refine ⟨_,rfl,h,CH,dx,_,rfl,(by rw [z01 ndeh.symm]; exact h3),T.cl,T.nDesk,(Nat.le_of_ble_eq_true (by kernel_rfl)),?_⟩
 have mk4:∀ b o,H3 b=some o→b≠h→(upd (upd H3 de (.lst (ps.map V.int))) h (.ins CH dx (putF "desk" (.ref de) (putF "cellar" (.ref c) [])))) b=some o:=fun b o e n=>by rw [z01 n,z01 (ndec b o e)]; exact e
 have fr4:∀ b,(upd (upd H3 de (.lst (ps.map V.int))) h (.ins CH dx (putF "desk" (.ref de) (putF "cellar" (.ref c) [])))) b=none→H3 b=none∧b≠h:=fun b e=>by
  have n:b≠h:=fun z=>by rw [z,z02] at e; cases e
  rw [z01 n] at e
  have n2:b≠de:=fun z=>by rw [z,z02] at e; cases e
  rw [z01 n2] at e
  exact ⟨e,n⟩
 have h4:(upd (upd H3 de (.lst (ps.map V.int))) h (.ins CH dx (putF "desk" (.ref de) (putF "cellar" (.ref c) [])))) h=some (.ins CH dx (putF "desk" (.ref de) (putF "cellar" (.ref c) []))):=z02
 have e34:(upd (upd H3 de (.lst (ps.map V.int))) h (.ins CH dx (putF "desk" (.ref de) (putF "cellar" (.ref c) [])))) de=some (.lst (ps.map V.int)):=by rw [z01 ndeh,z02]
 have o24:=mk4 _ _ o23 hch
 have e14:=mk4 _ _ e13 hceh
 have e24:=mk4 _ _ e23 hloh
 have n1:ce≠de:=ndec _ _ e13
 have n5:lo≠de:=ndec _ _ e23
 have st4:∀ b o,H b=some o→b≠h→_:=fun b o e n=>mk4 b o (st3 b o e n) n
 generalize upd (upd H3 de (.lst (ps.map V.int))) h (.ins CH dx (putF "desk" (.ref de) (putF "cellar" (.ref c) [])))=H4 at mk4 fr4 h4 e34 o24 e14 e24 st4 ⊢
 refine ⟨_,rfl,_,rfl,h,CH,dx,_,rfl,h4,T.cl,T.nRoom,(Nat.le_of_ble_eq_true (by kernel_rfl)),?_⟩
 refine ⟨le5,fun st hst=>?_⟩
 have nsth:st≠h:=fun z=>by rw [z,z02] at hst; cases hst
 rw [z01 nsth] at hst
 obtain ⟨st3n,_⟩:=fr4 st hst
 have st0:=(fr3 st st3n).1
 refine ⟨_,rfl,h,CH,dx,_,rfl,(by rw [z01 nsth.symm]; exact z02),T.cl,T.nStrokes,(Nat.le_of_ble_eq_true (by kernel_rfl)),?_⟩
 refine ⟨_,rfl,h,CH,dx,_,rfl,z02,T.cl,T.nBegins,(Nat.le_of_ble_eq_true (by kernel_rfl)),?_⟩
 intro pu hpu
 have npuh:pu≠h:=fun z=>by rw [z,z02] at hpu; cases hpu
 rw [z01 npuh,z01 npuh] at hpu
 have npus:pu≠st:=fun z=>by rw [z,z02] at hpu; cases hpu
 rw [z01 npus,z01 npuh] at hpu
 have pu0:=(fr3 pu (fr4 pu hpu).1).1
 refine ⟨_,rfl,h,CH,dx,_,rfl,(by rw [z01 npuh.symm]; exact z02),T.cl,T.nPuts,(Nat.le_of_ble_eq_true (by kernel_rfl)),?_⟩
 intro tk htk
 have ntkh:tk≠h:=fun z=>by rw [z,z02] at htk; cases htk
 rw [z01 ntkh] at htk
 have ntkp:tk≠pu:=fun z=>by rw [z,z02] at htk; cases htk
 rw [z01 ntkp,z01 ntkh,z01 ntkh] at htk
 have ntks:tk≠st:=fun z=>by rw [z,z02] at htk; cases htk
 rw [z01 ntks,z01 ntkh] at htk
 have tk0:=(fr3 tk (fr4 tk htk).1).1
 refine ⟨_,rfl,h,CH,dx,_,rfl,(by rw [z01 ntkh.symm]; exact z02),T.cl,T.nTakers,(Nat.le_of_ble_eq_true (by kernel_rfl)),?_⟩
 refine ⟨_,rfl,h,CH,dx,_,rfl,z02,T.cl,T.nBound,(Nat.le_of_ble_eq_true (by kernel_rfl)),?_⟩
 rw [hf_made]
 have fin:∀ b o,H4 b=some o→b≠h→b≠st→b≠pu→b≠tk→∀ o1 o2 o3 o4 o5 o6 o7 o8 o9:HO,(upd (upd (upd (upd (upd (upd (upd (upd (upd H4 h o1) st o2) h o3) h o4) pu o5) h o6) tk o7) h o8) h o9) b=some o:=fun b o e k1 k2 k3 k4 o1 o2 o3 o4 o5 o6 o7 o8 o9=>by
  rw [z01 k1,z01 k1,z01 k4,z01 k1,z01 k3,z01 k1,z01 k1,z01 k2,z01 k1]
  exact e
 have nn:∀ b o,H4 b=some o→b≠st∧b≠pu∧b≠tk:=fun b o e=>⟨z07 e hst,z07 e hpu,z07 e htk⟩
 refine q ⟨h,c,ce,de,pu,st,tk⟩ lo _ rfl (PH.init (dx:=dx) (dy:=dy) z02 ?_ ?_ ?_ ?_ ?_ ?_ ?_ n1 ?_ ?_ nel.symm n5 ?_ ntkp hch) ?_ ?_
 ·exact fin _ _ o24 hch (nn _ _ o24).1 (nn _ _ o24).2.1 (nn _ _ o24).2.2 _ _ _ _ _ _ _ _ _
 ·exact fin _ _ e14 hceh (nn _ _ e14).1 (nn _ _ e14).2.1 (nn _ _ e14).2.2 _ _ _ _ _ _ _ _ _
 ·exact fin _ _ e24 hloh (nn _ _ e24).1 (nn _ _ e24).2.1 (nn _ _ e24).2.2 _ _ _ _ _ _ _ _ _
 ·exact fin _ _ e34 ndeh (nn _ _ e34).1 (nn _ _ e34).2.1 (nn _ _ e34).2.2 _ _ _ _ _ _ _ _ _
 ·rw [z01 nsth,z01 nsth,z01 ntks.symm,z01 nsth,z01 npus.symm,z01 nsth,z01 nsth,z02]
 ·rw [z01 npuh,z01 npuh,z01 ntkp.symm,z01 npuh,z02]
 ·rw [z01 ntkh,z01 ntkh,z02]
 ·exact (nn _ _ e14).1
 ·exact (nn _ _ e34).1
 ·exact (nn _ _ e24).1
 ·intro b hb
  have hb':b∈[lo,c,tk,h,ce,de,pu,st]:=hb
  simp only [List.mem_cons,List.not_mem_nil,or_false] at hb'
  rcases hb' with z | z | z | z | z | z | z | z
  ·rw [z]; exact .inr lo0
  ·rw [z]; exact .inr c0
  ·rw [z]; exact .inr tk0
  ·rw [z]; exact .inl rfl
  ·rw [z]; exact .inr ce0
  ·rw [z]; exact .inr de0
  ·rw [z]; exact .inr pu0
  ·rw [z]; exact .inr st0
 ·intro b o e n
  have e4:=st4 b o e n
  exact fin b o e4 n (nn _ _ e4).1 (nn _ _ e4).2.1 (nn _ _ e4).2.2 _ _ _ _ _ _ _ _ _
end
end K10
set_option Elab.async false
set_option linter.all false
set_option maxRecDepth 100000
namespace K10
open PySem L2
section
variable {P:Program} {w:World} {K:PySem.W.Frag} {mg:Str→Option Value} {base:Heap} {f:Addr} {fd:FuncData}
theorem put_word (x:Hs) (d p k:Int):∃ w,(x.answered (.put d p k)).2=.word w:=by
 rcases answered_words x (.put d p k) with ⟨i,h⟩ | h | h | h | h | h
 ·exfalso
  unfold Hs.answered at h
  cases e:x.refusal (.put d p k) with
  | some w=>rw [e] at h; cases h
  | none =>
   rw [e] at h
   have h':(if (x.full 2).2=true then ((x.full 2).1,Ans.word "no room") else ((((x.full 2).1.took d p.toNat).putIn d p.toNat k),.word "done")).2=.num i:=h
   split at h' <;> cases h'
 all_goals exact ⟨_,h⟩
theorem drop_word (x:Hs) (d:Int):∃ w,(x.answered (.drop d)).2=.word w:=by
 unfold Hs.answered
 cases x.refusal (.drop d) with
 | some w=>exact ⟨w,rfl⟩
 | none=>exact ⟨_,rfl⟩
theorem scDD:z0h ["house","deed"] ["house","deed"] (z06 sDoDeed):=⟨rfl,rfl,rfl,by decide +kernel,rfl,by decide +kernel,by decide +kernel⟩
set_option maxHeartbeats 8000000 in
theorem ok_dd {CC CH CD CP CT CR:Addr} {gB:Addr} {dB:FuncData} {gL:Addr} {dL:FuncData} {gP:Addr} {dP:FuncData} {gN:Addr} {dN:FuncData} {gD:Addr} {dD:FuncData} {gC:Addr} {dC:FuncData} {gU:Addr} {dU:FuncData} (F:Fun K "do_deed" "do_deed" sDoDeed f fd) (T:z13 K mg CH) (GB:FnOk P w K mg base (CX1 P w) 6 gB dB ["self"] (spBegin CC CH CD CP CT CR)) (bB:z0r K dB ["self"] []) (mB:Meth K CH "begin" gB)
  (GL:FnOk P w K mg base (CX1 P w) 2 gL dL ["self","page"] (spLook CC CH CD CP CT CR)) (bL:z0r K dL ["self","page"] []) (mL:Meth K CH "look" gL)
  (GP:FnOk P w K mg base (CX1 P w) 6 gP dP ["self","dealing","page","number"] (spPut CC CH CD CP CT CR)) (bP:z0r K dP ["self","dealing","page","number"] []) (mP:Meth K CH "put" gP)
  (GN:FnOk P w K mg base (CX1 P w) 3 gN dN ["self","dealing"] (spEnd CC CH CD CP CT CR)) (bN:z0r K dN ["self","dealing"] []) (mN:Meth K CH "end" gN)
  (GD:FnOk P w K mg base (CX1 P w) 4 gD dD ["self","dealing"] (spDrop CC CH CD CP CT CR)) (bD:z0r K dD ["self","dealing"] []) (mD:Meth K CH "drop" gD)
  (GC:FnOk P w K mg base (CX1 P w) 3 gC dC ["self","page"] (spCarry CC CH CP)) (bC:z0r K dC ["self","page"] []) (mC:Meth K CH "carry" gC)
  (GU:FnOk P w K mg base CX0 3 gU dU ["self"] (spCut CC CH)) (bU:z0r K dU ["self"] []) (mU:Meth K CH "cut" gU):FnOk P w K mg base (CX1 P w) 7 f fd ["house","deed"] (spDoDeed CC CH CD CP CT CR):=by
 refine F.okX scDD (fun vs H Q Ex h=>?_) (fun cdv A outer s H vs Q Ex hr h=>?_)
 ·obtain ⟨a,lo,pl,x,ts,n,v,e,rfl,_⟩:=h
  rfl
 obtain ⟨a,lo,pl,x,ts,n,v,e,rfl,R,rv,hs,q⟩:=h
 have A:=R.ph
 obtain ⟨dx,o1⟩:=A.ob
 refine ⟨_,(z03 (z0u (z0b z1f (z0j z0g (pv 1) z08 (fun _ _=>rfl)) z0a (z0i _)) (z04 (z0q (pe_meth0 (pv 0) T.cl mB GB (hr.mono (by decide)) bB .nil (pass1 fun _ _ z=>z)))) z0l) (z03 (z0u (z0b z1f (z0j z0g (pv 1) z08 (fun _ _=>rfl)) z0a (z0i _)) (z04 (z0q (z11 (pv 0) T.cl mL GL (hr.mono (by decide)) bL .nil (pass1 fun _ _ z=>z) (z00 (z0j z0g (pv 1) z08 (fun _ _=>rfl)) z05)))) z0l) (z03 (z0u (z0b z1f (z0j z0g (pv 1) z08 (fun _ _=>rfl)) z0a (z0i _)) (z04 (z0d (z11 (pv 0) T.cl mP GP (hr.mono (by decide)) bP .nil (pass1 fun _ _ z=>z) (z00 (z0j z0g (pv 1) z08 (fun _ _=>rfl)) (z00 (z0j z0g (pv 1) z08 (fun _ _=>rfl)) (z00 (z0j z0g (pv 1) z08 (fun _ _=>rfl)) z05)))))) (z04 (z0u (z0b z1f (z0j z0g (pv 1) z08 (fun _ _=>rfl)) z0a (z0i _)) (z04 (z0d (z11 (pv 0) T.cl mN GN (hr.mono (by decide)) bN .nil (pass1 fun _ _ z=>z) (z00 (z0j z0g (pv 1) z08 (fun _ _=>rfl)) z05)))) (z04 (z0u (z0b z1f (z0j z0g (pv 1) z08 (fun _ _=>rfl)) z0a (z0i _)) (z04 (z0d (z11 (pv 0) T.cl mD GD (hr.mono (by decide)) bD .nil (pass1 fun _ _ z=>z) (z00 (z0j z0g (pv 1) z08 (fun _ _=>rfl)) z05)))) (z04 (z0u (z0b z1f (z0j z0g (pv 1) z08 (fun _ _=>rfl)) z0a (z0i _)) (z04 (z0d (z11 (pv 0) T.cl mC GC (hr.mono (by decide)) bC .nil (pass1 fun _ _ z=>z) (z00 (z0j z0g (pv 1) z08 (fun _ _=>rfl)) z05)))) (z04 (z0u (z0b z1f (z0j z0g (pv 1) z08 (fun _ _=>rfl)) z0a (z0i _)) (z04 (z0d (pe_meth0 (pv 0) T.cl mU GU (hr.mono (by decide)) bU .nil z0z))) z0l))))))))) (z04 (z0q z0a))))),?_⟩
 cases e with
 | begin =>
  obtain ⟨c,y1,rfl,hc,r1⟩:=rep_tup1 rv
  cases r1.str_inv
  refine ⟨_,rfl,c,_,_,_,rfl,rfl,SqT.of hc,rfl,rfl,_,rfl,ifT rfl ?_⟩
  refine ⟨_,rfl,a.h,dx,_,rfl,o1,(by kernel_rfl),a,lo,pl,x,ts,n,rfl,R,fun lo' pl' ts' H' A' l m=>?_⟩
  have h:=q lo' pl' ts' H' A' l m
  have ea:(x.answered .begin).2=if (x.began.full 1).2=true then Ans.word "no room" else .num x.begun:=by
   show (if (x.began.full 1).2=true then ((x.began.full 1).1,Ans.word "no room") else ((x.began.full 1).1.opened,.num x.begun)).2=_
   split <;> rfl
  rw [ea] at h ⊢
  split at h
  ·rename_i z
   rw [if_pos z]
   exact out_room.mpr (out_room.mp h)
  ·rename_i z
   rw [if_neg z]
   exact h
 | look p =>
  obtain ⟨c,y1,y2,rfl,hc,r1,r2⟩:=z0y rv
  cases r1.str_inv
  cases r2.int_inv
  refine ⟨_,rfl,c,_,_,_,rfl,rfl,SqT.of hc,rfl,rfl,_,rfl,ifF (by decide +kernel) ?_⟩
  refine ⟨_,rfl,c,_,_,_,rfl,rfl,SqT.of hc,rfl,rfl,_,rfl,ifT rfl ?_⟩
  refine ⟨_,rfl,a.h,dx,_,rfl,o1,(by kernel_rfl),_,rfl,c,_,_,_,rfl,rfl,SqT.of hc,rfl,a,lo,pl,x,ts,n,p,rfl,R,hs,fun lo' pl' ts' H' A' l m=>?_⟩
  have h:=q lo' pl' ts' H' A' l m
  by_cases cc:p<0∨(x.desk.length:Int)≤p
  ·have ea:=z1y (e:=.look p) (w:="no page") (if_pos cc)
   rw [ea] at h ⊢
   exact out_page.mpr (out_page.mp h)
  ·have ea:=z1u (x:=x) (e:=.look p) (if_neg cc)
   rw [ea] at h ⊢
   exact h
 | put d p k =>
  obtain ⟨c,y1,y2,y3,y4,rfl,hc,r1,r2,r3,r4⟩:=rep_tup4 rv
  cases r1.str_inv
  cases r2.int_inv
  cases r3.int_inv
  cases r4.int_inv
  refine ⟨_,rfl,c,_,_,_,rfl,rfl,SqT.of hc,rfl,rfl,_,rfl,ifF (by decide +kernel) ?_⟩
  refine ⟨_,rfl,c,_,_,_,rfl,rfl,SqT.of hc,rfl,rfl,_,rfl,ifF (by decide +kernel) ?_⟩
  refine ⟨_,rfl,c,_,_,_,rfl,rfl,SqT.of hc,rfl,rfl,_,rfl,ifT rfl ?_⟩
  refine ⟨_,rfl,a.h,dx,_,rfl,o1,(by kernel_rfl),_,rfl,c,_,_,_,rfl,rfl,SqT.of hc,rfl,_,rfl,c,_,_,_,rfl,rfl,SqT.of hc,rfl,_,rfl,c,_,_,_,rfl,rfl,SqT.of hc,rfl,a,lo,pl,x,ts,n,d,p,k,rfl,R,hs.1,hs.2,fun lo' pl' ts' H' A' l m=>?_⟩
  have h:=q lo' pl' ts' H' A' l m
  obtain ⟨w,hw⟩:=put_word x d p k
  rw [hw] at h ⊢
  exact h
 | fin d =>
  obtain ⟨c,y1,y2,rfl,hc,r1,r2⟩:=z0y rv
  cases r1.str_inv
  cases r2.int_inv
  refine ⟨_,rfl,c,_,_,_,rfl,rfl,SqT.of hc,rfl,rfl,_,rfl,ifF (by decide +kernel) ?_⟩
  refine ⟨_,rfl,c,_,_,_,rfl,rfl,SqT.of hc,rfl,rfl,_,rfl,ifF (by decide +kernel) ?_⟩
  refine ⟨_,rfl,c,_,_,_,rfl,rfl,SqT.of hc,rfl,rfl,_,rfl,ifF (by decide +kernel) ?_⟩
  refine ⟨_,rfl,c,_,_,_,rfl,rfl,SqT.of hc,rfl,rfl,_,rfl,ifT rfl ?_⟩
  refine ⟨_,rfl,a.h,dx,_,rfl,o1,(by kernel_rfl),_,rfl,c,_,_,_,rfl,rfl,SqT.of hc,rfl,a,lo,pl,x,ts,n,d,rfl,A,R.fits (by decide),hs,?_⟩
  have er:x.refusal (.fin d)=(if x.isOpen d=false then some ("no dealing":Str) else none):=rfl
  cases ho:x.isOpen d with
  | false =>
   rw [if_pos rfl]
   rw [ho,if_pos rfl] at er
   have ea:=z1y er
   have h:=q lo pl ts H (by rw [ea]; exact A) (Nat.le_succ _) (z1b.refl ..)
   rw [ea] at h
   exact z31.mp h
  | true =>
   rw [if_neg (fun z=>nomatch z)]
   rw [ho,if_neg (fun z=>nomatch z)] at er
   have ea:=z1u er
   intro lo' H' A' m
   have h:=q lo' _ ts H' (by rw [ea]; exact A') (Nat.le_succ _) m
   rw [ea] at h
   exact out_done.mp h
 | drop d =>
  obtain ⟨c,y1,y2,rfl,hc,r1,r2⟩:=z0y rv
  cases r1.str_inv
  cases r2.int_inv
  refine ⟨_,rfl,c,_,_,_,rfl,rfl,SqT.of hc,rfl,rfl,_,rfl,ifF (by decide +kernel) ?_⟩
  refine ⟨_,rfl,c,_,_,_,rfl,rfl,SqT.of hc,rfl,rfl,_,rfl,ifF (by decide +kernel) ?_⟩
  refine ⟨_,rfl,c,_,_,_,rfl,rfl,SqT.of hc,rfl,rfl,_,rfl,ifF (by decide +kernel) ?_⟩
  refine ⟨_,rfl,c,_,_,_,rfl,rfl,SqT.of hc,rfl,rfl,_,rfl,ifF (by decide +kernel) ?_⟩
  refine ⟨_,rfl,c,_,_,_,rfl,rfl,SqT.of hc,rfl,rfl,_,rfl,ifT rfl ?_⟩
  refine ⟨_,rfl,a.h,dx,_,rfl,o1,(by kernel_rfl),_,rfl,c,_,_,_,rfl,rfl,SqT.of hc,rfl,a,lo,pl,x,ts,n,d,rfl,R,hs,fun lo' pl' ts' H' A' l m=>?_⟩
  have h:=q lo' pl' ts' H' A' l m
  obtain ⟨w,hw⟩:=drop_word x d
  rw [hw] at h ⊢
  exact h
 | carry p =>
  obtain ⟨c,y1,y2,rfl,hc,r1,r2⟩:=z0y rv
  cases r1.str_inv
  cases r2.int_inv
  refine ⟨_,rfl,c,_,_,_,rfl,rfl,SqT.of hc,rfl,rfl,_,rfl,ifF (by decide +kernel) ?_⟩
  refine ⟨_,rfl,c,_,_,_,rfl,rfl,SqT.of hc,rfl,rfl,_,rfl,ifF (by decide +kernel) ?_⟩
  refine ⟨_,rfl,c,_,_,_,rfl,rfl,SqT.of hc,rfl,rfl,_,rfl,ifF (by decide +kernel) ?_⟩
  refine ⟨_,rfl,c,_,_,_,rfl,rfl,SqT.of hc,rfl,rfl,_,rfl,ifF (by decide +kernel) ?_⟩
  refine ⟨_,rfl,c,_,_,_,rfl,rfl,SqT.of hc,rfl,rfl,_,rfl,ifF (by decide +kernel) ?_⟩
  refine ⟨_,rfl,c,_,_,_,rfl,rfl,SqT.of hc,rfl,rfl,_,rfl,ifT rfl ?_⟩
  refine ⟨_,rfl,a.h,dx,_,rfl,o1,(by kernel_rfl),_,rfl,c,_,_,_,rfl,rfl,SqT.of hc,rfl,a,lo,pl,x,ts,p,rfl,A,hs,R.fits (by decide),?_⟩
  by_cases cc:p<0∨(x.desk.length:Int)≤p
  ·rw [if_pos cc]
   have ea:=z1y (x:=x) (e:=.carry p) (w:="no page") (if_pos cc)
   have h:=q lo pl ts H (by rw [ea]; exact A) (Nat.le_succ _) (z1b.refl ..)
   rw [ea] at h
   exact out_page.mp h
  ·rw [if_neg cc]
   have ea:=z1u (x:=x) (e:=.carry p) (if_neg cc)
   intro lo' H' A' m
   have h:=q lo' pl ts H' (by rw [ea]; exact A') (Nat.le_succ _) m
   rw [ea] at h
   exact out_done.mp h
 | cut =>
  obtain ⟨c,y1,rfl,hc,r1⟩:=rep_tup1 rv
  cases r1.str_inv
  refine ⟨_,rfl,c,_,_,_,rfl,rfl,SqT.of hc,rfl,rfl,_,rfl,ifF (by decide +kernel) ?_⟩
  refine ⟨_,rfl,c,_,_,_,rfl,rfl,SqT.of hc,rfl,rfl,_,rfl,ifF (by decide +kernel) ?_⟩
  refine ⟨_,rfl,c,_,_,_,rfl,rfl,SqT.of hc,rfl,rfl,_,rfl,ifF (by decide +kernel) ?_⟩
  refine ⟨_,rfl,c,_,_,_,rfl,rfl,SqT.of hc,rfl,rfl,_,rfl,ifF (by decide +kernel) ?_⟩
  refine ⟨_,rfl,c,_,_,_,rfl,rfl,SqT.of hc,rfl,rfl,_,rfl,ifF (by decide +kernel) ?_⟩
  refine ⟨_,rfl,c,_,_,_,rfl,rfl,SqT.of hc,rfl,rfl,_,rfl,ifF (by decide +kernel) ?_⟩
  refine ⟨_,rfl,c,_,_,_,rfl,rfl,SqT.of hc,rfl,rfl,_,rfl,ifT rfl ?_⟩
  refine ⟨_,rfl,a.h,dx,_,rfl,o1,(by kernel_rfl),a,lo,pl,x,ts,rfl,A,R.fits (by decide),R.plz,fun lo' H' A' m=>?_⟩
  have ea:=z1u (x:=x) (e:=.cut) rfl
  have h:=q lo' pl ts H' (by rw [ea]; exact A') (Nat.le_succ _) m
  rw [ea] at h
  exact out_done.mp h
structure ExsM (K:PySem.W.Frag) (mg:Str→Option Value) (CD CP CT CR:Addr):Prop extends Exs K mg CD CP CT CR where
 mt:∀ p∈[CD,CP,CT,CR],∀ q∈[CD,CP,CT,CR],PySem.W.exmOne K (.ref p) (.ref q)=some (p == q)
 nd:[CD,CP,CT,CR].Nodup
theorem exs_match {K:PySem.W.Frag} {mg:Str→Option Value} {CD CP CT CR:Addr} (X:ExsM K mg CD CP CT CR):∀ p∈([(CD,"no dealing"),(CP,"no page"),(CT,"taken"),(CR,"no room")]:List (Addr × Str)),∀ q∈([(CD,"no dealing"),(CP,"no page"),(CT,"taken"),(CR,"no room")]:List (Addr × Str)),PySem.W.exmOne K (.ref p.1) (.ref q.1)=some (p.1 == q.1):=fun p hp q hq=>by
 refine X.mt p.1 ?_ q.1 ?_
 ·have:=List.mem_map_of_mem (f:=(·.1)) hp
  exact this
 ·have:=List.mem_map_of_mem (f:=(·.1)) hq
  exact this
theorem exs_find {K:PySem.W.Frag} {mg:Str→Option Value} {CD CP CT CR:Addr} (X:ExsM K mg CD CP CT CR) {Q:VK}:∀ (c:Value) (H:Hp),((c=.ref CD∧Q (.str "no dealing") H)∨(c=.ref CP∧Q (.str "no page") H)∨(c=.ref CT∧Q (.str "taken") H)∨(c=.ref CR∧Q (.str "no room") H)) →
  ∃ C r,c=.ref C∧([(CD,"no dealing"),(CP,"no page"),(CT,"taken"),(CR,"no room")]:List (Addr × Str)).lookup C=some r∧Q (.str r) H:=fun c H h=>by
 have nd:=X.nd
 simp only [List.nodup_cons,List.mem_cons,List.not_mem_nil,or_false,not_or,not_false_eq_true,List.nodup_nil,and_true] at nd
 obtain ⟨⟨a1,a2,a3⟩,⟨b1,b2⟩,c1⟩:=nd
 have bf:∀ {x y:Addr},¬x=y→(y == x)=false:=fun h=>by simpa using fun z=>h z.symm
 rcases h with ⟨rfl,h⟩ | ⟨rfl,h⟩ | ⟨rfl,h⟩ | ⟨rfl,h⟩
 ·exact ⟨CD,_,rfl,by rw [List.lookup_cons,beq_self_eq_true],h⟩
 ·exact ⟨CP,_,rfl,by rw [List.lookup_cons,bf a1,List.lookup_cons,beq_self_eq_true],h⟩
 ·exact ⟨CT,_,rfl,by rw [List.lookup_cons,bf a2,List.lookup_cons,bf b1,List.lookup_cons,beq_self_eq_true],h⟩
 ·exact ⟨CR,_,rfl,by rw [List.lookup_cons,bf a3,List.lookup_cons,bf b2,List.lookup_cons,bf c1,List.lookup_cons,beq_self_eq_true],h⟩
theorem scAnsw:z0h ["house","deed"] ["house","deed"] (z06 sAnswer):=⟨rfl,rfl,rfl,by decide +kernel,rfl,by decide +kernel,by decide +kernel⟩
set_option maxHeartbeats 8000000 in
theorem ok_answer {CC CH CD CP CT CR:Addr} {gD:Addr} {dD:FuncData} (F:Fun K "answer" "answer" sAnswer f fd) (X:ExsM K mg CD CP CT CR) (GD:FnOk P w K mg base (CX1 P w) 7 gD dD ["house","deed"] (spDoDeed CC CH CD CP CT CR)) (bD:z0r K dD ["house","deed"] []) (kD:PySem.W.keepIn K (.ref gD)=true) (mD:mg "do_deed"=some (.ref gD)):FnOk P w K mg base CX0 8 f fd ["house","deed"] (spAnswer CC CH):=by
 refine F.ok scAnsw (fun vs H Q E h=>?_) (fun cdv A outer s H vs Q E hr h=>?_)
 ·obtain ⟨a,lo,pl,x,ts,n,v,e,rfl,_⟩:=h
  rfl
 obtain ⟨a,lo,pl,x,ts,n,v,e,rfl,R,rv,hs,q⟩:=h
 refine ⟨_,(z04 (ps_try (Q:=Q) (cs:=[(CD,"no dealing"),(CP,"no page"),(CT,"taken"),(CR,"no room")]) (e0:=(cxOf CX0 P w K mg base ["house","deed"] "answer" (z06 sAnswer) f cdv A outer s H E).env) (outer:=outer) rfl rfl rfl (.cons X.mD rfl (by decide) (.cons X.mP rfl (by decide) (.cons X.mT rfl (by decide) (.cons X.mR rfl (by decide) .nil)))) (exs_match X)
   (fun pp=>z04 (z0q (z0m GD (hr.mono (by decide)) rfl mD kD bD .nil (passT (E:=fun c _ H=>(c=.ref CD∧Q (.str "no dealing") H)∨(c=.ref CP∧Q (.str "no page") H)∨(c=.ref CT∧Q (.str "taken") H)∨(c=.ref CR∧Q (.str "no room") H)) rfl rfl rfl (exs_find X)) (z00 (pv 0) (z00 (pv 1) z05))))))),?_⟩
 refine ⟨fun v H h=>h,?_⟩
 refine ⟨_,rfl,_,rfl,a,lo,pl,x,ts,n,v,e,rfl,R,rv,hs,fun lo' pl' ts' H' A' l m=>?_⟩
 have h:=q lo' pl' ts' H' A' l m
 rcases answered_words x e with ⟨i,hw⟩ | hw | hw | hw | hw | hw
 ·rw [hw] at h ⊢; exact h
 ·rw [hw] at h ⊢; exact out_done.mpr h
 ·rw [hw] at h ⊢; exact z31.mpr (.inl ⟨rfl,h⟩)
 ·rw [hw] at h ⊢; exact out_page.mpr (.inr (.inl ⟨rfl,h⟩))
 ·rw [hw] at h ⊢; exact out_taken.mpr (.inr (.inr (.inl ⟨rfl,h⟩)))
 ·rw [hw] at h ⊢; exact out_room.mpr (.inr (.inr (.inr ⟨rfl,h⟩)))
end
end K10
set_option Elab.async false
set_option linter.all false
set_option maxRecDepth 100000
namespace K10
open PySem L2
def spDeeds:Sp:=fun vs H Q _=>∃ (cl:Addr) (cs:List Int) (c:Int),vs=[.ref cl,.int c]∧H cl=some (.lst (cs.map V.int))∧cs.length≤63∧1≤c∧c≤40 ∧
 ∀ (r:Addr) (us:List V) (es:List Deed) (H':Hp),Same H H'→H' r=some (.lst us)→Reps H' (es.map Deed.D) us→es.length≤63→(∀ e∈es,smD e)→Q (.ref r) H'
def bd (i:Int):Prop := -(10000000000000000000000000000000000000000:Int)≤i∧i≤10000000000000000000000000000000000000000
theorem bd.sm {i:Int} (h:bd i):sm i:=by
 obtain ⟨h1,h2⟩:=h
 refine small_log (Nat.lt_of_le_of_lt (m:=10 ^ 40) (by have e:(10:Nat) ^ 40=10000000000000000000000000000000000000000:=(by decide); rw [e]; omega) ?_)
 exact Nat.lt_of_lt_of_le (by decide:10 ^ 40<2 ^ 200) (Nat.pow_le_pow_right (by decide) (by decide))
theorem e30:(10:Int) ^ (30:Int).toNat=1000000000000000000000000000000:=by decide +kernel
def seven:List Str:=["begin","put","end","drop","look","carry","cut"]
def ws16:List Str:=["begin","put","put","put","end","put","carry","put","drop","look","put","cut","end","put","begin","carry"]
theorem ws_seven:∀ w∈ws16,w∈seven:=by decide +kernel
def forBody (s:Stmt):List Stmt:=match s with
 | .For _ _ b _ _=>b
 | _=>[]
structure DF (H0 H:Hp) (wd ak ou ov:Addr) (us:List V) (es:List Deed) (os vs:List Int) (b:Int) (k:Nat):Prop where
 sm:Same H0 H
 hw:H wd=some (.lst (ws16.map V.str))
 ha:H ak=some (.lst us)
 ra:Reps H (es.map Deed.D) us
 la:es.length=k
 sa:∀ e∈es,smD e
 ho:H ou=some (.lst (os.map V.int))
 lo:os.length≤k
 so:∀ o∈os,bd o
 hv:H ov=some (.lst (vs.map V.int))
 lv:vs.length≤k
 sv:∀ o∈vs,bd o
 b0:0≤b
 b1:b≤k
 fa:H0 ak=none
 fo:H0 ou=none
 fv:H0 ov=none
 n1:wd≠ak
 n2:wd≠ou
 n3:wd≠ov
 n4:ak≠ou
 n5:ak≠ov
 n6:ou≠ov
section
variable {H0 H H':Hp} {wd ak ou ov:Addr} {us:List V} {es:List Deed} {os vs:List Int} {b:Int} {k:Nat}
theorem DF.same (D:DF H0 H wd ak ou ov us es os vs b k) (s:Same H H'):DF H0 H' wd ak ou ov us es os vs b k :=
 ⟨D.sm.trans s,s _ _ D.hw,s _ _ D.ha,Reps.mono s _ _ D.ra,D.la,D.sa,s _ _ D.ho,D.lo,D.so,s _ _ D.hv,D.lv,D.sv,D.b0,D.b1,D.fa,D.fo,D.fv,D.n1,D.n2,D.n3,D.n4,D.n5,D.n6⟩
theorem DF.ask (D:DF H0 H wd ak ou ov us es os vs b k) {e:Deed} {v:V} (hv:Rep H e.D v) (hs:smD e):DF H0 (upd H ak (.lst (us++[v]))) wd ak ou ov (us++[v]) (es++[e]) os vs b (k+1):=by
 have kt:z1i H (upd H ak (.lst (us++[v]))):=fun c ys q=>by
  rw [z01 (z0x q D.ha (fun z=>nomatch z))]
  exact q
 have l1:=D.lo
 have l2:=D.lv
 have l3:=D.b1
 refine ⟨D.sm.upd_new D.fa,by rw [z01 D.n1]; exact D.hw,z02,?_,by rw [List.length_append,D.la]; rfl,fun e' he=>?_,by rw [z01 D.n4.symm]; exact D.ho,by omega,D.so,by rw [z01 D.n5.symm]; exact D.hv,by omega,D.sv,D.b0,by omega,D.fa,D.fo,D.fv,D.n1,D.n2,D.n3,D.n4,D.n5,D.n6⟩
 ·rw [List.map_append]
  exact (Reps.keep kt _ _ (z0e Deed.D_flat _) D.ra).append (.cons (Rep.keep kt _ _ (Deed.D_flat _) hv) .nil)
 ·rcases List.mem_append.mp he with z | z
  ·exact D.sa e' z
  ·rw [List.mem_singleton.mp z]; exact hs
theorem DF.setO (D:DF H0 H wd ak ou ov us es os vs b k) {os':List Int} (hl:os'.length≤k) (hs:∀ o∈os',bd o):DF H0 (upd H ou (.lst (os'.map V.int))) wd ak ou ov us es os' vs b k:=by
 have kt:z1i H (upd H ou (.lst (os'.map V.int))):=fun c ys q=>by
  rw [z01 (z0x q D.ho (fun z=>nomatch z))]
  exact q
 exact ⟨D.sm.upd_new D.fo,by rw [z01 D.n2]; exact D.hw,by rw [z01 D.n4]; exact D.ha,Reps.keep kt _ _ (z0e Deed.D_flat _) D.ra,D.la,D.sa,z02,hl,hs,by rw [z01 D.n6.symm]; exact D.hv,D.lv,D.sv,D.b0,D.b1,D.fa,D.fo,D.fv,D.n1,D.n2,D.n3,D.n4,D.n5,D.n6⟩
theorem DF.setV (D:DF H0 H wd ak ou ov us es os vs b k) {vs':List Int} (hl:vs'.length≤k) (hs:∀ o∈vs',bd o):DF H0 (upd H ov (.lst (vs'.map V.int))) wd ak ou ov us es os vs' b k:=by
 have kt:z1i H (upd H ov (.lst (vs'.map V.int))):=fun c ys q=>by
  rw [z01 (z0x q D.hv (fun z=>nomatch z))]
  exact q
 exact ⟨D.sm.upd_new D.fv,by rw [z01 D.n3]; exact D.hw,by rw [z01 D.n5]; exact D.ha,Reps.keep kt _ _ (z0e Deed.D_flat _) D.ra,D.la,D.sa,by rw [z01 D.n6]; exact D.ho,D.lo,D.so,z02,hl,hs,D.b0,D.b1,D.fa,D.fo,D.fv,D.n1,D.n2,D.n3,D.n4,D.n5,D.n6⟩
theorem DF.newO (D:DF H0 H wd ak ou ov us es os vs b k) {n:Addr} {os':List Int} (hn:H n=none) (hl:os'.length≤k) (hs:∀ o∈os',bd o):DF H0 (upd H n (.lst (os'.map V.int))) wd ak n ov us es os' vs b k:=by
 have s:=z09 hn (.lst (os'.map V.int))
 have nw:wd≠n:=z07 D.hw hn
 have na:ak≠n:=z07 D.ha hn
 have nv:ov≠n:=z07 D.hv hn
 exact ⟨D.sm.trans s,s _ _ D.hw,s _ _ D.ha,Reps.mono s _ _ D.ra,D.la,D.sa,z02,hl,hs,s _ _ D.hv,D.lv,D.sv,D.b0,D.b1,D.fa,D.sm.free hn,D.fv,D.n1,nw,D.n3,na,D.n5,nv.symm⟩
theorem DF.begun (D:DF H0 H wd ak ou ov us es os vs b (k+1)) (h:b+1≤((k+1:Nat):Int)):DF H0 H wd ak ou ov us es os vs (b+1) (k+1) :=
 ⟨D.sm,D.hw,D.ha,D.ra,D.la,D.sa,D.ho,D.lo,D.so,D.hv,D.lv,D.sv,by have:=D.b0; omega,h,D.fa,D.fo,D.fv,D.n1,D.n2,D.n3,D.n4,D.n5,D.n6⟩
end
def DI (H0:Hp) (cl:Addr) (c:Int) (wd ak ov:Addr) (k:Nat) (σ:St) (H:Hp):Prop :=
 ∃ (ou:Addr) (us:List V) (es:List Deed) (os vs:List Int) (b:Int) (o7 o8 o9 o10 o11 o12 o13 o14 o15:Option V),σ=[some (.ref cl),some (.int c),some (.ref wd),some (.ref ak),some (.ref ou),some (.ref ov),some (.int b),o7,o8,o9,o10,o11,o12,o13,o14,o15]∧DF H0 H wd ak ou ov us es os vs b k
section
variable {P:Program} {w:World} {K:PySem.W.Frag} {mg:Str→Option Value} {base:Heap} {f:Addr} {fd:FuncData}
def ifThen (s:Stmt):List Stmt:=match s with
 | .If _ b _ _=>b
 | _=>[]
def ifElse (s:Stmt):List Stmt:=match s with
 | .If _ _ b _=>b
 | _=>[]
theorem z14:z0h ["_law_cells","_law_count","_law_words","_law_asked","_law_out","_law_over","_law_begun","_law_k","_law_rest","_law_word","_law_odd","_law_far","_law_page","_law_strange","_law_dealing","_law_number"] ["_law_cells","_law_count"] (z06 z22):=⟨rfl,rfl,rfl,by decide +kernel,rfl,by decide +kernel,by decide +kernel⟩
set_option maxHeartbeats 16000000 in
theorem ok_deeds {gD:Addr} {dD:FuncData} (F:Fun K "_law_deeds" "_law_deeds" z22 f fd) (B:Blt mg) (GD:FnOk P w K mg base CX0 1 gD dD ["_law_number","_law_prime","_law_many"] spDraw) (bD:z0r K dD ["_law_number","_law_prime","_law_many"] []) (kD:PySem.W.keepIn K (.ref gD)=true) (mD:mg "_law_draw"=some (.ref gD)) :
  FnOk P w K mg base CX0 2 f fd ["_law_cells","_law_count"] spDeeds:=by
 refine F.ok z14 (fun vs H Q E h=>?_) (fun cdv A outer s H vs Q E hr h=>?_)
 ·obtain ⟨cl,cs,c,rfl,_⟩:=h
  rfl
 obtain ⟨cl,cs,c,rfl,hcl,zc,c1,c2,q⟩:=h
 have hu:=z2n hr
 obtain ⟨tput,hput,qput⟩:∃ t,PSs (cxOf CX0 P w K mg base ["_law_cells","_law_count","_law_words","_law_asked","_law_out","_law_over","_law_begun","_law_k","_law_rest","_law_word","_law_odd","_law_far","_law_page","_law_strange","_law_dealing","_law_number"] "_law_deeds" (z06 z22) f cdv A outer s H E).nox ((ifThen ((ifElse ((forBody ((z0c z22).getD 6 (.Pass ⟨0,0,0,0⟩))).getD 10 (.Pass ⟨0,0,0,0⟩))).getD 0 (.Pass ⟨0,0,0,0⟩))).drop 2) t∧∀ (D:Ends) (wd ak ou ov:Addr) (us:List V) (es:List Deed) (os vs:List Int) (b:Int) (k:Nat) (o7 o9 o10 o13:Option V) (r far p d m:Int) (H1:Hp),
   DF H H1 wd ak ou ov us es os vs b k→k<63→bd p→bd d→(∀ σ' H',DI H cl c wd ak ov (k+1) σ' H'→D.nx σ' H')→t D [some (.ref cl),some (.int c),some (.ref wd),some (.ref ak),some (.ref ou),some (.ref ov),some (.int b),o7,some (.int r),o9,o10,some (.int far),some (.int p),o13,some (.int d),some (.int m)] H1:=by
  refine ⟨_,(z03 (z0n (i:=15) z14.nd rfl (Or.inl rfl) (z0j z0w (z17 (z00 (pv 15) (z00 (pv 15) (z00 (pv 11) (z00 (z0v op_sub z08 (pv 11)) z05))))) (z0m GD (hr.mono (by decide)) rfl mD kD bD .nil z0z (z00 (pv 8) (z00 z08 (z00 z08 z05)))) (fun _ _=>rfl))) (z04 (z0d (pe_bm PySem.F.plainAttrs_list PySem.F.slot_list_append PySem.F.type_list_append z12 (pv 3) (z00 (z1p (z00 z0a (z00 (pv 14) (z00 (pv 12) (z00 (pv 15) z05))))) z05))))),?_⟩
  intro D wd ak ou ov us es os vs b k o7 o9 o10 o13 r far p d m H1 DD hk bp bdd hD
  have lus:us.length=es.length:=by rw [Reps.length DD.ra,List.length_map]
  have la:=DD.la
  refine ⟨_,rfl,_,rfl,_,rfl,_,rfl,_,_,rfl,rfl,le5,fun t ht=>?_⟩
  refine ⟨_,rfl,_,_,_,rfl,by decide,by decide,fun z z0 z4=>?_⟩
  obtain ⟨y,y1,y2⟩:=z2q (ns:=[m,m,far,0 - far]) (k:=z) z0 z4
  have s1:=z09 ht (.lst [.int m,.int m,.int far,.int (0 - far)])
  have D1:=DD.same s1
  refine ⟨t,_,_,_,rfl,rfl,SqL.of z02,y2,?_⟩
  refine ⟨_,rfl,.inl ⟨rfl,_,SqL.of D1.ha⟩,_,rfl,_,rfl,_,rfl,le5,fun t2 ht2=>?_⟩
  have D2:=D1.same (z09 ht2 (.tup [.str "put",.int d,.int p,.int y]))
  refine ⟨ak,us,.ref t2,rfl,rfl,D2.ha,line_lt (by omega),hD _ _ ?_⟩
  exact ⟨ou,_,_,_,_,b,_,_,_,_,_,_,_,_,_,rfl,D2.ask (e:=.put d p y) (v:=.ref t2) (Rep.ofTup z02 (.cons .ofStr (.cons .ofInt (.cons .ofInt (.cons .ofInt .nil))))) ⟨bdd.sm,bp.sm⟩⟩
 obtain ⟨tcomp,hcomp,qcomp⟩:∃ t,PSs (cxOf CX0 P w K mg base ["_law_cells","_law_count","_law_words","_law_asked","_law_out","_law_over","_law_begun","_law_k","_law_rest","_law_word","_law_odd","_law_far","_law_page","_law_strange","_law_dealing","_law_number"] "_law_deeds" (z06 z22) f cdv A outer s H E).nox ((ifThen ((ifElse ((ifElse ((forBody ((z0c z22).getD 6 (.Pass ⟨0,0,0,0⟩))).getD 10 (.Pass ⟨0,0,0,0⟩))).getD 0 (.Pass ⟨0,0,0,0⟩))).getD 0 (.Pass ⟨0,0,0,0⟩))).drop 2) t∧∀ (D:Ends) (wd ak ou ov:Addr) (us:List V) (es:List Deed) (os vs:List Int) (b:Int) (k:Nat) (o7 o8 o9 o10 o11 o12 o13 o15:Option V) (d:Int) (H1:Hp),
   DF H H1 wd ak ou ov us es os vs b k→k<100→(∀ σ' H',DI H cl c wd ak ov k σ' H'→D.nx σ' H')→t D [some (.ref cl),some (.int c),some (.ref wd),some (.ref ak),some (.ref ou),some (.ref ov),some (.int b),o7,o8,o9,o10,o11,o12,o13,some (.int d),o15] H1:=by
  refine ⟨_,(z04 (ps_compT (i:=4) [14] ["_law_one","_law_dealing"] z14.nd rfl rfl (BlkOk.one (fv:="_law_dealing") (j:=14) rfl (by decide +kernel) (by decide +kernel) rfl (by decide +kernel) rfl rfl (by decide +kernel) rfl rfl rfl) rfl (z36 (pv 4)) (fun C s1 H1 fp=>(z0b op_ne (pv 0) (pv 1) (z0i _))) (fun C s1 H1 fp=>(pv 0)))),?_⟩
  intro D wd ak ou ov us es os vs b k o7 o8 o9 o10 o11 o12 o13 o15 d H1 DD hk hD
  have lo:=DD.lo
  refine ⟨_,rfl,ou,rfl,⟨_,SqL.of DD.ho⟩,fun n hn=>compT_ints (K:=K) (fun z => !decide (V.int z=V.int d)) DD.ho hn (by omega) (fun z H3 kk hkk=>⟨_,rfl,_,rfl,rfl,_,rfl,hkk⟩) (fun z H3 kk hkk=>⟨_,rfl,hkk⟩) ?_⟩
  refine hD _ _ ⟨n,_,_,_,_,b,_,_,_,_,_,_,_,_,_,rfl,DD.newO hn (Nat.le_trans (List.length_filter_le ..) lo) fun o ho=>DD.so o (List.mem_filter.mp ho).1⟩
 obtain ⟨t10,h10,q10⟩:∃ t,PSs (cxOf CX0 P w K mg base ["_law_cells","_law_count","_law_words","_law_asked","_law_out","_law_over","_law_begun","_law_k","_law_rest","_law_word","_law_odd","_law_far","_law_page","_law_strange","_law_dealing","_law_number"] "_law_deeds" (z06 z22) f cdv A outer s H E).nox ((forBody ((z0c z22).getD 6 (.Pass ⟨0,0,0,0⟩))).drop 10) t∧∀ (D:Ends) (wd ak ou ov:Addr) (us:List V) (es:List Deed) (os vs:List Int) (b:Int) (k:Nat) (o7 o10 o13 o15:Option V) (r:Int) (ww:Str) (far p d:Int) (H1:Hp),
   DF H H1 wd ak ou ov us es os vs b k→k<63→ww∈seven→bd p→bd d→(∀ σ' H',DI H cl c wd ak ov (k+1) σ' H'→D.nx σ' H')→t D [some (.ref cl),some (.int c),some (.ref wd),some (.ref ak),some (.ref ou),some (.ref ov),some (.int b),o7,some (.int r),some (.str ww),o10,some (.int far),some (.int p),o13,some (.int d),o15] H1:=by
  refine ⟨_,(z04 (z0u (z0b z1f (pv 9) z0a (z0i _)) (z03 (z0d (pe_bm PySem.F.plainAttrs_list PySem.F.slot_list_append PySem.F.type_list_append z12 (pv 3) (z00 (z1p (z00 z0a z05)) z05))) (z03 (z0d (pe_bm PySem.F.plainAttrs_list PySem.F.slot_list_append PySem.F.type_list_append z12 (pv 4) (z00 (pv 6) z05))) (z04 (z0n (i:=6) z14.nd rfl (Or.inl rfl) (z0v z20 (pv 6) z08))))) (z04 (z0u (z0b z1f (pv 9) z0a (z0i _)) (z03 (z0n (i:=15) z14.nd rfl (Or.inl rfl) (z0v op_sub (z0m GD (hr.mono (by decide)) rfl mD kD bD .nil z0z (z00 (pv 8) (z00 z08 (z00 z08 z05)))) z08)) (z03 (z0n (i:=15) z14.nd rfl (Or.inl rfl) (z0j z0w (z17 (z00 (pv 15) (z00 z08 z05))) (z1a call_int1 rfl B.int bInt (z00 (pe_cmpR op_gt (pv 15) z08 (z0i _)) z05)) (fun _ _=>rfl))) hput)) (z04 (z0u (pt_or2 (z0b z1f (pv 9) z0a (z0i _)) (z0b z1f (pv 9) z0a (z0i _))) (z03 (z0d (pe_bm PySem.F.plainAttrs_list PySem.F.slot_list_append PySem.F.type_list_append z12 (pv 3) (z00 (z1p (z00 (pv 9) (z00 (pv 14) z05))) z05))) (z03 (z0u (z0b op_in_seq (pv 14) (pv 4) (by with_unfolding_all rfl)) (z04 (z0d (pe_bm PySem.F.plainAttrs_list PySem.F.slot_list_append PySem.F.type_list_append z12 (pv 5) (z00 (pv 14) z05)))) z0l) hcomp)) (z04 (z0u (z0b z1f (pv 9) z0a (z0i _)) (z04 (z0d (pe_bm PySem.F.plainAttrs_list PySem.F.slot_list_append PySem.F.type_list_append z12 (pv 3) (z00 (z1p (z00 z0a z05)) z05)))) (z04 (z0d (pe_bm PySem.F.plainAttrs_list PySem.F.slot_list_append PySem.F.type_list_append z12 (pv 3) (z00 (z1p (z00 (pv 9) (z00 (pv 12) z05))) z05)))))))))))),?_⟩
  intro D wd ak ou ov us es os vs b k o7 o10 o13 o15 r ww far p d H1 DD hk hw bp bdd hD
  have lus:us.length=es.length:=by rw [Reps.length DD.ra,List.length_map]
  have la:=DD.la
  have lo:=DD.lo
  have lv:=DD.lv
  have hlt:us.length<sizeLine:=line_lt (by omega)
  have over:∀ (D:Ends) (ww:Str) (e:Deed) (t:Addr),H1 t=none→Rep (upd H1 t (.tup [.str ww,.int d])) e.D (.ref t)→smD e→(∀ σ' H',DI H cl c wd ak ov (k+1) σ' H'→D.nx σ' H') →
    DF H (upd (upd H1 t (.tup [.str ww,.int d])) ak (.lst (us++[.ref t]))) wd ak ou ov (us++[.ref t]) (es++[e]) os vs b (k+1):=fun D ww e t ht hv hs _=>(DD.same (z09 ht _)).ask hv hs
  simp only [seven,List.mem_cons,List.not_mem_nil,or_false] at hw
  rcases hw with rfl | rfl | rfl | rfl | rfl | rfl | rfl
  ·
   refine ⟨_,rfl,rfl,_,rfl,ifT rfl ?_⟩
   refine ⟨_,rfl,.inl ⟨rfl,_,SqL.of DD.ha⟩,le5,fun t ht=>?_⟩
   have D1:=DD.same (z09 ht (.tup [.str "begin"]))
   refine ⟨ak,us,.ref t,rfl,rfl,D1.ha,hlt,?_⟩
   have D2:=D1.ask (e:=.begin) (v:=.ref t) (Rep.ofTup z02 (.cons .ofStr .nil)) trivial
   have D3:=D2.setO (os':=os++[b]) (by rw [List.length_append,List.length_singleton]; omega) (fun o ho=>by
    rcases List.mem_append.mp ho with z | z
    ·exact DD.so o z
    ·rw [List.mem_singleton.mp z]
     have:=DD.b0
     have:=DD.b1
     exact ⟨by omega,by omega⟩)
   refine ⟨_,rfl,.inl ⟨rfl,_,SqL.of D2.ho⟩,_,rfl,ou,_,.int b,rfl,rfl,D2.ho,line_lt (by rw [List.length_map]; omega),?_⟩
   have eo:os.map V.int++[.int b]=(os++[b]).map V.int:=by rw [List.map_append]; rfl
   rw [eo]
   refine ⟨_,rfl,_,_,rfl,rfl,hD _ _ ?_⟩
   exact ⟨ou,_,_,_,_,b+1,_,_,_,_,_,_,_,_,_,rfl,D3.begun (by have:=DD.b1; omega)⟩
  ·
   refine ⟨_,rfl,rfl,_,rfl,ifF (by decide +kernel) ?_⟩
   refine ⟨_,rfl,rfl,_,rfl,ifT rfl ?_⟩
   refine ⟨_,rfl,_,_,_,rfl,by decide,by decide,fun z1 _ _=>⟨_,_,rfl,rfl,?_⟩⟩
   refine ⟨_,rfl,le5,fun t1 ht1=>?_⟩
   have D1:=DD.same (z09 ht1 (.lst [.int (z1 - 20),.int 1000000000000]))
   refine ⟨_,rfl,_,_,rfl,rfl,.inr ⟨_,rfl,two_ix z02 ?_ ?_ _⟩⟩
   ·exact qput D wd ak ou ov us es os vs b k _ _ _ _ r far p d _ _ D1 hk bp bdd hD
   ·exact qput D wd ak ou ov us es os vs b k _ _ _ _ r far p d _ _ D1 hk bp bdd hD
  ·
   refine ⟨_,rfl,rfl,_,rfl,ifF (by decide +kernel) ?_⟩
   refine ⟨_,rfl,rfl,_,rfl,ifF (by decide +kernel) ?_⟩
   refine ⟨_,rfl,rfl,_,rfl,ifT rfl (iteT ?_)⟩
   refine ⟨_,rfl,.inl ⟨rfl,_,SqL.of DD.ha⟩,_,rfl,_,rfl,le5,fun t ht=>?_⟩
   have D2:=over D "end" (.fin d) t ht (Rep.ofTup z02 (.cons .ofStr (.cons .ofInt .nil))) bdd.sm hD
   refine ⟨ak,us,.ref t,rfl,rfl,(DD.same (z09 ht _)).ha,hlt,?_⟩
   refine ⟨_,rfl,_,rfl,ou,_,rfl,.inl (SqL.of D2.ho),rfl,flat_ints os,_,rfl,ite2 (fun _=>?_) (fun _=>?_)⟩
   ·refine ⟨_,rfl,.inl ⟨rfl,_,SqL.of D2.hv⟩,_,rfl,ov,_,.int d,rfl,rfl,D2.hv,line_lt (by rw [List.length_map]; omega),?_⟩
    have eo:vs.map V.int++[.int d]=(vs++[d]).map V.int:=by rw [List.map_append]; rfl
    rw [eo]
    have D3:=D2.setV (vs':=vs++[d]) (by rw [List.length_append,List.length_singleton]; omega) (fun o ho=>by
     rcases List.mem_append.mp ho with z | z
     ·exact DD.sv o z
     ·rw [List.mem_singleton.mp z]; exact bdd)
    exact qcomp D wd ak ou ov _ _ _ _ b (k+1) _ _ _ _ _ _ _ _ d _ D3 (by omega) hD
   ·exact qcomp D wd ak ou ov _ _ _ _ b (k+1) _ _ _ _ _ _ _ _ d _ D2 (by omega) hD
  ·
   refine ⟨_,rfl,rfl,_,rfl,ifF (by decide +kernel) ?_⟩
   refine ⟨_,rfl,rfl,_,rfl,ifF (by decide +kernel) ?_⟩
   refine ⟨_,rfl,rfl,_,rfl,ifF (by decide +kernel) ?_⟩
   refine ⟨_,rfl,rfl,_,rfl,ifT rfl ?_⟩
   refine ⟨_,rfl,.inl ⟨rfl,_,SqL.of DD.ha⟩,_,rfl,_,rfl,le5,fun t ht=>?_⟩
   have D2:=over D "drop" (.drop d) t ht (Rep.ofTup z02 (.cons .ofStr (.cons .ofInt .nil))) bdd.sm hD
   refine ⟨ak,us,.ref t,rfl,rfl,(DD.same (z09 ht _)).ha,hlt,?_⟩
   refine ⟨_,rfl,_,rfl,ou,_,rfl,.inl (SqL.of D2.ho),rfl,flat_ints os,_,rfl,ite2 (fun _=>?_) (fun _=>?_)⟩
   ·refine ⟨_,rfl,.inl ⟨rfl,_,SqL.of D2.hv⟩,_,rfl,ov,_,.int d,rfl,rfl,D2.hv,line_lt (by rw [List.length_map]; omega),?_⟩
    have eo:vs.map V.int++[.int d]=(vs++[d]).map V.int:=by rw [List.map_append]; rfl
    rw [eo]
    have D3:=D2.setV (vs':=vs++[d]) (by rw [List.length_append,List.length_singleton]; omega) (fun o ho=>by
     rcases List.mem_append.mp ho with z | z
     ·exact DD.sv o z
     ·rw [List.mem_singleton.mp z]; exact bdd)
    exact qcomp D wd ak ou ov _ _ _ _ b (k+1) _ _ _ _ _ _ _ _ d _ D3 (by omega) hD
   ·exact qcomp D wd ak ou ov _ _ _ _ b (k+1) _ _ _ _ _ _ _ _ d _ D2 (by omega) hD
  ·
   refine ⟨_,rfl,rfl,_,rfl,ifF (by decide +kernel) ?_⟩
   refine ⟨_,rfl,rfl,_,rfl,ifF (by decide +kernel) ?_⟩
   refine ⟨_,rfl,rfl,_,rfl,ifF (by decide +kernel) ?_⟩
   refine ⟨_,rfl,rfl,_,rfl,ifF (by decide +kernel) ?_⟩
   refine ⟨_,rfl,rfl,_,rfl,ifF (by decide +kernel) ?_⟩
   refine ⟨_,rfl,.inl ⟨rfl,_,SqL.of DD.ha⟩,_,rfl,_,rfl,le5,fun t ht=>?_⟩
   have D1:=DD.same (z09 ht (.tup [.str "look",.int p]))
   refine ⟨ak,us,.ref t,rfl,rfl,D1.ha,hlt,hD _ _ ?_⟩
   exact ⟨ou,_,_,_,_,b,_,_,_,_,_,_,_,_,_,rfl,D1.ask (e:=.look p) (v:=.ref t) (Rep.ofTup z02 (.cons .ofStr (.cons .ofInt .nil))) bp.sm⟩
  ·
   refine ⟨_,rfl,rfl,_,rfl,ifF (by decide +kernel) ?_⟩
   refine ⟨_,rfl,rfl,_,rfl,ifF (by decide +kernel) ?_⟩
   refine ⟨_,rfl,rfl,_,rfl,ifF (by decide +kernel) ?_⟩
   refine ⟨_,rfl,rfl,_,rfl,ifF (by decide +kernel) ?_⟩
   refine ⟨_,rfl,rfl,_,rfl,ifF (by decide +kernel) ?_⟩
   refine ⟨_,rfl,.inl ⟨rfl,_,SqL.of DD.ha⟩,_,rfl,_,rfl,le5,fun t ht=>?_⟩
   have D1:=DD.same (z09 ht (.tup [.str "carry",.int p]))
   refine ⟨ak,us,.ref t,rfl,rfl,D1.ha,hlt,hD _ _ ?_⟩
   exact ⟨ou,_,_,_,_,b,_,_,_,_,_,_,_,_,_,rfl,D1.ask (e:=.carry p) (v:=.ref t) (Rep.ofTup z02 (.cons .ofStr (.cons .ofInt .nil))) bp.sm⟩
  ·
   refine ⟨_,rfl,rfl,_,rfl,ifF (by decide +kernel) ?_⟩
   refine ⟨_,rfl,rfl,_,rfl,ifF (by decide +kernel) ?_⟩
   refine ⟨_,rfl,rfl,_,rfl,ifF (by decide +kernel) ?_⟩
   refine ⟨_,rfl,rfl,_,rfl,ifF (by decide +kernel) ?_⟩
   refine ⟨_,rfl,rfl,_,rfl,ifT rfl ?_⟩
   refine ⟨_,rfl,.inl ⟨rfl,_,SqL.of DD.ha⟩,le5,fun t ht=>?_⟩
   have D1:=DD.same (z09 ht (.tup [.str "cut"]))
   refine ⟨ak,us,.ref t,rfl,rfl,D1.ha,hlt,hD _ _ ?_⟩
   exact ⟨ou,_,_,_,_,b,_,_,_,_,_,_,_,_,_,rfl,D1.ask (e:=.cut) (v:=.ref t) (Rep.ofTup z02 (.cons .ofStr .nil)) trivial⟩
 obtain ⟨t7,h7,q7⟩:∃ t,PSs (cxOf CX0 P w K mg base ["_law_cells","_law_count","_law_words","_law_asked","_law_out","_law_over","_law_begun","_law_k","_law_rest","_law_word","_law_odd","_law_far","_law_page","_law_strange","_law_dealing","_law_number"] "_law_deeds" (z06 z22) f cdv A outer s H E).nox ((forBody ((z0c z22).getD 6 (.Pass ⟨0,0,0,0⟩))).drop 7) t∧∀ (D:Ends) (wd ak ou ov:Addr) (us:List V) (es:List Deed) (os vs:List Int) (b:Int) (k:Nat) (o7 o13 o14 o15:Option V) (r:Int) (ww:Str) (od far p:Int) (H1:Hp),
   DF H H1 wd ak ou ov us es os vs b k→k<63→ww∈seven→bd p→0≤far→far<1000000000000000000000000000000→(∀ σ' H',DI H cl c wd ak ov (k+1) σ' H'→D.nx σ' H')→t D [some (.ref cl),some (.int c),some (.ref wd),some (.ref ak),some (.ref ou),some (.ref ov),some (.int b),o7,some (.int r),some (.str ww),some (.int od),some (.int far),some (.int p),o13,o14,o15] H1:=by
  refine ⟨_,(z03 (z0n (i:=13) z14.nd rfl (Or.inl rfl) (z0v op_cat (z17 (z00 (pv 6) (z00 (pe_un un_neg z08) (z00 (z0v z20 (z0v z20 (pv 6) z08) (pv 11)) (z00 (z0v op_sub (pe_un un_neg z08) (pv 11)) z05))))) (pv 5))) (z03 (z0n (i:=14) z14.nd rfl (Or.inr rfl) (z0j z0w (pv 13) (z0m GD (hr.mono (by decide)) rfl mD kD bD .nil z0z (z00 (pv 8) (z00 z08 (z00 (z0p z0k rfl B.len PySem.boot_len (z00 (pv 13) z05)) z05)))) (fun _ _=>rfl))) (z03 (z0u (pt_and2 (z0b (op_neNil (Nat.lt_of_succ_lt hu)) (pv 4) (z17 z05) (z0i _)) (z0b op_ne (z0v z2f (pv 10) z08) z08 (z0i _))) (z04 (z0n (i:=14) z14.nd rfl (Or.inr rfl) (z0j z0w (pv 4) (z0m GD (hr.mono (by decide)) rfl mD kD bD .nil z0z (z00 (pv 8) (z00 z08 (z00 (z0p z0k rfl B.len PySem.boot_len (z00 (pv 4) z05)) z05)))) (fun _ _=>rfl)))) z0l) h10))),?_⟩
  intro D wd ak ou ov us es os vs b k o7 o13 o14 o15 r ww od far p H1 DD hk hw bp f0 f1 hD
  have lo:=DD.lo
  have lv:=DD.lv
  have hb0:=DD.b0
  have hb1:=DD.b1
  refine ⟨_,rfl,_,rfl,_,rfl,_,_,rfl,rfl,_,rfl,_,_,rfl,rfl,_,rfl,_,rfl,_,_,rfl,rfl,le5,fun t ht=>?_⟩
  have s1:=z09 ht (.lst [.int b,.int (-1),.int (b+1+far),.int (-2 - far)])
  have D1:=DD.same s1
  refine ⟨_,rfl,t,ov,_,_,rfl,rfl,z02,D1.hv,Nat.le_of_lt (line_lt (by rw [List.length_map]; show 4+vs.length≤2000; omega)),fun u hu'=>?_⟩
  have el:[V.int b,.int (-1),.int (b+1+far),.int (-2 - far)]++vs.map V.int=(b :: -1::(b+1+far)::(-2 - far)::vs).map V.int:=rfl
  rw [el]
  have s2:=z09 hu' (.lst ((b :: -1::(b+1+far)::(-2 - far)::vs).map V.int))
  have D2:=D1.same s2
  have eu:(upd (upd H1 t (.lst [.int b,.int (-1),.int (b+1+far),.int (-2 - far)])) u (.lst ((b :: -1::(b+1+far)::(-2 - far)::vs).map V.int))) u=some (.lst ((b :: -1::(b+1+far)::(-2 - far)::vs).map V.int)):=z02
  generalize upd (upd H1 t (.lst [.int b,.int (-1),.int (b+1+far),.int (-2 - far)])) u (.lst ((b :: -1::(b+1+far)::(-2 - far)::vs).map V.int))=H2 at D2 eu ⊢
  have hall:∀ o∈(b :: -1::(b+1+far)::(-2 - far)::vs),bd o:=fun o ho=>by
   simp only [List.mem_cons] at ho
   rcases ho with z | z | z | z | z
   ·rw [z]; exact ⟨by omega,by omega⟩
   ·rw [z]; exact ⟨by omega,by omega⟩
   ·rw [z]; exact ⟨by omega,by omega⟩
   ·rw [z]; exact ⟨by omega,by omega⟩
   ·exact DD.sv o z
  have hss:0<(b :: -1::(b+1+far)::(-2 - far)::vs).length:=Nat.succ_pos _
  generalize (b :: -1::(b+1+far)::(-2 - far)::vs)=ss at eu hall hss ⊢
  refine ⟨_,rfl,_,rfl,_,rfl,u,_,rfl,.inl (SqL.of eu),_,_,_,rfl,by decide,?_,fun z z0 z1=>?_⟩
  ·rw [List.length_map]; omega
  obtain ⟨dd,y1,y2⟩:=z2q (ns:=ss) (k:=z) z0 (by rw [List.length_map] at z1; exact z1)
  have bdd:bd dd:=hall dd (List.mem_of_getElem? y1)
  refine ⟨u,_,_,_,rfl,rfl,SqL.of eu,y2,?_⟩
  refine ⟨_,rfl,le5,fun e he=>?_⟩
  have D3:=D2.same (z09 he (.lst []))
  refine ⟨ou,e,_,rfl,rfl,D3.ho,z02,_,rfl,ite2 (fun ce=>?_) (fun ce=>?_)⟩
  ·refine ⟨_,rfl,_,_,rfl,rfl,(by decide:(0:Int)<11),rfl,_,rfl,ite2 (fun _=>?_) (fun _=>?_)⟩
   ·refine ⟨_,rfl,_,rfl,_,rfl,ou,_,rfl,.inl (SqL.of D3.ho),_,_,_,rfl,by decide,?_,fun z z0 z1=>?_⟩
    ·rw [List.length_map]
     cases os with
     | nil=>cases ce
     | cons o r=>rw [List.length_cons]; omega
    obtain ⟨d2,w1,w2⟩:=z2q (ns:=os) (k:=z) z0 (by rw [List.length_map] at z1; exact z1)
    refine ⟨ou,_,_,_,rfl,rfl,SqL.of D3.ho,w2,?_⟩
    exact q10 D wd ak ou ov us es os vs b k _ _ _ _ r ww far p d2 _ D3 hk hw bp (DD.so d2 (List.mem_of_getElem? w1)) hD
   ·exact q10 D wd ak ou ov us es os vs b k _ _ _ _ r ww far p dd _ D3 hk hw bp bdd hD
  ·refine iteF ?_
   exact q10 D wd ak ou ov us es os vs b k _ _ _ _ r ww far p dd _ D3 hk hw bp bdd hD
 obtain ⟨t3,h3,q3⟩:∃ t,PSs (cxOf CX0 P w K mg base ["_law_cells","_law_count","_law_words","_law_asked","_law_out","_law_over","_law_begun","_law_k","_law_rest","_law_word","_law_odd","_law_far","_law_page","_law_strange","_law_dealing","_law_number"] "_law_deeds" (z06 z22) f cdv A outer s H E).nox ((forBody ((z0c z22).getD 6 (.Pass ⟨0,0,0,0⟩))).drop 3) t∧∀ (D:Ends) (wd ak ou ov:Addr) (us:List V) (es:List Deed) (os vs:List Int) (b:Int) (k:Nat) (o10 o11 o12 o13 o14 o15:Option V) (r:Int) (ww:Str) (H1:Hp),
   DF H H1 wd ak ou ov us es os vs b k→k<cs.length→ww∈seven→(∀ σ' H',DI H cl c wd ak ov (k+1) σ' H'→D.nx σ' H')→t D [some (.ref cl),some (.int c),some (.ref wd),some (.ref ak),some (.ref ou),some (.ref ov),some (.int b),some (.int ((k:Nat):Int)),some (.int r),some (.str ww),o10,o11,o12,o13,o14,o15] H1:=by
  refine ⟨_,(z03 (z0n (i:=10) z14.nd rfl (Or.inl rfl) (z0m GD (hr.mono (by decide)) rfl mD kD bD .nil z0z (z00 (pv 8) (z00 z08 (z00 z08 z05))))) (z03 (z0n (i:=11) z14.nd rfl (Or.inl rfl) (z0v z2f (z0j z0w (pv 0) (pv 7) (fun _ _=>rfl)) (z0v op_pow z08 z08))) (z03 (z0n (i:=12) z14.nd rfl (Or.inl rfl) (z0m GD (hr.mono (by decide)) rfl mD kD bD .nil z0z (z00 (pv 8) (z00 z08 (z00 (pv 1) z05))))) (z03 (z0u (z0b z1f (z0v z2f (pv 10) z08) z08 (z0i _)) (z04 (z0n (i:=12) z14.nd rfl (Or.inl rfl) (z0j z0w (z17 (z00 (pe_un un_neg z08) (z00 (pv 1) (z00 (z0v op_sub (pe_un un_neg z08) (pv 11)) (z00 (z0v z20 (pv 1) (pv 11)) z05))))) (z0v op_fdiv (pv 10) z08) (fun _ _=>rfl)))) z0l) h7)))),?_⟩
  intro D wd ak ou ov us es os vs b k o10 o11 o12 o13 o14 o15 r ww H1 DD hk hw hD
  obtain ⟨z,az,bz⟩:=z2q (ns:=cs) (k:=((k:Nat):Int)) (by omega) (by omega)
  have hcl1:=DD.sm _ _ hcl
  refine ⟨_,rfl,_,_,_,rfl,by decide,by decide,fun od o0 o1=>?_⟩
  refine ⟨_,rfl,_,rfl,cl,_,_,_,rfl,rfl,SqL.of hcl1,bz,_,_,rfl,rfl,⟨by decide,by decide,by decide⟩,_,_,rfl,rfl,(show (0:Int)<10 ^ (30:Int).toNat by decide),?_⟩
  have f0:0≤z % (10:Int) ^ (30:Int).toNat:=Int.emod_nonneg _ (by rw [e30]; decide)
  have f1:z % (10:Int) ^ (30:Int).toNat<1000000000000000000000000000000:=by
   have:=Int.emod_lt_of_pos z (show (0:Int)<10 ^ (30:Int).toNat by decide)
   rw [e30] at this ⊢
   exact this
  dsimp only
  generalize z % (10:Int) ^ (30:Int).toNat=far at f0 f1 ⊢
  refine ⟨_,rfl,_,rfl,_,_,_,rfl,by decide,by omega,fun pg p0 p1=>?_⟩
  refine ⟨_,rfl,_,_,rfl,rfl,(by decide:(0:Int)<11),rfl,_,rfl,ite2 (fun _=>?_) (fun _=>?_)⟩
  ·refine ⟨_,rfl,_,rfl,_,rfl,_,rfl,_,_,rfl,rfl,_,rfl,_,rfl,_,_,rfl,rfl,le5,fun t ht=>?_⟩
   have D1:=DD.same (z09 ht (.lst [.int (-1),.int c,.int (-1 - far),.int (c+far)]))
   refine ⟨_,rfl,_,_,rfl,rfl,⟨by decide,by decide⟩,?_⟩
   obtain ⟨y,y1,y2⟩:=z2q (ns:=[-1,c, -1 - far,c+far]) (k:=od / 11) (by omega) (by show _<(4:Int); omega)
   refine ⟨t,_,_,_,rfl,rfl,SqL.of z02,y2,?_⟩
   refine q7 D wd ak ou ov us es os vs b k _ _ _ _ r ww od far y _ D1 (by omega) hw ?_ f0 f1 hD
   have ym:=List.mem_of_getElem? y1
   simp only [List.mem_cons,List.not_mem_nil,or_false] at ym
   rcases ym with z | z | z | z
   all_goals (rw [z]; exact ⟨by omega,by omega⟩)
  ·exact q7 D wd ak ou ov us es os vs b k _ _ _ _ r ww od far pg _ DD (by omega) hw ⟨by omega,by omega⟩ f0 f1 hD
 obtain ⟨t2,h2,q2⟩:∃ t,PSs (cxOf CX0 P w K mg base ["_law_cells","_law_count","_law_words","_law_asked","_law_out","_law_over","_law_begun","_law_k","_law_rest","_law_word","_law_odd","_law_far","_law_page","_law_strange","_law_dealing","_law_number"] "_law_deeds" (z06 z22) f cdv A outer s H E).nox ((z0c z22).drop 2) t∧∀ (wd:Addr) (H1:Hp),Same H H1→H1 wd=some (.lst (ws16.map V.str)) →
   t { nx:=fun _ H2=>Q .non H2,rt:=Q } [some (.ref cl),some (.int c),some (.ref wd),none,none,none,none,none,none,none,none,none,none,none,none,none] H1:=by
  refine ⟨_,(z03 (z0n (i:=3) z14.nd rfl (Or.inl rfl) (z17 z05)) (z03 (z0n (i:=4) z14.nd rfl (Or.inl rfl) (z17 z05)) (z03 (z0n (i:=5) z14.nd rfl (Or.inl rfl) (z17 z05)) (z03 (z0n (i:=6) z14.nd rfl (Or.inl rfl) z08) (z03 (z2v PassesOwn.never rfl (pi_range1 rfl B.rng (z00 (z0p z0k rfl B.len PySem.boot_len (z00 (pv 0) z05)) z05)) (z1e (i:=7) z14.nd rfl (Or.inl rfl)) (z03 (z0n (i:=8) z14.nd rfl (Or.inl rfl) (z0v z20 (z0j z0w (pv 0) (pv 7) (fun _ _=>rfl)) (z0v op_mul z08 (pv 7)))) (z03 (z0n (i:=9) z14.nd rfl (Or.inl rfl) (z0j z0w (pv 2) (z0v z2f (z0v z20 (z0j z0w (pv 0) (pv 7) (fun _ _=>rfl)) (z0v op_mul z08 (pv 7))) z08) (fun _ _=>rfl))) (z03 (z0u (pt_and2 (z0b (op_eqNil (Nat.lt_of_succ_lt hu)) (pv 4) (z17 z05) (z0i _)) (z0b op_lt (z0v z2f (pv 7) z08) z08 (z0i _))) (z04 (z0n (i:=9) z14.nd rfl (Or.inl rfl) z0a)) z0l) h3)))) (z04 (z0q (pv 3)))))))),?_⟩
  intro wd H1 s1 ew
  refine ⟨le5,fun ak hak=>?_⟩
  have s2:=z09 hak (.lst [])
  have na:wd≠ak:=z07 ew hak
  have ea:(upd H1 ak (.lst [])) ak=some (.lst []):=z02
  generalize upd H1 ak (.lst [])=H2 at s2 ea ⊢
  refine ⟨le5,fun ou hou=>?_⟩
  have s3:=z09 hou (.lst [])
  have no:wd≠ou:=z07 (s2 _ _ ew) hou
  have nao:ak≠ou:=z07 ea hou
  have eo:(upd H2 ou (.lst [])) ou=some (.lst []):=z02
  generalize upd H2 ou (.lst [])=H3 at s3 eo ⊢
  refine ⟨le5,fun ov hov=>?_⟩
  have s4:=z09 hov (.lst [])
  have nv:wd≠ov:=z07 (s3 _ _ (s2 _ _ ew)) hov
  have nav:ak≠ov:=z07 (s3 _ _ ea) hov
  have nov:ou≠ov:=z07 eo hov
  have ev:(upd H3 ov (.lst [])) ov=some (.lst []):=z02
  generalize upd H3 ov (.lst [])=H4 at s4 ev ⊢
  have S4:=s1.trans (s2.trans (s3.trans s4))
  have D0:DF H H4 wd ak ou ov [] [] [] [] 0 0:=⟨S4,(s2.trans (s3.trans s4)) _ _ ew,(s3.trans s4) _ _ ea,.nil,rfl,(fun e he=>by cases he),s4 _ _ eo,Nat.le_refl _,(fun o ho=>by cases ho),ev,Nat.le_refl _,(fun o ho=>by cases ho),Int.le_refl _,Int.le_refl _,s1.free hak,(s1.trans s2).free hou,(s1.trans (s2.trans s3)).free hov,na,no,nv,nao,nav,nov⟩
  have lcs:(cs.map V.int).length=cs.length:=List.length_map _
  refine ⟨_,rfl,cl,_,rfl,.inl (SqL.of (S4 _ _ hcl)),_,rfl,by omega,by omega,for_range (DI H cl c wd ak ov) ⟨ou,[],[],[],[],0,none,none,none,none,none,none,none,none,none,rfl,D0⟩ ?_ ?_⟩
  ·rintro i σ H5 hi ⟨ou5,us,es,os,vs,b,o7,o8,o9,o10,o11,o12,o13,o14,o15,rfl,DD⟩
   have hi':i<cs.length:=by omega
   have e0:(0:Int)+(i:Int)=((i:Nat):Int):=by omega
   rw [e0]
   obtain ⟨z,az,bz⟩:=z2q (ns:=cs) (k:=((i:Nat):Int)) (by omega) (by omega)
   have hcl1:=DD.sm _ _ hcl
   refine ⟨_,rfl,_,rfl,cl,_,_,_,rfl,rfl,SqL.of hcl1,bz,_,rfl,_,_,rfl,rfl,.inl ⟨by decide,by decide⟩,_,_,rfl,rfl,?_⟩
   refine ⟨_,rfl,_,rfl,_,rfl,cl,_,_,_,rfl,rfl,SqL.of hcl1,bz,_,rfl,_,_,rfl,rfl,.inl ⟨by decide,by decide⟩,_,_,rfl,rfl,_,_,rfl,rfl,(by decide:(0:Int)<16),?_⟩
   obtain ⟨v,v1,v2⟩:=atI_in (xs:=ws16.map V.str) (k:=(z+5 * ((i:Nat):Int)) % 16) (by omega) (by show _<(16:Int); omega)
   obtain ⟨ww,hww,rfl⟩:=List.mem_map.mp (List.mem_of_getElem? v2)
   refine ⟨wd,_,_,_,rfl,rfl,SqL.of DD.hw,v1,?_⟩
   refine ⟨_,rfl,le5,fun e he=>?_⟩
   have D1:=DD.same (z09 he (.lst []))
   refine ⟨ou5,e,_,rfl,rfl,D1.ho,z02,_,rfl,ite2 (fun _=>?_) (fun _=>?_)⟩
   ·refine ⟨_,rfl,_,_,rfl,rfl,(by decide:(0:Int)<4),_,_,rfl,rfl,_,rfl,ite2 (fun _=>?_) (fun _=>?_)⟩
    ·exact q3 _ wd ak ou5 ov us es os vs b i _ _ _ _ _ _ _ "begin" _ D1 hi' (by decide +kernel) fun σ' H' h=>h
    ·exact q3 _ wd ak ou5 ov us es os vs b i _ _ _ _ _ _ _ ww _ D1 hi' (ws_seven ww hww) fun σ' H' h=>h
   ·refine iteF ?_
    exact q3 _ wd ak ou5 ov us es os vs b i _ _ _ _ _ _ _ ww _ D1 hi' (ws_seven ww hww) fun σ' H' h=>h
  ·rintro σ H5 ⟨ou5,us,es,os,vs,b,o7,o8,o9,o10,o11,o12,o13,o14,o15,rfl,DD⟩
   exact ⟨_,rfl,q ak us es H5 DD.sm DD.ha DD.ra (by rw [DD.la]; omega) DD.sa⟩
 refine ⟨_,z03 (z0n (i:=2) z14.nd rfl (Or.inl rfl) (z17 (z00 z0a (z00 z0a (z00 z0a (z00 z0a (z00 z0a (z00 z0a (z00 z0a (z00 z0a z05)))))))))) (z03 (z0n (i:=2) z14.nd rfl (Or.inl rfl) (z0v op_cat (pv 2) (z17 (z00 z0a (z00 z0a (z00 z0a (z00 z0a (z00 z0a (z00 z0a (z00 z0a (z00 z0a z05))))))))))) h2),?_⟩
 refine ⟨le5,fun w1 hw1=>⟨_,rfl,le5,fun w2 hw2=>?_⟩⟩
 have s1:=z09 hw1 (.lst ([V.str "begin",V.str "put",V.str "put",V.str "put",V.str "end",V.str "put",V.str "carry",V.str "put"]))
 have s2:=z09 hw2 (.lst ([V.str "drop",V.str "look",V.str "put",V.str "cut",V.str "end",V.str "put",V.str "begin",V.str "carry"]))
 exact ⟨w1,w2,_,_,rfl,rfl,s2 _ _ z02,z02,Nat.le_of_ble_eq_true rfl,fun wd hwd=>q2 wd _ (s1.trans (s2.trans (z09 hwd _))) z02⟩
end
end K10
set_option Elab.async false
set_option linter.all false
set_option maxRecDepth 100000
namespace K10
open PySem L2
def spStrokesOf:Sp:=fun vs H Q _=>∃ (pg dl:Addr) (ps:List Int) (room:Int) (us:List V) (es:List Deed),vs=[.ref pg,.int room,.ref dl]∧H pg=some (.lst (ps.map V.int))∧1≤ps.length∧ps.length≤100∧H dl=some (.lst us)∧Reps H (es.map Deed.D) us∧es.length≤110∧(∀ e∈es,smD e) ∧
 ∀ (r:Addr) (bad:List Addr) (xs:List V) (H':Hp),Same H H'→H r=none→H' r=some (.lst xs)→z21 H' bad ((hs0 ps room).rows es) xs→(∀ v∈xs,∀ b,v=V.ref b→H b=none∧b≠r)→Q (.ref r) H'
section
variable {P:Program} {w:World} {K:PySem.W.Frag} {mg:Str→Option Value} {base:Heap} {f:Addr} {fd:FuncData}
theorem _root_.L2.PH.some {CC CH:Addr} {H:Hp} {a:Ad} {lo:Addr} {pl:List (Int × Addr)} {x:Hs} {ts:List (Key × V)} (A:PH CC CH H a lo pl x ts) {b:Addr} (hb:b∈a.his lo pl):H b≠none:=by
 obtain ⟨dx,o1⟩:=A.ob
 obtain ⟨dy,o2⟩:=A.co
 obtain ⟨xs,e1,_⟩:=A.hl
 intro hn
 rcases List.mem_cons.mp hb with z | hb
 ·rw [z,e1] at hn; cases hn
 ·rcases List.mem_cons.mp hb with z | hb
  ·rw [z,o2] at hn; cases hn
  ·rcases List.mem_cons.mp hb with z | hb
   ·rw [z,A.kt] at hn; cases hn
   ·have n1:b≠a.h:=fun z=>by rw [z,o1] at hn; cases hn
    have n2:b≠a.c:=fun z=>by rw [z,o2] at hn; cases hn
    exact A.va.there (by rw [z1o n1 n2]; exact hn) hb
theorem begun_run:∀ (l:List Deed) (x:Hs),(x.run l).begun≤x.begun+l.length
 | [],_=>Nat.le_refl _
 | e::r,x=>by
  have h1:=begun_run r (x.answered e).1
  have h2:=begun_answered x e
  show ((x.answered e).1.run r).begun≤x.begun+(r.length+1)
  omega
theorem scSo:z0h ["pages","room","deeds","house","strokes","deed","before"] ["pages","room","deeds"] (z06 z2h):=⟨rfl,rfl,rfl,by decide +kernel,rfl,by decide +kernel,by decide +kernel⟩
set_option maxHeartbeats 8000000 in
theorem ok_strokesof {CC CH gI:Addr} {dI:FuncData} {gA:Addr} {dA:FuncData} (F:Fun K "strokes_of" "strokes_of" z2h f fd) (B:Blt mg) (T:z13 K mg CH) (MH:Mk K CH gI) (GI:FnOk P w K mg base CX0 3 gI dI ["self","pages","room"] (spHInit CC CH)) (bI:z0r K dI ["self","pages","room"] [])
  (GA:FnOk P w K mg base CX0 8 gA dA ["house","deed"] (spAnswer CC CH)) (bA:z0r K dA ["house","deed"] []) (kA:PySem.W.keepIn K (.ref gA)=true) (mA:mg "answer"=some (.ref gA)):FnOk P w K mg base CX0 9 f fd ["pages","room","deeds"] spStrokesOf:=by
 refine F.ok scSo (fun vs H Q E h=>?_) (fun cdv A outer s H vs Q E hr h=>?_)
 ·obtain ⟨pg,dl,ps,room,us,es,rfl,_⟩:=h
  rfl
 obtain ⟨pg,dl,ps,room,us,es,rfl,hp,z1,z2,hdl,rus,zes,hsm,q⟩:=h
 have lus:us.length=es.length:=by rw [Reps.length rus,List.length_map]
 refine ⟨_,(z03 (z0n (i:=3) scSo.nd rfl (Or.inl rfl) (pe_make MH GI (hr.mono (by decide)) rfl T.mgC bI .nil z0z (z00 (pv 0) (z00 (pv 1) z05)))) (z03 (z0n (i:=4) scSo.nd rfl (Or.inl rfl) (z17 z05)) (z03 (z2v PassesOwn.never rfl (z36 (pv 2)) (z1e (i:=5) scSo.nd rfl (Or.inl rfl)) (z03 (z0n (i:=6) scSo.nd rfl (Or.inl rfl) (z0p z0k rfl B.len PySem.boot_len (z00 (z10 (pv 3) rfl) z05))) (z03 (z0d (z0m GA (hr.mono (by decide)) rfl mA kA bA .nil z0z (z00 (pv 3) (z00 (pv 5) z05)))) (z04 (z0d (pe_bm PySem.F.plainAttrs_list PySem.F.slot_list_append PySem.F.type_list_append z12 (pv 4) (z00 (pe_slice sl_list (z10 (pv 3) rfl) (po_some (pv 6)) po_none) z05))))))) (z04 (z0q (pv 4)))))),?_⟩
 refine ⟨_,rfl,_,rfl,?_⟩
 intro h dx nh ndx neh
 have S0:Same H (upd (upd H dx (.own h)) h (.ins CH dx [])):=fun b o e=>by
  rw [z01 (z07 e nh),z01 (z07 e ndx)]
  exact e
 refine ⟨h,dx,pg,ps,room,rfl,z02,S0 _ _ hp,fun a lo H1 ha A1 hnew kp=>⟨rfl,?_⟩⟩
 subst ha
 have S1:Same H H1:=fun b o e=>kp b o (S0 b o e) (z07 e nh)
 have his0:∀ b,b∈a.his lo []→H b=none:=fun b hb=>by
  rcases hnew b hb with z | z
  ·rw [z]; exact nh
  ·exact S0.free z
 refine ⟨le5,fun acc hacc=>?_⟩
 have s2:=z09 hacc (.lst [])
 have e2:(upd H1 acc (.lst [])) acc=some (.lst []):=z02
 generalize upd H1 acc (.lst [])=H2 at s2 e2 ⊢
 have acc0:H acc=none:=S1.free hacc
 have nacc1:∀ b,b∈a.his lo []→b≠acc:=fun b hb z=>A1.some hb (by rw [z]; exact hacc)
 have A2:=A1.same s2
 have S2:=S1.trans s2
 clear A1 S1 kp hnew S0 s2
 refine ⟨_,rfl,dl,rfl,⟨us,SqL.of (S2 _ _ hdl)⟩,for_list (K:=K) (a:=dl) (xs:=us) (fun i σ H3=>∃ (lo:Addr) (pl:List (Int × Addr)) (ts:List (Key × V)) (xs:List V) (o5 o6:Option V),σ=[some (.ref pg),some (.int room),some (.ref dl),some (.ref a.h),some (.ref acc),o5,o6]∧PH CC CH H3 a lo pl ((hs0 ps room).run (es.take i)) ts∧ts.length≤i∧Same H H3∧(∀ b,b∈a.his lo pl→H b=none∧b≠acc)∧H3 acc=some (.lst xs)∧z21 H3 (acc::a.his lo pl) ((hs0 ps room).rows (es.take i)) xs∧(∀ v∈xs,∀ b,v=V.ref b→H b=none∧b≠acc)∧i≤es.length)
  ⟨lo,[],[],[],none,none,rfl,A2,Nat.le_refl _,S2,fun b hb=>⟨his0 b hb,nacc1 b hb⟩,e2,.nil,(fun v hv=>by cases hv),Nat.zero_le _⟩ (fun i σ H3 _ ⟨_,_,_,_,_,_,_,_,_,S3,_⟩=>SqL.of (S3 _ _ hdl)) ?_ ?_⟩
 ·rintro i v σ H3 hv ⟨lo3,pl3,ts3,xs,o5,o6,rfl,A3,t3,S3,hb3,e3,R3,X3,hi⟩
  have hi':i<us.length:=(List.getElem?_eq_some_iff.mp hv).1
  obtain ⟨e,he,re⟩:=reps_get rus hv
  have hem:=List.mem_of_getElem? he
  have ht:es.take (i+1)=es.take i++[e]:=by rw [List.take_add_one,he]; rfl
  have lt:(es.take i).length=i:=by rw [List.length_take]; omega
  have gd:=(hs0_good (room:=room) z1 z2).run (es.take i) (by omega)
  rw [lt,Nat.zero_add] at gd
  have bg:((hs0 ps room).run (es.take i)).begun≤900:=by
   have h1:=begun_run (es.take i) (hs0 ps room)
   have h2:(hs0 ps room).begun=0:=rfl
   omega
  have lxs:xs.length=i:=by rw [← R3.1,z34,lt]
  obtain ⟨dx3,o1⟩:=A3.ob
  obtain ⟨zs3,f1,f2⟩:=A3.sk
  have lz3:zs3.length=((hs0 ps room).run (es.take i)).strokes.length:=by rw [Reps.length f2,List.length_map]
  refine ⟨_,rfl,a.h,CH,dx3,_,_,rfl,o1,T.cl,T.nStrokes,hf_strokes .., a.st,_,rfl,.inl (SqL.of f1),?_⟩
  refine ⟨_,rfl,_,rfl,a,lo3,pl3,_,ts3,i,v,e,rfl,⟨A3,gd,by omega,by omega,bg⟩,Rep.mono S3 _ _ re,hsm e hem,fun lo4 pl4 ts4 H4 A4 l4 m4=>?_⟩
  have nacc:acc∉a.his lo3 pl3:=fun z=>(hb3 acc z).2 rfl
  have e4:=m4.oth acc _ nacc e3
  have S4:Same H H4:=fun b o e=>m4.oth b o (fun z=>by rw [(hb3 b z).1] at e; cases e) (S3 b o e)
  have hb4:∀ b,b∈a.his lo4 pl4→H b=none∧b≠acc:=fun b hb=>by
   rcases m4.new b hb with z | z
   ·exact hb3 b z
   ·exact ⟨S3.free z,fun y=>by rw [y,e3] at z; cases z⟩
  have kt4:z1i H3 H4:=fun b ys e=>m4.oth b _ (A3.tupN e) e
  have R4:z21 H4 (acc::a.his lo4 pl4) ((hs0 ps room).rows (es.take i)) xs:=R3.move (fun b o hb e=>m4.oth b o (fun z=>hb (List.mem_cons_of_mem _ z)) e) kt4 fun b hb=>by
   rcases List.mem_cons.mp hb with z | z
   ·exact .inl (by rw [z]; exact List.mem_cons_self)
   ·rcases m4.new b z with y | y
    ·exact .inl (List.mem_cons_of_mem _ y)
    ·exact .inr y
  obtain ⟨dx4,o4⟩:=A4.ob
  obtain ⟨zs4,g1,g2⟩:=A4.sk
  refine ⟨_,rfl,.inl ⟨rfl,_,SqL.of e4⟩,_,rfl,a.h,CH,dx4,_,_,rfl,o4,T.cl,T.nStrokes,hf_strokes .., _,rfl,_,rfl,a.st,zs4,rfl,SqL.of g1,fun u hu'=>?_⟩
  rw [cut_nat] at *
  have s5:=z09 hu' (.lst (zs4.drop zs3.length))
  have e5:(upd H4 u (.lst (zs4.drop zs3.length))) u=some (.lst (zs4.drop zs3.length)):=z02
  have nu:u∉a.his lo4 pl4:=fun z=>A4.some z hu'
  generalize upd H4 u (.lst (zs4.drop zs3.length))=H5 at s5 e5 ⊢
  have nua:u≠acc:=(z07 e4 hu').symm
  have A5:=A4.same s5
  have R5:=R4.same s5
  have rr:Reps H5 ((((hs0 ps room).run (es.take i)).row e).map SM.D) (zs4.drop zs3.length):=by
   have h1:=reps_drop (n:=zs3.length) (Reps.mono s5 _ _ g2)
   rw [← List.map_drop,row_strokes] at h1
   have e0:(((hs0 ps room).run (es.take i)).strokes++((hs0 ps room).run (es.take i)).row e).drop zs3.length=((hs0 ps room).run (es.take i)).row e:=by rw [lz3,List.drop_left]
   rw [e0] at h1
   exact h1
  have R6:=R5.snoc (b:=u) (fun z=>by
   rcases List.mem_cons.mp z with y | y
   ·exact nua y
   ·exact nu y) e5 rr
  have nin:acc∉a.his lo4 pl4:=fun z=>(hb4 acc z).2 rfl
  have e6:=s5 _ _ e4
  have kt6:z1i H5 (upd H5 acc (.lst (xs++[.ref u]))):=fun b ys e=>by
   rw [z01 (z0x e e6 (fun z=>nomatch z))]
   exact e
  refine ⟨acc,xs,.ref u,rfl,rfl,e6,line_lt (by omega),lo4,pl4,ts4,xs++[.ref u],_,_,rfl,?_,by omega,(S4.trans s5).upd_new acc0,hb4,z02,?_,fun w hw b eb=>?_,by omega⟩
  ·rw [ht,run_snoc]
   exact A5.elsewhere nin e6
  ·rw [ht,rows_snoc]
   refine R6.move (fun b o hb e=>?_) kt6 fun b hb=>.inl hb
   rw [z01 (fun z=>hb (by rw [z]; exact List.mem_cons_self))]
   exact e
  ·rcases List.mem_append.mp hw with z | z
   ·exact X3 w z b eb
   ·rw [List.mem_singleton.mp z] at eb
    cases eb
    exact ⟨S4.free hu',nua⟩
 ·rintro σ H3 ⟨lo3,pl3,ts3,xs,o5,o6,rfl,A3,t3,S3,hb3,e3,R3,X3,hi⟩
  rw [lus,List.take_length] at R3
  exact ⟨_,rfl,q acc _ xs H3 S3 acc0 e3 R3 X3⟩
end
end K10
set_option Elab.async false
set_option linter.all false
set_option maxRecDepth 100000
namespace K10
open PySem L2
def spCount:Sp:=fun vs H Q _=>∃ h:Int,vs=[.int h]∧∀ (c:Int) (H':Hp),1≤c→c≤40→Same H H'→Q (.int c) H'
def spLaw (K:PySem.W.Frag):Sp:=fun vs H Q _=>∃ (a:Addr) (ns:List Int),vs=[.ref a]∧SqL K H a (ns.map V.int)∧ns.length≤63∧∀ H',Q (.bl true) H'
section
variable {P:Program} {w:World} {K:PySem.W.Frag} {mg:Str→Option Value} {base:Heap} {f:Addr} {fd:FuncData}
theorem scCount:z0h ["_law_head"] ["_law_head"] (z06 sCount):=⟨rfl,rfl,rfl,by decide +kernel,rfl,by decide +kernel,by decide +kernel⟩
theorem ok_count (F:Fun K "_law_count_by" "_law_count_by" sCount f fd) (B:Blt mg):FnOk P w K mg base CX0 1 f fd ["_law_head"] spCount:=by
 refine F.ok scCount (fun vs H Q E h=>?_) (fun cdv A outer s H vs Q E hr h=>?_)
 ·obtain ⟨h,rfl,_⟩:=h
  rfl
 obtain ⟨z,rfl,q⟩:=h
 refine ⟨_,(z04 (z0q (z0j z0w (z17 (z00 (z0v z20 z08 (z0v z2f (pv 0) z08)) (z00 (z0v z20 z08 (z0v z2f (z0v op_fdiv (pv 0) z08) z08)) z05))) (z1a call_int1 rfl B.int bInt (z00 (pe_cmpR z1f (z0v z2f (z0v op_fdiv (pv 0) z08) z08) z08 (z0i _)) z05)) (fun _ _=>rfl)))),?_⟩
 refine ⟨_,rfl,_,_,rfl,rfl,(by decide:(0:Int)<5),_,_,rfl,rfl,_,rfl,_,_,rfl,rfl,⟨by decide,by decide⟩,_,_,rfl,rfl,(by decide:(0:Int)<29),_,_,rfl,rfl,le5,fun t ht=>?_⟩
 refine ⟨_,rfl,_,_,rfl,rfl,⟨by decide,by decide⟩,_,_,rfl,rfl,(by decide:(0:Int)<8),rfl,.inr ⟨_,rfl,two_ix z02 ?_ ?_ _⟩⟩
 ·exact q (1+z % 5) _ (by omega) (by omega) (z09 ht _)
 ·exact q (12+z / 200 % 29) _ (by omega) (by omega) (z09 ht _)
theorem scLaw:z0h ["_law_script","_law_head","_law_count","_law_room","_law_pages","_law_asked","_law_ones","_law_handed","_law_rows","_law_house","_law_due","_law_deed"] ["_law_script"] (z06 sLaw):=⟨rfl,rfl,rfl,by decide +kernel,rfl,by decide +kernel,by decide +kernel⟩
structure LW (H:Hp) (pg dl:Addr) (ps:List Int) (us:List V) (es:List Deed):Prop where
 hp:H pg=some (.lst (ps.map V.int))
 p1:1≤ps.length
 p2:ps.length≤100
 hd:H dl=some (.lst us)
 rd:Reps H (es.map Deed.D) us
 ze:es.length≤110
 se:∀ e∈es,smD e
theorem LW.mono {H H':Hp} {pg dl:Addr} {ps:List Int} {us:List V} {es:List Deed} (L:LW H pg dl ps us es) (s:Same H H'):LW H' pg dl ps us es :=
 ⟨s _ _ L.hp,L.p1,L.p2,s _ _ L.hd,Reps.mono s _ _ L.rd,L.ze,L.se⟩
set_option maxHeartbeats 8000000 in
theorem ok_law {gA gC gR gP gD gX gK gH gE:Addr} {dA dC dR dP dD dX dK dH dE:FuncData} (F:Fun K "law" "law" sLaw f fd) (B:Blt mg)
  (GA:FnOk P w K mg base CX0 1 gA dA ["_law_script","_law_k"] (spAt K)) (bA:z0r K dA ["_law_script","_law_k"] []) (kA:PySem.W.keepIn K (.ref gA)=true) (mA:mg "_law_at"=some (.ref gA))
  (GC:FnOk P w K mg base CX0 1 gC dC ["_law_head"] spCount) (bC:z0r K dC ["_law_head"] []) (kC:PySem.W.keepIn K (.ref gC)=true) (mC:mg "_law_count_by"=some (.ref gC))
  (GR:FnOk P w K mg base CX0 1 gR dR ["_law_head"] spRoom) (bR:z0r K dR ["_law_head"] []) (kR:PySem.W.keepIn K (.ref gR)=true) (mR:mg "_law_room_of"=some (.ref gR))
  (GP:FnOk P w K mg base CX0 1 gP dP ["_law_cell","_law_count"] spPages) (bP:z0r K dP ["_law_cell","_law_count"] []) (kP:PySem.W.keepIn K (.ref gP)=true) (mP:mg "_law_pages_of"=some (.ref gP))
  (GD:FnOk P w K mg base CX0 2 gD dD ["_law_cells","_law_count"] spDeeds) (bD:z0r K dD ["_law_cells","_law_count"] []) (kD:PySem.W.keepIn K (.ref gD)=true) (mD:mg "_law_deeds"=some (.ref gD))
  (GX:FnOk P w K mg base CX0 9 gX dX ["pages","room","deeds"] spStrokesOf) (bX:z0r K dX ["pages","room","deeds"] []) (kX:PySem.W.keepIn K (.ref gX)=true) (mX:mg "strokes_of"=some (.ref gX))
  (GK:FnOk P w K mg base CX0 2 gK dK ["_law_found","_law_due"] spAlike) (bK:z0r K dK ["_law_found","_law_due"] []) (kK:PySem.W.keepIn K (.ref gK)=true) (mK:mg "_law_alike"=some (.ref gK))
  (GH:FnOk P w K mg base CX0 1 gH dH ["_law_pages","_law_room"] spHouse) (bH:z0r K dH ["_law_pages","_law_room"] []) (kH:PySem.W.keepIn K (.ref gH)=true) (mH:mg "_law_house_of"=some (.ref gH))
  (GE:FnOk P w K mg base CX0 5 gE dE ["_law_house","_law_deed"] spAnswered) (bE:z0r K dE ["_law_house","_law_deed"] []) (kE:PySem.W.keepIn K (.ref gE)=true) (mE:mg "_law_answered"=some (.ref gE)) :
  FnOk P w K mg base CX0 10 f fd ["_law_script"] (spLaw K):=by
 refine F.ok scLaw (fun vs H Q E h=>?_) (fun cdv A outer s H vs Q E hr h=>?_)
 ·obtain ⟨a,ns,rfl,_⟩:=h
  rfl
 obtain ⟨a,ns,rfl,hS,h63,q⟩:=h
 have hu:=z2n hr
 obtain ⟨t9,h9,q9⟩:∃ t,PSs (cxOf CX0 P w K mg base ["_law_script","_law_head","_law_count","_law_room","_law_pages","_law_asked","_law_ones","_law_handed","_law_rows","_law_house","_law_due","_law_deed"] "law" (z06 sLaw) f cdv A outer s H E).nox ((z0c sLaw).drop 9) t∧∀ (pg dl fo:Addr) (ps:List Int) (us:List V) (es:List Deed) (room:Int) (o1 o2 o6 o7:Option V) (H1:Hp),LW H1 pg dl ps us es→es.length≤63→Rep H1 (.lst (((hs0 ps room).rows es).map rowD)) (.ref fo) →
   t { nx:=fun _ H2=>Q .non H2,rt:=Q } [some (.ref a),o1,o2,some (.int room),some (.ref pg),some (.ref dl),o6,o7,some (.ref fo),none,none,none] H1:=by
  refine ⟨_,(z03 (z0n (i:=9) scLaw.nd rfl (Or.inl rfl) (z0m GH (hr.mono (by decide)) rfl mH kH bH .nil z0z (z00 (pv 4) (z00 (pv 3) z05)))) (z03 (z0n (i:=10) scLaw.nd rfl (Or.inl rfl) (z17 z05)) (z03 (z2v PassesOwn.never rfl (z36 (pv 5)) (z1e (i:=11) scLaw.nd rfl (Or.inl rfl)) (z03 (z2k hu (pv 9) z0a (z17 z05) rfl) (z03 (z0d (z0m GE (hr.mono (by decide)) rfl mE kE bE .nil z0z (z00 (pv 9) (z00 (pv 11) z05)))) (z04 (z0d (pe_bm PySem.F.plainAttrs_list PySem.F.slot_list_append PySem.F.type_list_append z12 (pv 10) (z00 (z0o hu (pv 9) z0a (fun _ _=>rfl)) z05))))))) (z04 (z0q (pe_and (z0p z2g rfl B.isi bIsi (z00 (pv 8) (z00 (z2l (v:=.ty "list") rfl B.lst bList rfl) z05))) (pe_one (z0m GK (hr.mono (by decide)) rfl mK kK bK .nil z0z (z00 (pv 8) (z00 (pv 10) z05)))))))))),?_⟩
  intro pg dl fo ps us es room o1 o2 o6 o7 H1 L ze rf
  have lus:us.length=es.length:=by rw [Reps.length L.rd,List.length_map]
  obtain ⟨fxs,ef,_⟩:∃ fxs,H1 fo=some (.lst fxs)∧True:=by
   obtain ⟨c,fxs,e,ef,_⟩:=rf.lst_inv
   cases e
   exact ⟨fxs,ef,trivial⟩
  refine ⟨_,rfl,_,rfl,pg,ps,room,rfl,L.hp,fun h ce de lo pu st H2 s2 A2 fr=>?_⟩
  refine ⟨le5,fun du hdu=>?_⟩
  have s3:=z09 hdu (.lst [])
  have e3:(upd H2 du (.lst [])) du=some (.lst []):=z02
  have ndu:∀ b,b∈own h ce de pu st []→b≠du:=fun b hb z=>A2.there hdu (by rw [← z]; exact hb)
  have nldu:lo≠du:=by
   obtain ⟨xs,el,_⟩:=A2.hl
   exact z07 el hdu
  have du0:H1 du=none:=s2.free hdu
  have A3:=A2.same s3
  have S3:=s2.trans s3
  generalize upd H2 du (.lst [])=H3 at s3 e3 A3 S3 ⊢
  refine ⟨_,rfl,dl,rfl,⟨us,SqL.of (S3 _ _ L.hd)⟩,for_list (K:=K) (a:=dl) (xs:=us) (fun i σ H4=>∃ (lo st:Addr) (pl:List (Int × Addr)) (xs:List V) (o11:Option V),σ=[some (.ref a),o1,o2,some (.int room),some (.ref pg),some (.ref dl),o6,o7,some (.ref fo),some (.ref h),some (.ref du),o11]∧HA H4 h ce de lo pu st pl ((hs0 ps room).runB (es.take i))∧Same H1 H4∧(∀ b,b∈own h ce de pu st pl→H1 b=none∧b≠du)∧lo≠du∧H4 du=some (.lst xs)∧z21 H4 (du::own4 h ce de pu pl) ((hs0 ps room).rows (es.take i)) xs∧i≤es.length)
   ⟨lo,st,[],[],none,rfl,A3,S3,fun b hb=>⟨fr b hb,ndu b hb⟩,nldu,e3,.nil,Nat.zero_le _⟩ (fun i σ H4 _ ⟨_,_,_,_,_,_,_,S4,_⟩=>SqL.of (S4 _ _ L.hd)) ?_ ?_⟩
  ·rintro i v σ H4 hv ⟨lo4,st4,pl4,xs,o11,rfl,A4,S4,hb4,nl4,e4,R4,hi⟩
   have hi':i<us.length:=(List.getElem?_eq_some_iff.mp hv).1
   obtain ⟨e,he,re⟩:=reps_get L.rd hv
   have ht:es.take (i+1)=es.take i++[e]:=by rw [List.take_add_one,he]; rfl
   have lt:(es.take i).length=i:=by rw [List.length_take]; omega
   have gd:=(hs0_good (room:=room) L.p1 L.p2).runB (es.take i) (by omega)
   rw [lt,Nat.zero_add] at gd
   have lxs:xs.length=i:=by rw [← R4.1,z34,lt]
   refine ⟨le5,fun u hu'=>?_⟩
   have s5:=z09 hu' (.lst [])
   have e5:(upd H4 u (.lst [])) u=some (.lst []):=z02
   generalize upd H4 u (.lst [])=H5 at s5 e5 ⊢
   have A5:=A4.same s5
   have nu:u∉own h ce de pu st4 pl4:=A4.there hu'
   have nul:u≠lo4:=by
    obtain ⟨xs,el,_⟩:=A4.hl
    exact (z07 el hu').symm
   refine ⟨_,rfl,h,_,rfl,A5.pStrokes _,?_⟩
   have A6:=A5.setK e5 nu nul
   have nudu:u≠du:=(z07 e4 hu').symm
   have hnh:du≠h:=fun z=>(hb4 h (HA.mh ..)).2 z.symm
   have h0:H1 h=none:=(hb4 h (HA.mh ..)).1
   have kt6:z1i H4 (upd H5 h (.dK (putK (hk ce de lo4 pu st4 ((hs0 ps room).runB (es.take i)).room ((hs0 ps room).runB (es.take i)).begun) (Sum.inr "strokes") (.ref u)))):=fun b ys q=>by
    rw [z01 (z0x (s5 _ _ q) A5.hh (fun z=>nomatch z))]
    exact s5 _ _ q
   have o6':∀ b o,b≠h→H4 b=some o→(upd H5 h (.dK (putK (hk ce de lo4 pu st4 ((hs0 ps room).runB (es.take i)).room ((hs0 ps room).runB (es.take i)).begun) (Sum.inr "strokes") (.ref u)))) b=some o:=fun b o hb e=>by
    rw [z01 hb]
    exact s5 _ _ e
   generalize upd H5 h (.dK (putK (hk ce de lo4 pu st4 ((hs0 ps room).runB (es.take i)).room ((hs0 ps room).runB (es.take i)).begun) (Sum.inr "strokes") (.ref u)))=H6 at A6 kt6 o6' ⊢
   have S6:Same H1 H6:=fun b o e=>o6' b o (fun z=>by rw [z,h0] at e; cases e) (S4 b o e)
   have e6:=o6' du _ hnh e4
   have hb6:∀ b,b∈own h ce de pu u pl4→H1 b=none∧b≠du:=fun b hb=>by
    rcases own_cases (st:=st4) hb with z | z
    ·rw [z]; exact ⟨S4.free hu',nudu⟩
    ·exact hb4 b z
   have R6:z21 H6 (du::own h ce de pu u pl4) ((hs0 ps room).rows (es.take i)) xs:=R4.move (fun b o hb e=>o6' b o (fun z=>hb (List.mem_cons_of_mem _ (by rw [z]; exact List.mem_cons_self))) e) kt6 fun b hb=>by
    rcases List.mem_cons.mp hb with z | z
    ·exact .inl (by rw [z]; exact List.mem_cons_self)
    ·rcases own_own4 z with y | y
     ·exact .inr (by rw [y]; exact hu')
     ·exact .inl (List.mem_cons_of_mem _ y)
   refine ⟨_,rfl,_,rfl,h,ce,de,lo4,pu,u,pl4,_,v,e,i,rfl,A6,Rep.mono S6 _ _ re,gd.bare,by omega,fun lo7 pl7 H7 A7 o7 n7=>?_⟩
   have nacc:du∉own h ce de pu u pl4:=fun z=>(hb6 du z).2 rfl
   have e7:=o7.1 du _ nacc e6
   have S7:Same H1 H7:=fun b o e=>o7.1 b o (fun z=>by rw [(hb6 b z).1] at e; cases e) (S6 b o e)
   have hb7:∀ b,b∈own h ce de pu u pl7→H1 b=none∧b≠du:=fun b hb=>by
    rcases n7 b hb with z | z
    ·exact hb6 b z
    ·exact ⟨S6.free z,fun y=>by rw [y,e6] at z; cases z⟩
   have nl7:lo7≠du:=by
    rcases o7.2 with z | z | z
    ·rw [z]; exact nl4
    ·exact (hb6 _ z).2
    ·exact fun y=>by rw [y,e6] at z; cases z
   have nin:du∉own h ce de pu u pl7:=fun z=>(hb7 du z).2 rfl
   have R7:z21 H7 (du::own4 h ce de pu pl7) ((hs0 ps room).rows (es.take i)) xs:=R6.move (fun b o hb e=>o7.1 b o (fun z=>hb (List.mem_cons_of_mem _ z)) e) (A6.keepT o7.1) fun b hb=>by
    rcases List.mem_cons.mp hb with z | z
    ·exact .inl (by rw [z]; exact List.mem_cons_self)
    ·rcases n7 b (own4_own z) with y | y
     ·exact .inl (List.mem_cons_of_mem _ y)
     ·exact .inr y
   obtain ⟨zs7,g1,g2⟩:=A7.sk
   have g2:Reps H7 ((((hs0 ps room).run (es.take i)).row e).map SM.D) zs7:=by
    rw [← runB_row]
    exact g2
   have kt8:z1i H7 (upd H7 du (.lst (xs++[.ref u]))):=fun b ys e=>by
    rw [z01 (z0x e e7 (fun z=>nomatch z))]
    exact e
   refine ⟨_,rfl,.inl ⟨rfl,_,SqL.of e7⟩,_,rfl,h,_,rfl,A7.gStrokes,du,xs,_,rfl,rfl,e7,line_lt (by omega),lo7,u,pl7,xs++[.ref u],_,rfl,?_,S7.upd_new du0,hb7,nl7,z02,?_,by omega⟩
   ·rw [ht,runB_snoc]
    exact A7.elsewhere nin nl7.symm e7
   ·rw [ht,rows_snoc]
    refine (R7.snoc (fun z=>?_) g1 g2).move (fun b o hb e=>?_) kt8 fun b hb=>.inl hb
    ·rcases List.mem_cons.mp z with y | y
     ·exact nudu y
     ·exact A7.st_own4 y
    ·rw [z01 (fun z=>hb (by rw [z]; exact List.mem_cons_self))]
     exact e
  ·rintro σ H4 ⟨lo4,st4,pl4,xs,o11,rfl,A4,S4,hb4,nl4,e4,R4,_⟩
   rw [lus,List.take_length] at R4
   have zr:=szs_rows ((hs0 ps room).rows es)
   have g9:=((hs0_good (room:=room) L.p1 L.p2).run es (by omega)).sl
   rw [run_strokes,Nat.zero_add] at g9
   have g8:((hs0 ps room).rows es).flatten.length≤300 * es.length:=g9
   rw [z34] at zr
   refine ⟨_,rfl,_,_,_,_,rfl,.lst (S4 _ _ ef),z38 K,_,rfl,iteT ?_⟩
   exact ⟨_,rfl,_,rfl,_,_,.lst (((hs0 ps room).rows es).map rowD),rfl,Rep.mono S4 _ _ rf,.ofLst e4 R4.reps,by rw [sz_lst]; omega,fun H4 _=>q H4⟩
 refine ⟨_,(z03 (z0n (i:=1) scLaw.nd rfl (Or.inl rfl) (z0m GA (hr.mono (by decide)) rfl mA kA bA .nil z0z (z00 (pv 0) (z00 z08 z05)))) (z03 (z0n (i:=2) scLaw.nd rfl (Or.inl rfl) (z0m GC (hr.mono (by decide)) rfl mC kC bC .nil z0z (z00 (pv 1) z05))) (z03 (z0n (i:=3) scLaw.nd rfl (Or.inl rfl) (z0m GR (hr.mono (by decide)) rfl mR kR bR .nil z0z (z00 (pv 1) z05))) (z03 (z0n (i:=4) scLaw.nd rfl (Or.inl rfl) (z0m GP (hr.mono (by decide)) rfl mP kP bP .nil z0z (z00 (z0m GA (hr.mono (by decide)) rfl mA kA bA .nil z0z (z00 (pv 0) (z00 z08 z05))) (z00 (pv 2) z05)))) (z03 (z0n (i:=5) scLaw.nd rfl (Or.inl rfl) (z0m GD (hr.mono (by decide)) rfl mD kD bD .nil z0z (z00 (pe_slice sl_list (pv 0) (po_some z08) po_none) (z00 (pv 2) z05)))) (z03 (z0n (i:=6) scLaw.nd rfl (Or.inl rfl) (z1a z1j rfl B.lst bList (z00 (pv 4) z05))) (z03 (z0n (i:=7) scLaw.nd rfl (Or.inl rfl) (z1a z1j rfl B.lst bList (z00 (pv 5) z05))) (z03 (z0n (i:=8) scLaw.nd rfl (Or.inl rfl) (z0m GX (hr.mono (by decide)) rfl mX kX bX .nil z0z (z00 (pv 6) (z00 (pv 3) (z00 (pv 7) z05))))) (z03 (z0u (pt_or2 (pt_not (pt_val (z0m GK (hr.mono (by decide)) rfl mK kK bK .nil z0z (z00 (pv 6) (z00 (pv 4) z05))))) (pt_not (pt_val (z0m GK (hr.mono (by decide)) rfl mK kK bK .nil z0z (z00 (pv 7) (z00 (pv 5) z05)))))) (z04 (z0q pe_bl)) z0l) h9))))))))),?_⟩
 refine ⟨_,rfl,a,ns,0,rfl,hS,by decide,fun hd=>?_⟩
 refine ⟨_,rfl,hd,rfl,fun c H1 hc1 hc2 s1=>?_⟩
 refine ⟨_,rfl,hd,rfl,fun room H2 s2=>?_⟩
 have S2:=s1.trans s2
 refine ⟨_,rfl,a,ns,1,rfl,S2.seq hS,by decide,fun cell=>⟨_,rfl,cell,c,rfl,hc1,by omega,fun pg ps H3 s3 f3 e3 lp=>?_⟩⟩
 have S3:=S2.trans s3
 refine ⟨_,rfl,_,rfl,a,_,rfl,S3.seq hS,fun c1 h1=>?_⟩
 have ec1:(upd H3 c1 (.lst (cutV (ns.map V.int) (some 2) none))) c1=some (.lst ((ns.drop 2).map V.int)):=by
  rw [z02]
  exact congrArg (fun l=>some (HO.lst l)) (cut_ints ns 2)
 have s4:=z09 h1 (.lst (cutV (ns.map V.int) (some 2) none))
 generalize upd H3 c1 (.lst (cutV (ns.map V.int) (some 2) none))=H4 at s4 ec1 ⊢
 have lns:(ns.drop 2).length≤63:=by rw [List.length_drop]; omega
 refine ⟨_,rfl,c1,ns.drop 2,c,rfl,ec1,lns,hc1,hc2,fun dl us es H7 s5 er rr zr hsm=>?_⟩
 have S37:=s4.trans s5
 have L7:LW H7 pg dl ps us es:=⟨S37 _ _ e3,by omega,by omega,er,rr,by omega,hsm⟩
 refine ⟨_,rfl,pg,_,rfl,.inl (SqL.of L7.hp),fun b1 hb1=>?_⟩
 have s8:=z09 hb1 (.lst (ps.map V.int))
 have e8:(upd H7 b1 (.lst (ps.map V.int))) b1=some (.lst (ps.map V.int)):=z02
 generalize upd H7 b1 (.lst (ps.map V.int))=H8 at s8 e8 ⊢
 have L8:=L7.mono s8
 refine ⟨_,rfl,dl,_,rfl,.inl (SqL.of L8.hd),fun b2 hb2=>?_⟩
 have s9:=z09 hb2 (.lst us)
 have e9:(upd H8 b2 (.lst us)) b2=some (.lst us):=z02
 generalize upd H8 b2 (.lst us)=H9 at s9 e9 ⊢
 have L9:=L8.mono s9
 refine ⟨_,rfl,_,rfl,_,rfl,b1,b2,ps,room,us,es,rfl,s9 _ _ e8,L9.p1,L9.p2,e9,L9.rd,L9.ze,L9.se,fun fo bad fxs H10 s10 _ e10 R10 _=>?_⟩
 have L10:=L9.mono s10
 obtain ⟨dp,rp,zp⟩:=reps_ints H10 ps
 have p2:=L9.p2
 have zd:=szs_deeds es
 refine ⟨_,rfl,_,rfl,_,_,.lst dp,rfl,.ofLst (s10 _ _ (s9 _ _ e8)) rp,.ofLst L10.hp rp,by rw [sz_lst]; omega,fun H11 s11=>⟨_,rfl,iteF ?_⟩⟩
 have L11:=L10.mono s11
 refine ⟨_,rfl,_,rfl,_,_,.lst (es.map Deed.D),rfl,.ofLst ((s10.trans s11) _ _ e9) L11.rd,.ofLst L11.hd L11.rd,by rw [sz_lst]; omega,fun H12 s12=>⟨_,rfl,iteF ?_⟩⟩
 exact q9 pg dl fo ps us es room _ _ _ _ _ (L11.mono s12) zr (Rep.mono (s11.trans s12) _ _ (.ofLst e10 R10.reps))
end
end K10
set_option Elab.async false
set_option linter.all false
set_option maxRecDepth 100000
namespace K10
open PySem L2
theorem exs_mk {K:PySem.W.Frag} {mg:Str→Option Value} {a b c d:Addr} (E:Exs K mg a b c d) (e11:PySem.W.exmOne K (.ref a) (.ref a)=some true) (e12:PySem.W.exmOne K (.ref a) (.ref b)=some false) (e13:PySem.W.exmOne K (.ref a) (.ref c)=some false) (e14:PySem.W.exmOne K (.ref a) (.ref d)=some false)
  (e21:PySem.W.exmOne K (.ref b) (.ref a)=some false) (e22:PySem.W.exmOne K (.ref b) (.ref b)=some true) (e23:PySem.W.exmOne K (.ref b) (.ref c)=some false) (e24:PySem.W.exmOne K (.ref b) (.ref d)=some false)
  (e31:PySem.W.exmOne K (.ref c) (.ref a)=some false) (e32:PySem.W.exmOne K (.ref c) (.ref b)=some false) (e33:PySem.W.exmOne K (.ref c) (.ref c)=some true) (e34:PySem.W.exmOne K (.ref c) (.ref d)=some false)
  (e41:PySem.W.exmOne K (.ref d) (.ref a)=some false) (e42:PySem.W.exmOne K (.ref d) (.ref b)=some false) (e43:PySem.W.exmOne K (.ref d) (.ref c)=some false) (e44:PySem.W.exmOne K (.ref d) (.ref d)=some true):ExsM K mg a b c d:=by
 have ne:∀ {x y:Addr},PySem.W.exmOne K (.ref x) (.ref x)=some true→PySem.W.exmOne K (.ref x) (.ref y)=some false→x≠y:=fun h1 h2 z=>by
  subst z
  rw [h1] at h2
  cases h2
 have t:∀ {x:Addr},PySem.W.exmOne K (.ref x) (.ref x)=some true→PySem.W.exmOne K (.ref x) (.ref x)=some (x == x):=fun h=>by rw [h,beq_self_eq_true]
 have f:∀ {x y:Addr},x≠y→PySem.W.exmOne K (.ref x) (.ref y)=some false→PySem.W.exmOne K (.ref x) (.ref y)=some (x == y):=fun n h=>by rw [h,beq_eq_false_iff_ne.mpr n]
 refine ⟨E,fun p hp q hq=>?_,?_⟩
 ·simp only [List.mem_cons,List.not_mem_nil,or_false] at hp hq
  rcases hp with rfl | rfl | rfl | rfl <;> rcases hq with rfl | rfl | rfl | rfl
  ·exact t e11
  ·exact f (ne e11 e12) e12
  ·exact f (ne e11 e13) e13
  ·exact f (ne e11 e14) e14
  ·exact f (ne e22 e21) e21
  ·exact t e22
  ·exact f (ne e22 e23) e23
  ·exact f (ne e22 e24) e24
  ·exact f (ne e33 e31) e31
  ·exact f (ne e33 e32) e32
  ·exact t e33
  ·exact f (ne e33 e34) e34
  ·exact f (ne e44 e41) e41
  ·exact f (ne e44 e42) e42
  ·exact f (ne e44 e43) e43
  ·exact t e44
 ·simp [ne e11 e12,ne e11 e13,ne e11 e14,ne e22 e23,ne e22 e24,ne e33 e34]
set_option maxHeartbeats 0 in
theorem all_mk {l:PySem.W.OpenLaw} {w:World} {K:PySem.W.Frag} {h:Heap} {mg:Str→Option Value} {fa C1 C2 X1 X2 X3 X4 f1 f2 f3 f4 f5 f6 f7 f8 f9 f10 f11 f12 f13 f14 f15 f16 f17 f18 f19 f20 f21 f22 f23 f24 f25 f26 f27 f28 f29 f30 f31 f32 f33 f34 f35 f36 f37 f38 f39 f40 f41 f42 f43 f44 f45:Addr} (X:K.In h) (G:h.Ns mainGlobals mg) (hfa:mg "law"=some (.ref fa))
  {od1 an1 od2 an2 od3 an3 od4 an4 od5 an5 od6 an6 od7 an7 od8 an8 od9 an9 od10 an10 od11 an11 od12 an12 od13 an13 od14 an14 od15 an15 od16 an16 od17 an17 od18 an18 od19 an19 od20 an20 od21 an21 od22 an22 od23 an23 od24 an24 od25 an25 od26 an26 od27 an27 od28 an28 od29 an29 od30 an30 od31 an31 od32 an32 od33 an33 od34 an34 od35 an35 od36 an36 od37 an37 od38 an38 od39 an39 od40 an40 od41 an41 od42 an42 od43 an43 od44 an44 od45 an45:Option Addr} {sl1 sl2 sl3 sl4 sl5 sl6 sl7 sl8 sl9 sl10 sl11 sl12 sl13 sl14 sl15 sl16 sl17 sl18 sl19 sl20 sl21 sl22 sl23 sl24 sl25 sl26 sl27 sl28 sl29 sl30 sl31 sl32 sl33 sl34 sl35 sl36 sl37 sl38 sl39 sl40 sl41 sl42 sl43 sl44 sl45:Array (Option Value)} {oc1 kV1 dc1 pm1 cd1 ct1 oc2 kV2 dc2 pm2 cd2 ct2 oc3 kV3 dc3 pm3 cd3 ct3 oc4 kV4 dc4 pm4 cd4 ct4 oc5 kV5 dc5 pm5 cd5 ct5 oc6 kV6 dc6 pm6 cd6 ct6 oc7 kV7 dc7 pm7 cd7 ct7 oc8 kV8 dc8 pm8 cd8 ct8 oc9 kV9 dc9 pm9 cd9 ct9 oc10 kV10 dc10 pm10 cd10 ct10 oc11 kV11 dc11 pm11 cd11 ct11 oc12 kV12 dc12 pm12 cd12 ct12 oc13 kV13 dc13 pm13 cd13 ct13 oc14 kV14 dc14 pm14 cd14 ct14 oc15 kV15 dc15 pm15 cd15 ct15 oc16 kV16 dc16 pm16 cd16 ct16 oc17 kV17 dc17 pm17 cd17 ct17 oc18 kV18 dc18 pm18 cd18 ct18 oc19 kV19 dc19 pm19 cd19 ct19 oc20 kV20 dc20 pm20 cd20 ct20 oc21 kV21 dc21 pm21 cd21 ct21 oc22 kV22 dc22 pm22 cd22 ct22 oc23 kV23 dc23 pm23 cd23 ct23 oc24 kV24 dc24 pm24 cd24 ct24 oc25 kV25 dc25 pm25 cd25 ct25 oc26 kV26 dc26 pm26 cd26 ct26 oc27 kV27 dc27 pm27 cd27 ct27 oc28 kV28 dc28 pm28 cd28 ct28 oc29 kV29 dc29 pm29 cd29 ct29 oc30 kV30 dc30 pm30 cd30 ct30 oc31 kV31 dc31 pm31 cd31 ct31 oc32 kV32 dc32 pm32 cd32 ct32 oc33 kV33 dc33 pm33 cd33 ct33 oc34 kV34 dc34 pm34 cd34 ct34 oc35 kV35 dc35 pm35 cd35 ct35 oc36 kV36 dc36 pm36 cd36 ct36 oc37 kV37 dc37 pm37 cd37 ct37 oc38 kV38 dc38 pm38 cd38 ct38 oc39 kV39 dc39 pm39 cd39 ct39 oc40 kV40 dc40 pm40 cd40 ct40 oc41 kV41 dc41 pm41 cd41 ct41 oc42 kV42 dc42 pm42 cd42 ct42 oc43 kV43 dc43 pm43 cd43 ct43 oc44 kV44 dc44 pm44 cd44 ct44 oc45 kV45 dc45 pm45 cd45 ct45:Value}
  (aC1:PySem.W.nsIn K mainGlobals "Cellar"=some (some (.ref C1)))
  (aC2:PySem.W.nsIn K mainGlobals "House"=some (some (.ref C2)))
  (aX1:PySem.W.nsIn K mainGlobals "NoDealing"=some (some (.ref X1)))
  (aX2:PySem.W.nsIn K mainGlobals "NoPage"=some (some (.ref X2)))
  (aX3:PySem.W.nsIn K mainGlobals "Taken"=some (some (.ref X3)))
  (aX4:PySem.W.nsIn K mainGlobals "NoRoom"=some (some (.ref X4)))
  (a1:PySem.W.findIn K (.ref C1) "__init__"=some (some (.ref f1)))
  (i1:PySem.W.isFn K (.ref f1)=true)
  (l1:K.lookup f1=some ⟨oc1,od1,.func (PySem.W.fnOf "__init__" "Cellar.__init__" (z0f sCInit) (z0c sCInit) (z06 sCInit) .none kV1 dc1 pm1 an1 cd1 ct1),sl1⟩)
  (c1:PySem.W.codeIn K cd1 "Cellar.__init__"=true)
  (k1:PySem.W.keepIn K (.ref f1)=true)
  (a2:PySem.W.findIn K (.ref C1) "do_stroke"=some (some (.ref f2)))
  (i2:PySem.W.isFn K (.ref f2)=true)
  (l2:K.lookup f2=some ⟨oc2,od2,.func (PySem.W.fnOf "do_stroke" "Cellar.do_stroke" (z0f sDo) (z0c sDo) (z06 sDo) .none kV2 dc2 pm2 an2 cd2 ct2),sl2⟩)
  (c2:PySem.W.codeIn K cd2 "Cellar.do_stroke"=true)
  (k2:PySem.W.keepIn K (.ref f2)=true)
  (a3:PySem.W.findIn K (.ref C2) "__init__"=some (some (.ref f3)))
  (i3:PySem.W.isFn K (.ref f3)=true)
  (l3:K.lookup f3=some ⟨oc3,od3,.func (PySem.W.fnOf "__init__" "House.__init__" (z0f sHInit) (z0c sHInit) (z06 sHInit) .none kV3 dc3 pm3 an3 cd3 ct3),sl3⟩)
  (c3:PySem.W.codeIn K cd3 "House.__init__"=true)
  (k3:PySem.W.keepIn K (.ref f3)=true)
  (a4:PySem.W.findIn K (.ref C2) "begin"=some (some (.ref f4)))
  (i4:PySem.W.isFn K (.ref f4)=true)
  (l4:K.lookup f4=some ⟨oc4,od4,.func (PySem.W.fnOf "begin" "House.begin" (z0f sBegin) (z0c sBegin) (z06 sBegin) .none kV4 dc4 pm4 an4 cd4 ct4),sl4⟩)
  (c4:PySem.W.codeIn K cd4 "House.begin"=true)
  (k4:PySem.W.keepIn K (.ref f4)=true)
  (a5:PySem.W.findIn K (.ref C2) "put"=some (some (.ref f5)))
  (i5:PySem.W.isFn K (.ref f5)=true)
  (l5:K.lookup f5=some ⟨oc5,od5,.func (PySem.W.fnOf "put" "House.put" (z0f sPut) (z0c sPut) (z06 sPut) .none kV5 dc5 pm5 an5 cd5 ct5),sl5⟩)
  (c5:PySem.W.codeIn K cd5 "House.put"=true)
  (k5:PySem.W.keepIn K (.ref f5)=true)
  (a6:PySem.W.findIn K (.ref C2) "end"=some (some (.ref f6)))
  (i6:PySem.W.isFn K (.ref f6)=true)
  (l6:K.lookup f6=some ⟨oc6,od6,.func (PySem.W.fnOf "end" "House.end" (z0f sEnd) (z0c sEnd) (z06 sEnd) .none kV6 dc6 pm6 an6 cd6 ct6),sl6⟩)
  (c6:PySem.W.codeIn K cd6 "House.end"=true)
  (k6:PySem.W.keepIn K (.ref f6)=true)
  (a7:PySem.W.findIn K (.ref C2) "drop"=some (some (.ref f7)))
  (i7:PySem.W.isFn K (.ref f7)=true)
  (l7:K.lookup f7=some ⟨oc7,od7,.func (PySem.W.fnOf "drop" "House.drop" (z0f sDrop) (z0c sDrop) (z06 sDrop) .none kV7 dc7 pm7 an7 cd7 ct7),sl7⟩)
  (c7:PySem.W.codeIn K cd7 "House.drop"=true)
  (k7:PySem.W.keepIn K (.ref f7)=true)
  (a8:PySem.W.findIn K (.ref C2) "look"=some (some (.ref f8)))
  (i8:PySem.W.isFn K (.ref f8)=true)
  (l8:K.lookup f8=some ⟨oc8,od8,.func (PySem.W.fnOf "look" "House.look" (z0f sLook) (z0c sLook) (z06 sLook) .none kV8 dc8 pm8 an8 cd8 ct8),sl8⟩)
  (c8:PySem.W.codeIn K cd8 "House.look"=true)
  (k8:PySem.W.keepIn K (.ref f8)=true)
  (a9:PySem.W.findIn K (.ref C2) "carry"=some (some (.ref f9)))
  (i9:PySem.W.isFn K (.ref f9)=true)
  (l9:K.lookup f9=some ⟨oc9,od9,.func (PySem.W.fnOf "carry" "House.carry" (z0f sCarry) (z0c sCarry) (z06 sCarry) .none kV9 dc9 pm9 an9 cd9 ct9),sl9⟩)
  (c9:PySem.W.codeIn K cd9 "House.carry"=true)
  (k9:PySem.W.keepIn K (.ref f9)=true)
  (a10:PySem.W.findIn K (.ref C2) "cut"=some (some (.ref f10)))
  (i10:PySem.W.isFn K (.ref f10)=true)
  (l10:K.lookup f10=some ⟨oc10,od10,.func (PySem.W.fnOf "cut" "House.cut" (z0f sCut) (z0c sCut) (z06 sCut) .none kV10 dc10 pm10 an10 cd10 ct10),sl10⟩)
  (c10:PySem.W.codeIn K cd10 "House.cut"=true)
  (k10:PySem.W.keepIn K (.ref f10)=true)
  (a11:PySem.W.findIn K (.ref C2) "ask_dealing"=some (some (.ref f11)))
  (i11:PySem.W.isFn K (.ref f11)=true)
  (l11:K.lookup f11=some ⟨oc11,od11,.func (PySem.W.fnOf "ask_dealing" "House.ask_dealing" (z0f sAskD) (z0c sAskD) (z06 sAskD) .none kV11 dc11 pm11 an11 cd11 ct11),sl11⟩)
  (c11:PySem.W.codeIn K cd11 "House.ask_dealing"=true)
  (k11:PySem.W.keepIn K (.ref f11)=true)
  (a12:PySem.W.findIn K (.ref C2) "ask_page"=some (some (.ref f12)))
  (i12:PySem.W.isFn K (.ref f12)=true)
  (l12:K.lookup f12=some ⟨oc12,od12,.func (PySem.W.fnOf "ask_page" "House.ask_page" (z0f sAskP) (z0c sAskP) (z06 sAskP) .none kV12 dc12 pm12 an12 cd12 ct12),sl12⟩)
  (c12:PySem.W.codeIn K cd12 "House.ask_page"=true)
  (k12:PySem.W.keepIn K (.ref f12)=true)
  (a13:PySem.W.findIn K (.ref C2) "ask_free"=some (some (.ref f13)))
  (i13:PySem.W.isFn K (.ref f13)=true)
  (l13:K.lookup f13=some ⟨oc13,od13,.func (PySem.W.fnOf "ask_free" "House.ask_free" (z0f sAskF) (z0c sAskF) (z06 sAskF) .none kV13 dc13 pm13 an13 cd13 ct13),sl13⟩)
  (c13:PySem.W.codeIn K cd13 "House.ask_free"=true)
  (k13:PySem.W.keepIn K (.ref f13)=true)
  (a14:PySem.W.findIn K (.ref C2) "ask_room"=some (some (.ref f14)))
  (i14:PySem.W.isFn K (.ref f14)=true)
  (l14:K.lookup f14=some ⟨oc14,od14,.func (PySem.W.fnOf "ask_room" "House.ask_room" (z0f sAskR) (z0c sAskR) (z06 sAskR) .none kV14 dc14 pm14 an14 cd14 ct14),sl14⟩)
  (c14:PySem.W.codeIn K cd14 "House.ask_room"=true)
  (k14:PySem.W.keepIn K (.ref f14)=true)
  (a15:PySem.W.findIn K (.ref C2) "has_room"=some (some (.ref f15)))
  (i15:PySem.W.isFn K (.ref f15)=true)
  (l15:K.lookup f15=some ⟨oc15,od15,.func (PySem.W.fnOf "has_room" "House.has_room" (z0f sHasR) (z0c sHasR) (z06 sHasR) .none kV15 dc15 pm15 an15 cd15 ct15),sl15⟩)
  (c15:PySem.W.codeIn K cd15 "House.has_room"=true)
  (k15:PySem.W.keepIn K (.ref f15)=true)
  (a16:PySem.W.findIn K (.ref C2) "make_room"=some (some (.ref f16)))
  (i16:PySem.W.isFn K (.ref f16)=true)
  (l16:K.lookup f16=some ⟨oc16,od16,.func (PySem.W.fnOf "make_room" "House.make_room" (z0f sMakeR) (z0c sMakeR) (z06 sMakeR) .none kV16 dc16 pm16 an16 cd16 ct16),sl16⟩)
  (c16:PySem.W.codeIn K cd16 "House.make_room"=true)
  (k16:PySem.W.keepIn K (.ref f16)=true)
  (a17:PySem.W.findIn K (.ref C2) "write_put"=some (some (.ref f17)))
  (i17:PySem.W.isFn K (.ref f17)=true)
  (l17:K.lookup f17=some ⟨oc17,od17,.func (PySem.W.fnOf "write_put" "House.write_put" (z0f sWriteP) (z0c sWriteP) (z06 sWriteP) .none kV17 dc17 pm17 an17 cd17 ct17),sl17⟩)
  (c17:PySem.W.codeIn K cd17 "House.write_put"=true)
  (k17:PySem.W.keepIn K (.ref f17)=true)
  (a18:PySem.W.findIn K (.ref C2) "make_stroke"=some (some (.ref f18)))
  (i18:PySem.W.isFn K (.ref f18)=true)
  (l18:K.lookup f18=some ⟨oc18,od18,.func (PySem.W.fnOf "make_stroke" "House.make_stroke" (z0f sMakeS) (z0c sMakeS) (z06 sMakeS) .none kV18 dc18 pm18 an18 cd18 ct18),sl18⟩)
  (c18:PySem.W.codeIn K cd18 "House.make_stroke"=true)
  (k18:PySem.W.keepIn K (.ref f18)=true)
  (a19:PySem.W.nsIn K mainGlobals "last_put_places"=some (some (.ref f19)))
  (l19:K.lookup f19=some ⟨oc19,od19,.func (PySem.W.fnOf "last_put_places" "last_put_places" (z0f sLastP) (z0c sLastP) (z06 sLastP) .none kV19 dc19 pm19 an19 cd19 ct19),sl19⟩)
  (c19:PySem.W.codeIn K cd19 "last_put_places"=true)
  (k19:PySem.W.keepIn K (.ref f19)=true)
  (a20:PySem.W.nsIn K mainGlobals "needed_from"=some (some (.ref f20)))
  (l20:K.lookup f20=some ⟨oc20,od20,.func (PySem.W.fnOf "needed_from" "needed_from" (z0f sNeedF) (z0c sNeedF) (z06 sNeedF) .none kV20 dc20 pm20 an20 cd20 ct20),sl20⟩)
  (c20:PySem.W.codeIn K cd20 "needed_from"=true)
  (k20:PySem.W.keepIn K (.ref f20)=true)
  (a21:PySem.W.nsIn K mainGlobals "do_deed"=some (some (.ref f21)))
  (l21:K.lookup f21=some ⟨oc21,od21,.func (PySem.W.fnOf "do_deed" "do_deed" (z0f sDoDeed) (z0c sDoDeed) (z06 sDoDeed) .none kV21 dc21 pm21 an21 cd21 ct21),sl21⟩)
  (c21:PySem.W.codeIn K cd21 "do_deed"=true)
  (k21:PySem.W.keepIn K (.ref f21)=true)
  (a22:PySem.W.nsIn K mainGlobals "answer"=some (some (.ref f22)))
  (l22:K.lookup f22=some ⟨oc22,od22,.func (PySem.W.fnOf "answer" "answer" (z0f sAnswer) (z0c sAnswer) (z06 sAnswer) .none kV22 dc22 pm22 an22 cd22 ct22),sl22⟩)
  (c22:PySem.W.codeIn K cd22 "answer"=true)
  (k22:PySem.W.keepIn K (.ref f22)=true)
  (a23:PySem.W.nsIn K mainGlobals "strokes_of"=some (some (.ref f23)))
  (l23:K.lookup f23=some ⟨oc23,od23,.func (PySem.W.fnOf "strokes_of" "strokes_of" (z0f z2h) (z0c z2h) (z06 z2h) .none kV23 dc23 pm23 an23 cd23 ct23),sl23⟩)
  (c23:PySem.W.codeIn K cd23 "strokes_of"=true)
  (k23:PySem.W.keepIn K (.ref f23)=true)
  (a24:PySem.W.nsIn K mainGlobals "_law_draw"=some (some (.ref f24)))
  (l24:K.lookup f24=some ⟨oc24,od24,.func (PySem.W.fnOf "_law_draw" "_law_draw" (z0f sDraw) (z0c sDraw) (z06 sDraw) .none kV24 dc24 pm24 an24 cd24 ct24),sl24⟩)
  (c24:PySem.W.codeIn K cd24 "_law_draw"=true)
  (k24:PySem.W.keepIn K (.ref f24)=true)
  (a25:PySem.W.nsIn K mainGlobals "_law_whole"=some (some (.ref f25)))
  (l25:K.lookup f25=some ⟨oc25,od25,.func (PySem.W.fnOf "_law_whole" "_law_whole" (z0f sWhole) (z0c sWhole) (z06 sWhole) .none kV25 dc25 pm25 an25 cd25 ct25),sl25⟩)
  (c25:PySem.W.codeIn K cd25 "_law_whole"=true)
  (k25:PySem.W.keepIn K (.ref f25)=true)
  (a26:PySem.W.nsIn K mainGlobals "_law_at"=some (some (.ref f26)))
  (l26:K.lookup f26=some ⟨oc26,od26,.func (PySem.W.fnOf "_law_at" "_law_at" (z0f sAt) (z0c sAt) (z06 sAt) .none kV26 dc26 pm26 an26 cd26 ct26),sl26⟩)
  (c26:PySem.W.codeIn K cd26 "_law_at"=true)
  (k26:PySem.W.keepIn K (.ref f26)=true)
  (a27:PySem.W.nsIn K mainGlobals "_law_alike"=some (some (.ref f27)))
  (l27:K.lookup f27=some ⟨oc27,od27,.func (PySem.W.fnOf "_law_alike" "_law_alike" (z0f sAlike) (z0c sAlike) (z06 sAlike) .none kV27 dc27 pm27 an27 cd27 ct27),sl27⟩)
  (c27:PySem.W.codeIn K cd27 "_law_alike"=true)
  (k27:PySem.W.keepIn K (.ref f27)=true)
  (a28:PySem.W.nsIn K mainGlobals "_law_deeds"=some (some (.ref f28)))
  (l28:K.lookup f28=some ⟨oc28,od28,.func (PySem.W.fnOf "_law_deeds" "_law_deeds" (z0f z22) (z0c z22) (z06 z22) .none kV28 dc28 pm28 an28 cd28 ct28),sl28⟩)
  (c28:PySem.W.codeIn K cd28 "_law_deeds"=true)
  (k28:PySem.W.keepIn K (.ref f28)=true)
  (a29:PySem.W.nsIn K mainGlobals "_law_taker"=some (some (.ref f29)))
  (l29:K.lookup f29=some ⟨oc29,od29,.func (PySem.W.fnOf "_law_taker" "_law_taker" (z0f sTaker) (z0c sTaker) (z06 sTaker) .none kV29 dc29 pm29 an29 cd29 ct29),sl29⟩)
  (c29:PySem.W.codeIn K cd29 "_law_taker"=true)
  (k29:PySem.W.keepIn K (.ref f29)=true)
  (a30:PySem.W.nsIn K mainGlobals "_law_refusal"=some (some (.ref f30)))
  (l30:K.lookup f30=some ⟨oc30,od30,.func (PySem.W.fnOf "_law_refusal" "_law_refusal" (z0f sRefusal) (z0c sRefusal) (z06 sRefusal) .none kV30 dc30 pm30 an30 cd30 ct30),sl30⟩)
  (c30:PySem.W.codeIn K cd30 "_law_refusal"=true)
  (k30:PySem.W.keepIn K (.ref f30)=true)
  (a31:PySem.W.nsIn K mainGlobals "_law_bound"=some (some (.ref f31)))
  (l31:K.lookup f31=some ⟨oc31,od31,.func (PySem.W.fnOf "_law_bound" "_law_bound" (z0f sBound) (z0c sBound) (z06 sBound) .none kV31 dc31 pm31 an31 cd31 ct31),sl31⟩)
  (c31:PySem.W.codeIn K cd31 "_law_bound"=true)
  (k31:PySem.W.keepIn K (.ref f31)=true)
  (a32:PySem.W.nsIn K mainGlobals "_law_put_again"=some (some (.ref f32)))
  (l32:K.lookup f32=some ⟨oc32,od32,.func (PySem.W.fnOf "_law_put_again" "_law_put_again" (z0f sAgain) (z0c sAgain) (z06 sAgain) .none kV32 dc32 pm32 an32 cd32 ct32),sl32⟩)
  (c32:PySem.W.codeIn K cd32 "_law_put_again"=true)
  (k32:PySem.W.keepIn K (.ref f32)=true)
  (a33:PySem.W.nsIn K mainGlobals "_law_needed"=some (some (.ref f33)))
  (l33:K.lookup f33=some ⟨oc33,od33,.func (PySem.W.fnOf "_law_needed" "_law_needed" (z0f sNeeded) (z0c sNeeded) (z06 sNeeded) .none kV33 dc33 pm33 an33 cd33 ct33),sl33⟩)
  (c33:PySem.W.codeIn K cd33 "_law_needed"=true)
  (k33:PySem.W.keepIn K (.ref f33)=true)
  (a34:PySem.W.nsIn K mainGlobals "_law_house_of"=some (some (.ref f34)))
  (l34:K.lookup f34=some ⟨oc34,od34,.func (PySem.W.fnOf "_law_house_of" "_law_house_of" (z0f sHouse) (z0c sHouse) (z06 sHouse) .none kV34 dc34 pm34 an34 cd34 ct34),sl34⟩)
  (c34:PySem.W.codeIn K cd34 "_law_house_of"=true)
  (k34:PySem.W.keepIn K (.ref f34)=true)
  (a35:PySem.W.nsIn K mainGlobals "_law_stroke_in"=some (some (.ref f35)))
  (l35:K.lookup f35=some ⟨oc35,od35,.func (PySem.W.fnOf "_law_stroke_in" "_law_stroke_in" (z0f sStroke) (z0c sStroke) (z06 sStroke) .none kV35 dc35 pm35 an35 cd35 ct35),sl35⟩)
  (c35:PySem.W.codeIn K cd35 "_law_stroke_in"=true)
  (k35:PySem.W.keepIn K (.ref f35)=true)
  (a36:PySem.W.nsIn K mainGlobals "_law_cut_in"=some (some (.ref f36)))
  (l36:K.lookup f36=some ⟨oc36,od36,.func (PySem.W.fnOf "_law_cut_in" "_law_cut_in" (z0f sCutIn) (z0c sCutIn) (z06 sCutIn) .none kV36 dc36 pm36 an36 cd36 ct36),sl36⟩)
  (c36:PySem.W.codeIn K cd36 "_law_cut_in"=true)
  (k36:PySem.W.keepIn K (.ref f36)=true)
  (a37:PySem.W.nsIn K mainGlobals "_law_carry_in"=some (some (.ref f37)))
  (l37:K.lookup f37=some ⟨oc37,od37,.func (PySem.W.fnOf "_law_carry_in" "_law_carry_in" (z0f sCarryIn) (z0c sCarryIn) (z06 sCarryIn) .none kV37 dc37 pm37 an37 cd37 ct37),sl37⟩)
  (c37:PySem.W.codeIn K cd37 "_law_carry_in"=true)
  (k37:PySem.W.keepIn K (.ref f37)=true)
  (a38:PySem.W.nsIn K mainGlobals "_law_full"=some (some (.ref f38)))
  (l38:K.lookup f38=some ⟨oc38,od38,.func (PySem.W.fnOf "_law_full" "_law_full" (z0f sFull) (z0c sFull) (z06 sFull) .none kV38 dc38 pm38 an38 cd38 ct38),sl38⟩)
  (c38:PySem.W.codeIn K cd38 "_law_full"=true)
  (k38:PySem.W.keepIn K (.ref f38)=true)
  (a39:PySem.W.nsIn K mainGlobals "_law_put_in"=some (some (.ref f39)))
  (l39:K.lookup f39=some ⟨oc39,od39,.func (PySem.W.fnOf "_law_put_in" "_law_put_in" (z0f sPutIn) (z0c sPutIn) (z06 sPutIn) .none kV39 dc39 pm39 an39 cd39 ct39),sl39⟩)
  (c39:PySem.W.codeIn K cd39 "_law_put_in"=true)
  (k39:PySem.W.keepIn K (.ref f39)=true)
  (a40:PySem.W.nsIn K mainGlobals "_law_end_in"=some (some (.ref f40)))
  (l40:K.lookup f40=some ⟨oc40,od40,.func (PySem.W.fnOf "_law_end_in" "_law_end_in" (z0f sEndIn) (z0c sEndIn) (z06 sEndIn) .none kV40 dc40 pm40 an40 cd40 ct40),sl40⟩)
  (c40:PySem.W.codeIn K cd40 "_law_end_in"=true)
  (k40:PySem.W.keepIn K (.ref f40)=true)
  (a41:PySem.W.nsIn K mainGlobals "_law_answered"=some (some (.ref f41)))
  (l41:K.lookup f41=some ⟨oc41,od41,.func (PySem.W.fnOf "_law_answered" "_law_answered" (z0f z2u) (z0c z2u) (z06 z2u) .none kV41 dc41 pm41 an41 cd41 ct41),sl41⟩)
  (c41:PySem.W.codeIn K cd41 "_law_answered"=true)
  (k41:PySem.W.keepIn K (.ref f41)=true)
  (a42:PySem.W.nsIn K mainGlobals "_law_pages_of"=some (some (.ref f42)))
  (l42:K.lookup f42=some ⟨oc42,od42,.func (PySem.W.fnOf "_law_pages_of" "_law_pages_of" (z0f sPages) (z0c sPages) (z06 sPages) .none kV42 dc42 pm42 an42 cd42 ct42),sl42⟩)
  (c42:PySem.W.codeIn K cd42 "_law_pages_of"=true)
  (k42:PySem.W.keepIn K (.ref f42)=true)
  (a43:PySem.W.nsIn K mainGlobals "_law_room_of"=some (some (.ref f43)))
  (l43:K.lookup f43=some ⟨oc43,od43,.func (PySem.W.fnOf "_law_room_of" "_law_room_of" (z0f sRoom) (z0c sRoom) (z06 sRoom) .none kV43 dc43 pm43 an43 cd43 ct43),sl43⟩)
  (c43:PySem.W.codeIn K cd43 "_law_room_of"=true)
  (k43:PySem.W.keepIn K (.ref f43)=true)
  (a44:PySem.W.nsIn K mainGlobals "_law_count_by"=some (some (.ref f44)))
  (l44:K.lookup f44=some ⟨oc44,od44,.func (PySem.W.fnOf "_law_count_by" "_law_count_by" (z0f sCount) (z0c sCount) (z06 sCount) .none kV44 dc44 pm44 an44 cd44 ct44),sl44⟩)
  (c44:PySem.W.codeIn K cd44 "_law_count_by"=true)
  (k44:PySem.W.keepIn K (.ref f44)=true)
  (a45:PySem.W.nsIn K mainGlobals "law"=some (some (.ref f45)))
  (l45:K.lookup f45=some ⟨oc45,od45,.func (PySem.W.fnOf "law" "law" (z0f sLaw) (z0c sLaw) (z06 sLaw) .none kV45 dc45 pm45 an45 cd45 ct45),sl45⟩)
  (c45:PySem.W.codeIn K cd45 "law"=true)
  (k45:PySem.W.keepIn K (.ref f45)=true)
  (pgC1:PySem.W.plainGet K C1 Str.empty=true)
  (hdC1:PySem.W.hasDictIn K C1=true)
  (poC1:PySem.W.plainOver K C1=true)
  (saC1:PySem.W.findIn K (.ref C1) "__setattr__"=some (some (.builtin "object.__setattr__")))
  (mkC1:PySem.W.makesIn K C1=true)
  (kcC1:PySem.W.keepIn K (.ref C1)=true)
  (nC1_pages:PySem.W.findIn K (.ref C1) "pages"=some none)
  (nC1_log:PySem.W.findIn K (.ref C1) "log"=some none)
  (pgC2:PySem.W.plainGet K C2 Str.empty=true)
  (hdC2:PySem.W.hasDictIn K C2=true)
  (poC2:PySem.W.plainOver K C2=true)
  (saC2:PySem.W.findIn K (.ref C2) "__setattr__"=some (some (.builtin "object.__setattr__")))
  (mkC2:PySem.W.makesIn K C2=true)
  (kcC2:PySem.W.keepIn K (.ref C2)=true)
  (nC2_cellar:PySem.W.findIn K (.ref C2) "cellar"=some none)
  (nC2_desk:PySem.W.findIn K (.ref C2) "desk"=some none)
  (nC2_room:PySem.W.findIn K (.ref C2) "room"=some none)
  (nC2_strokes:PySem.W.findIn K (.ref C2) "strokes"=some none)
  (nC2_begins:PySem.W.findIn K (.ref C2) "begins"=some none)
  (nC2_puts:PySem.W.findIn K (.ref C2) "puts"=some none)
  (nC2_takers:PySem.W.findIn K (.ref C2) "takers"=some none)
  (nC2_bound:PySem.W.findIn K (.ref C2) "bound"=some none)
  (xX1:PySem.W.excIn K X1 bmV "ValueError.__new__"=true)
  (xX2:PySem.W.excIn K X2 bmV "ValueError.__new__"=true)
  (xX3:PySem.W.excIn K X3 bmV "ValueError.__new__"=true)
  (xX4:PySem.W.excIn K X4 bmV "ValueError.__new__"=true)
  (eX1X1:PySem.W.exmOne K (.ref X1) (.ref X1)=some true)
  (eX1X2:PySem.W.exmOne K (.ref X1) (.ref X2)=some false)
  (eX1X3:PySem.W.exmOne K (.ref X1) (.ref X3)=some false)
  (eX1X4:PySem.W.exmOne K (.ref X1) (.ref X4)=some false)
  (eX2X1:PySem.W.exmOne K (.ref X2) (.ref X1)=some false)
  (eX2X2:PySem.W.exmOne K (.ref X2) (.ref X2)=some true)
  (eX2X3:PySem.W.exmOne K (.ref X2) (.ref X3)=some false)
  (eX2X4:PySem.W.exmOne K (.ref X2) (.ref X4)=some false)
  (eX3X1:PySem.W.exmOne K (.ref X3) (.ref X1)=some false)
  (eX3X2:PySem.W.exmOne K (.ref X3) (.ref X2)=some false)
  (eX3X3:PySem.W.exmOne K (.ref X3) (.ref X3)=some true)
  (eX3X4:PySem.W.exmOne K (.ref X3) (.ref X4)=some false)
  (eX4X1:PySem.W.exmOne K (.ref X4) (.ref X1)=some false)
  (eX4X2:PySem.W.exmOne K (.ref X4) (.ref X2)=some false)
  (eX4X3:PySem.W.exmOne K (.ref X4) (.ref X3)=some false)
  (eX4X4:PySem.W.exmOne K (.ref X4) (.ref X4)=some true)
  (z_list:PySem.W.nsIn K mainGlobals "list"=some none)
  (z_tuple:PySem.W.nsIn K mainGlobals "tuple"=some none)
  (z_int:PySem.W.nsIn K mainGlobals "int"=some none)
  (z_str:PySem.W.nsIn K mainGlobals "str"=some none)
  (z_bool:PySem.W.nsIn K mainGlobals "bool"=some none)
  (z_isinstance:PySem.W.nsIn K mainGlobals "isinstance"=some none)
  (z_len:PySem.W.nsIn K mainGlobals "len"=some none)
  (z_range:PySem.W.nsIn K mainGlobals "range"=some none)
  (z_enumerate:PySem.W.nsIn K mainGlobals "enumerate"=some none)
  (z_dict:PySem.W.nsIn K mainGlobals "dict"=some none)
  (z_sum:PySem.W.nsIn K mainGlobals "sum"=some none)
  (z_reversed:PySem.W.nsIn K mainGlobals "reversed"=some none)
  : ∃ fd:FuncData,(∀ (s:Shared) (v:Value),BindsTo s fd ⟨[v],[]⟩ [("_law_script",v)])∧∀ base:Heap,K.In base→base.Ns mainGlobals mg→FnOk l.prog w K mg base CX0 10 fa fd ["_law_script"] (spLaw K):=by
 have e:=hfa.symm.trans (PySem.W.mg_of X G a45)
 cases e
 have F1:=z0s (st:=sCInit) l1 c1 k1
 have F2:=z0s (st:=sDo) l2 c2 k2
 have F3:=z0s (st:=sHInit) l3 c3 k3
 have F4:=z0s (st:=sBegin) l4 c4 k4
 have F5:=z0s (st:=sPut) l5 c5 k5
 have F6:=z0s (st:=sEnd) l6 c6 k6
 have F7:=z0s (st:=sDrop) l7 c7 k7
 have F8:=z0s (st:=sLook) l8 c8 k8
 have F9:=z0s (st:=sCarry) l9 c9 k9
 have F10:=z0s (st:=sCut) l10 c10 k10
 have F11:=z0s (st:=sAskD) l11 c11 k11
 have F12:=z0s (st:=sAskP) l12 c12 k12
 have F13:=z0s (st:=sAskF) l13 c13 k13
 have F14:=z0s (st:=sAskR) l14 c14 k14
 have F15:=z0s (st:=sHasR) l15 c15 k15
 have F16:=z0s (st:=sMakeR) l16 c16 k16
 have F17:=z0s (st:=sWriteP) l17 c17 k17
 have F18:=z0s (st:=sMakeS) l18 c18 k18
 have F19:=z0s (st:=sLastP) l19 c19 k19
 have F20:=z0s (st:=sNeedF) l20 c20 k20
 have F21:=z0s (st:=sDoDeed) l21 c21 k21
 have F22:=z0s (st:=sAnswer) l22 c22 k22
 have F23:=z0s (st:=z2h) l23 c23 k23
 have F24:=z0s (st:=sDraw) l24 c24 k24
 have F25:=z0s (st:=sWhole) l25 c25 k25
 have F26:=z0s (st:=sAt) l26 c26 k26
 have F27:=z0s (st:=sAlike) l27 c27 k27
 have F28:=z0s (st:=z22) l28 c28 k28
 have F29:=z0s (st:=sTaker) l29 c29 k29
 have F30:=z0s (st:=sRefusal) l30 c30 k30
 have F31:=z0s (st:=sBound) l31 c31 k31
 have F32:=z0s (st:=sAgain) l32 c32 k32
 have F33:=z0s (st:=sNeeded) l33 c33 k33
 have F34:=z0s (st:=sHouse) l34 c34 k34
 have F35:=z0s (st:=sStroke) l35 c35 k35
 have F36:=z0s (st:=sCutIn) l36 c36 k36
 have F37:=z0s (st:=sCarryIn) l37 c37 k37
 have F38:=z0s (st:=sFull) l38 c38 k38
 have F39:=z0s (st:=sPutIn) l39 c39 k39
 have F40:=z0s (st:=sEndIn) l40 c40 k40
 have F41:=z0s (st:=z2u) l41 c41 k41
 have F42:=z0s (st:=sPages) l42 c42 k42
 have F43:=z0s (st:=sRoom) l43 c43 k43
 have F44:=z0s (st:=sCount) l44 c44 k44
 have F45:=z0s (st:=sLaw) l45 c45 k45
 have b1:=F1.binds (ps:=["self","pages","log"]) fun _ _ _ _ _ _ us hl=>match us,hl with | [_,_,_],_=>rfl
 have m1:Meth K C1 "__init__" f1:=⟨a1,i1,k1⟩
 have b2:=F2.binds (ps:=["self","stroke"]) fun _ _ _ _ _ _ us hl=>match us,hl with | [_,_],_=>rfl
 have m2:Meth K C1 "do_stroke" f2:=⟨a2,i2,k2⟩
 have b3:=F3.binds (ps:=["self","pages","room"]) fun _ _ _ _ _ _ us hl=>match us,hl with | [_,_,_],_=>rfl
 have m3:Meth K C2 "__init__" f3:=⟨a3,i3,k3⟩
 have b4:=F4.binds (ps:=["self"]) fun _ _ _ _ _ _ us hl=>match us,hl with | [_],_=>rfl
 have m4:Meth K C2 "begin" f4:=⟨a4,i4,k4⟩
 have b5:=F5.binds (ps:=["self","dealing","page","number"]) fun _ _ _ _ _ _ us hl=>match us,hl with | [_,_,_,_],_=>rfl
 have m5:Meth K C2 "put" f5:=⟨a5,i5,k5⟩
 have b6:=F6.binds (ps:=["self","dealing"]) fun _ _ _ _ _ _ us hl=>match us,hl with | [_,_],_=>rfl
 have m6:Meth K C2 "end" f6:=⟨a6,i6,k6⟩
 have b7:=F7.binds (ps:=["self","dealing"]) fun _ _ _ _ _ _ us hl=>match us,hl with | [_,_],_=>rfl
 have m7:Meth K C2 "drop" f7:=⟨a7,i7,k7⟩
 have b8:=F8.binds (ps:=["self","page"]) fun _ _ _ _ _ _ us hl=>match us,hl with | [_,_],_=>rfl
 have m8:Meth K C2 "look" f8:=⟨a8,i8,k8⟩
 have b9:=F9.binds (ps:=["self","page"]) fun _ _ _ _ _ _ us hl=>match us,hl with | [_,_],_=>rfl
 have m9:Meth K C2 "carry" f9:=⟨a9,i9,k9⟩
 have b10:=F10.binds (ps:=["self"]) fun _ _ _ _ _ _ us hl=>match us,hl with | [_],_=>rfl
 have m10:Meth K C2 "cut" f10:=⟨a10,i10,k10⟩
 have b11:=F11.binds (ps:=["self","dealing"]) fun _ _ _ _ _ _ us hl=>match us,hl with | [_,_],_=>rfl
 have m11:Meth K C2 "ask_dealing" f11:=⟨a11,i11,k11⟩
 have b12:=F12.binds (ps:=["self","page"]) fun _ _ _ _ _ _ us hl=>match us,hl with | [_,_],_=>rfl
 have m12:Meth K C2 "ask_page" f12:=⟨a12,i12,k12⟩
 have b13:=F13.binds (ps:=["self","dealing","page"]) fun _ _ _ _ _ _ us hl=>match us,hl with | [_,_,_],_=>rfl
 have m13:Meth K C2 "ask_free" f13:=⟨a13,i13,k13⟩
 have b14:=F14.binds (ps:=["self","more"]) fun _ _ _ _ _ _ us hl=>match us,hl with | [_,_],_=>rfl
 have m14:Meth K C2 "ask_room" f14:=⟨a14,i14,k14⟩
 have b15:=F15.binds (ps:=["self","more"]) fun _ _ _ _ _ _ us hl=>match us,hl with | [_,_],_=>rfl
 have m15:Meth K C2 "has_room" f15:=⟨a15,i15,k15⟩
 have b16:=F16.binds (ps:=["self"]) fun _ _ _ _ _ _ us hl=>match us,hl with | [_],_=>rfl
 have m16:Meth K C2 "make_room" f16:=⟨a16,i16,k16⟩
 have b17:=F17.binds (ps:=["self","dealing","page","number"]) fun _ _ _ _ _ _ us hl=>match us,hl with | [_,_,_,_],_=>rfl
 have m17:Meth K C2 "write_put" f17:=⟨a17,i17,k17⟩
 have b18:=F18.binds (ps:=["self","stroke"]) fun _ _ _ _ _ _ us hl=>match us,hl with | [_,_],_=>rfl
 have m18:Meth K C2 "make_stroke" f18:=⟨a18,i18,k18⟩
 have b19:=F19.binds (ps:=["log"]) fun _ _ _ _ _ _ us hl=>match us,hl with | [_],_=>rfl
 have m19:=PySem.W.mg_of X G a19
 have b20:=F20.binds (ps:=["pages","desk","log","dealings"]) fun _ _ _ _ _ _ us hl=>match us,hl with | [_,_,_,_],_=>rfl
 have m20:=PySem.W.mg_of X G a20
 have b21:=F21.binds (ps:=["house","deed"]) fun _ _ _ _ _ _ us hl=>match us,hl with | [_,_],_=>rfl
 have m21:=PySem.W.mg_of X G a21
 have b22:=F22.binds (ps:=["house","deed"]) fun _ _ _ _ _ _ us hl=>match us,hl with | [_,_],_=>rfl
 have m22:=PySem.W.mg_of X G a22
 have b23:=F23.binds (ps:=["pages","room","deeds"]) fun _ _ _ _ _ _ us hl=>match us,hl with | [_,_,_],_=>rfl
 have m23:=PySem.W.mg_of X G a23
 have b24:=F24.binds (ps:=["_law_number","_law_prime","_law_many"]) fun _ _ _ _ _ _ us hl=>match us,hl with | [_,_,_],_=>rfl
 have m24:=PySem.W.mg_of X G a24
 have b25:=F25.binds (ps:=["_law_found"]) fun _ _ _ _ _ _ us hl=>match us,hl with | [_],_=>rfl
 have m25:=PySem.W.mg_of X G a25
 have b26:=F26.binds (ps:=["_law_script","_law_k"]) fun _ _ _ _ _ _ us hl=>match us,hl with | [_,_],_=>rfl
 have m26:=PySem.W.mg_of X G a26
 have b27:=F27.binds (ps:=["_law_found","_law_due"]) fun _ _ _ _ _ _ us hl=>match us,hl with | [_,_],_=>rfl
 have m27:=PySem.W.mg_of X G a27
 have b28:=F28.binds (ps:=["_law_cells","_law_count"]) fun _ _ _ _ _ _ us hl=>match us,hl with | [_,_],_=>rfl
 have m28:=PySem.W.mg_of X G a28
 have b29:=F29.binds (ps:=["_law_puts","_law_page"]) fun _ _ _ _ _ _ us hl=>match us,hl with | [_,_],_=>rfl
 have m29:=PySem.W.mg_of X G a29
 have b30:=F30.binds (ps:=["_law_puts","_law_desk","_law_deed"]) fun _ _ _ _ _ _ us hl=>match us,hl with | [_,_,_],_=>rfl
 have m30:=PySem.W.mg_of X G a30
 have b31:=F31.binds (ps:=["_law_puts"]) fun _ _ _ _ _ _ us hl=>match us,hl with | [_],_=>rfl
 have m31:=PySem.W.mg_of X G a31
 have b32:=F32.binds (ps:=["_law_lines","_law_page"]) fun _ _ _ _ _ _ us hl=>match us,hl with | [_,_],_=>rfl
 have m32:=PySem.W.mg_of X G a32
 have b33:=F33.binds (ps:=["_law_pages","_law_desk","_law_log","_law_puts"]) fun _ _ _ _ _ _ us hl=>match us,hl with | [_,_,_,_],_=>rfl
 have m33:=PySem.W.mg_of X G a33
 have b34:=F34.binds (ps:=["_law_pages","_law_room"]) fun _ _ _ _ _ _ us hl=>match us,hl with | [_,_],_=>rfl
 have m34:=PySem.W.mg_of X G a34
 have b35:=F35.binds (ps:=["_law_house","_law_stroke"]) fun _ _ _ _ _ _ us hl=>match us,hl with | [_,_],_=>rfl
 have m35:=PySem.W.mg_of X G a35
 have b36:=F36.binds (ps:=["_law_house"]) fun _ _ _ _ _ _ us hl=>match us,hl with | [_],_=>rfl
 have m36:=PySem.W.mg_of X G a36
 have b37:=F37.binds (ps:=["_law_house","_law_page"]) fun _ _ _ _ _ _ us hl=>match us,hl with | [_,_],_=>rfl
 have m37:=PySem.W.mg_of X G a37
 have b38:=F38.binds (ps:=["_law_house","_law_more"]) fun _ _ _ _ _ _ us hl=>match us,hl with | [_,_],_=>rfl
 have m38:=PySem.W.mg_of X G a38
 have b39:=F39.binds (ps:=["_law_house","_law_dealing","_law_page","_law_number"]) fun _ _ _ _ _ _ us hl=>match us,hl with | [_,_,_,_],_=>rfl
 have m39:=PySem.W.mg_of X G a39
 have b40:=F40.binds (ps:=["_law_house","_law_deed"]) fun _ _ _ _ _ _ us hl=>match us,hl with | [_,_],_=>rfl
 have m40:=PySem.W.mg_of X G a40
 have b41:=F41.binds (ps:=["_law_house","_law_deed"]) fun _ _ _ _ _ _ us hl=>match us,hl with | [_,_],_=>rfl
 have m41:=PySem.W.mg_of X G a41
 have b42:=F42.binds (ps:=["_law_cell","_law_count"]) fun _ _ _ _ _ _ us hl=>match us,hl with | [_,_],_=>rfl
 have m42:=PySem.W.mg_of X G a42
 have b43:=F43.binds (ps:=["_law_head"]) fun _ _ _ _ _ _ us hl=>match us,hl with | [_],_=>rfl
 have m43:=PySem.W.mg_of X G a43
 have b44:=F44.binds (ps:=["_law_head"]) fun _ _ _ _ _ _ us hl=>match us,hl with | [_],_=>rfl
 have m44:=PySem.W.mg_of X G a44
 have TC1:z2a K mg C1:=⟨⟨pgC1,hdC1,poC1,saC1⟩,nC1_pages,nC1_log,  PySem.W.mg_of X G aC1⟩
 have MC1:Mk K C1 f1:=⟨mkC1,a1,i1,kcC1⟩
 have TC2:z13 K mg C2:=⟨⟨pgC2,hdC2,poC2,saC2⟩,nC2_cellar,nC2_desk,nC2_room,nC2_strokes,nC2_begins,nC2_puts,nC2_takers,nC2_bound,  PySem.W.mg_of X G aC2⟩
 have MC2:Mk K C2 f3:=⟨mkC2,a3,i3,kcC2⟩
 have XE:Exs K mg X1 X2 X3 X4:=⟨PySem.W.mg_of X G aX1,PySem.W.mg_of X G aX2,PySem.W.mg_of X G aX3,PySem.W.mg_of X G aX4,xX1,xX2,xX3,xX4⟩
 have XM:ExsM K mg X1 X2 X3 X4:=exs_mk XE eX1X1 eX1X2 eX1X3 eX1X4 eX2X1 eX2X2 eX2X3 eX2X4 eX3X1 eX3X2 eX3X3 eX3X4 eX4X1 eX4X2 eX4X3 eX4X4
 have B:Blt mg:=⟨PySem.W.mg_none_of X G z_list,PySem.W.mg_none_of X G z_tuple,PySem.W.mg_none_of X G z_int,PySem.W.mg_none_of X G z_str,PySem.W.mg_none_of X G z_bool,PySem.W.mg_none_of X G z_isinstance,PySem.W.mg_none_of X G z_len,PySem.W.mg_none_of X G z_range,PySem.W.mg_none_of X G z_enumerate,PySem.W.mg_none_of X G z_dict⟩
 have B2:Blt2 mg:=⟨PySem.W.mg_none_of X G z_sum,PySem.W.mg_none_of X G z_reversed⟩
 refine ⟨PySem.W.fnOf "law" "law" (z0f sLaw) (z0c sLaw) (z06 sLaw) .none kV45 dc45 pm45 an45 cd45 ct45,fun s v=>.of_eq rfl,fun base _ _=>?_⟩
 have G24:FnOk l.prog w K mg base CX0 1 f24 _ ["_law_number","_law_prime","_law_many"] spDraw:=ok_draw F24
 have G25:FnOk l.prog w K mg base CX0 1 f25 _ ["_law_found"] spWhole:=ok_whole F25 B
 have G26:FnOk l.prog w K mg base CX0 1 f26 _ ["_law_script","_law_k"] (spAt K):=ok_at F26 B
 have G32:FnOk l.prog w K mg base CX0 1 f32 _ ["_law_lines","_law_page"] spAgain:=ok_again F32
 have G35:FnOk l.prog w K mg base CX0 1 f35 _ ["_law_house","_law_stroke"] spStroke:=ok_stroke F35 B
 have G31:FnOk l.prog w K mg base CX0 1 f31 _ ["_law_puts"] spBound:=ok_bound F31 B B2
 have G29:FnOk l.prog w K mg base CX0 1 f29 _ ["_law_puts","_law_page"] spTaker:=ok_taker F29 B
 have G34:FnOk l.prog w K mg base CX0 1 f34 _ ["_law_pages","_law_room"] spHouse:=ok_house F34 B
 have G42:FnOk l.prog w K mg base CX0 1 f42 _ ["_law_cell","_law_count"] spPages:=ok_pages F42 B
 have G43:FnOk l.prog w K mg base CX0 1 f43 _ ["_law_head"] spRoom:=ok_room F43 B
 have G1:FnOk l.prog w K mg base CX0 1 f1 _ ["self","pages","log"] (spCInit C1):=ok_cinit F1 B TC1
 have G2:FnOk l.prog w K mg base CX0 1 f2 _ ["self","stroke"] (spDo C1):=ok_do F2 TC1
 have G15:FnOk l.prog w K mg base CX0 1 f15 _ ["self","more"] (spHasR C1 C2):=ok_hr F15 B TC2 TC1
 have G12:FnOk l.prog w K mg base (CX1 l.prog w) 1 f12 _ ["self","page"] (spAskP C1 C2 X2):=ok_ap F12 B TC2 XE
 have G11:FnOk l.prog w K mg base (CX1 l.prog w) 1 f11 _ ["self","dealing"] (spAskD C1 C2 X1):=ok_ad F11 TC2 XE
 have G13:FnOk l.prog w K mg base (CX1 l.prog w) 1 f13 _ ["self","dealing","page"] (spAskF C1 C2 X3):=ok_af F13 TC2 XE
 have G19:FnOk l.prog w K mg base CX0 1 f19 _ ["log"] spLast:=ok_last F19 B
 have G44:FnOk l.prog w K mg base CX0 1 f44 _ ["_law_head"] spCount:=ok_count F44 B
 have G27:FnOk l.prog w K mg base CX0 2 f27 _ ["_law_found","_law_due"] spAlike:=ok_alike F27 B G25 b25 k25 m25
 have G33:FnOk l.prog w K mg base CX0 2 f33 _ ["_law_pages","_law_desk","_law_log","_law_puts"] spNeeded:=ok_needed F33 B G32 b32 k32 m32
 have G37:FnOk l.prog w K mg base CX0 2 f37 _ ["_law_house","_law_page"] spCarryIn:=ok_carryin F37 B G35 b35 k35 m35
 have G39:FnOk l.prog w K mg base CX0 2 f39 _ ["_law_house","_law_dealing","_law_page","_law_number"] spPutIn:=ok_putin F39 B G35 b35 k35 m35
 have G30:FnOk l.prog w K mg base CX0 2 f30 _ ["_law_puts","_law_desk","_law_deed"] spRefusal:=ok_refusal F30 B G29 b29 k29 m29
 have G18:FnOk l.prog w K mg base CX0 2 f18 _ ["self","stroke"] (spMS C1 C2):=ok_ms F18 TC2 TC1 G2 b2 m2
 have G20:FnOk l.prog w K mg base CX0 2 f20 _ ["pages","desk","log","dealings"] spNeed:=ok_from F20 B G19 b19 k19 m19
 have G8:FnOk l.prog w K mg base (CX1 l.prog w) 2 f8 _ ["self","page"] (spLook C1 C2 X1 X2 X3 X4):=ok_look F8 TC2 G12 b12 m12
 have G28:FnOk l.prog w K mg base CX0 2 f28 _ ["_law_cells","_law_count"] spDeeds:=ok_deeds F28 B G24 b24 k24 m24
 have G36:FnOk l.prog w K mg base CX0 3 f36 _ ["_law_house"] spCutIn:=ok_cutin F36 B G33 b33 k33 m33 G35 b35 k35 m35
 have G40:FnOk l.prog w K mg base CX0 3 f40 _ ["_law_house","_law_deed"] spEndIn:=ok_endin F40 B B2 G35 b35 k35 m35 G39 b39 k39 m39
 have G17:FnOk l.prog w K mg base CX0 3 f17 _ ["self","dealing","page","number"] (spWP C1 C2):=ok_wp F17 TC2 G18 b18 m18
 have G10:FnOk l.prog w K mg base CX0 3 f10 _ ["self"] (spCut C1 C2):=ok_cut F10 B TC2 TC1 G18 b18 m18 G20 b20 k20 m20
 have G9:FnOk l.prog w K mg base (CX1 l.prog w) 3 f9 _ ["self","page"] (spCarry C1 C2 X2):=ok_carry F9 TC2 TC1 G18 b18 m18 G12 b12 m12
 have G6:FnOk l.prog w K mg base (CX1 l.prog w) 3 f6 _ ["self","dealing"] (spEnd C1 C2 X1 X2 X3 X4):=ok_end F6 B TC2 G11 b11 m11 G18 b18 m18
 have G3:FnOk l.prog w K mg base CX0 3 f3 _ ["self","pages","room"] (spHInit C1 C2):=ok_hinit F3 B TC2 TC1 MC1 G1 b1
 have G38:FnOk l.prog w K mg base CX0 4 f38 _ ["_law_house","_law_more"] spFull:=ok_full F38 B G31 b31 k31 m31 G37 b37 k37 m37 G36 b36 k36 m36
 have G16:FnOk l.prog w K mg base CX0 4 f16 _ ["self"] (spMakeR C1 C2):=ok_mr F16 B TC2 G9 b9 m9 G10 b10 m10
 have G7:FnOk l.prog w K mg base (CX1 l.prog w) 4 f7 _ ["self","dealing"] (spDrop C1 C2 X1 X2 X3 X4):=ok_drop F7 B B2.rev TC2 G11 b11 m11 G17 b17 m17 G6 b6 m6
 have G41:FnOk l.prog w K mg base CX0 5 f41 _ ["_law_house","_law_deed"] spAnswered:=ok_answered F41 B G38 b38 k38 m38 G30 b30 k30 m30 G39 b39 k39 m39 G40 b40 k40 m40 G37 b37 k37 m37 G36 b36 k36 m36
 have G14:FnOk l.prog w K mg base (CX1 l.prog w) 5 f14 _ ["self","more"] (spAskR C1 C2 X4):=ok_ar F14 TC2 XE G15 b15 m15 G16 b16 m16
 have G4:FnOk l.prog w K mg base (CX1 l.prog w) 6 f4 _ ["self"] (spBegin C1 C2 X1 X2 X3 X4):=ok_begin F4 TC2 G14 b14 m14
 have G5:FnOk l.prog w K mg base (CX1 l.prog w) 6 f5 _ ["self","dealing","page","number"] (spPut C1 C2 X1 X2 X3 X4):=ok_put F5 TC2 G11 b11 m11 G12 b12 m12 G13 b13 m13 G14 b14 m14 G17 b17 m17
 have G21:FnOk l.prog w K mg base (CX1 l.prog w) 7 f21 _ ["house","deed"] (spDoDeed C1 C2 X1 X2 X3 X4):=ok_dd F21 TC2 G4 b4 m4 G8 b8 m8 G5 b5 m5 G6 b6 m6 G7 b7 m7 G9 b9 m9 G10 b10 m10
 have G22:FnOk l.prog w K mg base CX0 8 f22 _ ["house","deed"] (spAnswer C1 C2):=ok_answer F22 XM G21 b21 k21 m21
 have G23:FnOk l.prog w K mg base CX0 9 f23 _ ["pages","room","deeds"] spStrokesOf:=ok_strokesof F23 B TC2 MC2 G3 b3 G22 b22 k22 m22
 exact ok_law F45 B G26 b26 k26 m26 G44 b44 k44 m44 G43 b43 k43 m43 G42 b42 k42 m42 G28 b28 k28 m28 G23 b23 k23 m23 G27 b27 k27 m27 G34 b34 k34 m34 G41 b41 k41 m41
theorem walk {l:PySem.W.OpenLaw} {q:Program} {loose:List Str} {XP:(Str→Option Value)→Heap→Prop} {YP:World→Heap→Prop} {d:DefRec} {K:Params→PySem.W.Frag} (hn:l.most=some 63) (hdf:d.params.defaults=[])
  (hY:∀ (w:World) (h:Heap),YP w h→(K w.params).In h)
  (F:∀ (w:World) (mg:Str→Option Value) (fa:Addr) (h:Heap),(K w.params).In h→h.Ns mainGlobals mg→mg d.name=some (.ref fa) →
   ∃ fd:FuncData,(∀ (s:Shared) (u:Value),BindsTo s fd ⟨[u],[]⟩ [("_law_script",u)])∧∀ base:Heap,(K w.params).In base→base.Ns mainGlobals mg→FnOk l.prog w (K w.params) mg base CX0 10 fa fd ["_law_script"] (spLaw (K w.params))) :
  PySem.W.WalkO q loose XP YP l.row.toRowW d [] (fun f vs=>PySem.call f vs) :=
 L2.walk_of (n:=63) (k:=10) (x:="_law_script") (CX:=fun _=>CX0) (sp:=fun w=>spLaw (K w.params)) hn (by decide) hdf ⟨rfl,by decide,by decide⟩ hY F (fun _ _ a ns hl hO hS=>⟨a,ns,rfl,hS,hl,fun _=>rfl⟩) fun _ _ _ _ _ z=>z
end K10
open PySem PySem.W PyProof.Rows
def PySem.W.Fast.tw11412007094781552939:Nat:=0
def PySem.W.Fast.tw6740354146058484265:Nat:=0
def PySem.W.Fast.tw14469720436913111452:Nat:=0
def PySem.W.Fast.tw4892556876657930165:Nat:=0
def PySem.W.Fast.tw10288314211522212643:Nat:=0
def PySem.W.Fast.tw7655689463637042564:Nat:=0
def PySem.W.Fast.tw3817850780898808767:Nat:=0
def PySem.W.Fast.tw5884770175937510251:Nat:=0
def PySem.W.Fast.tw12444325384703722893:Nat:=0
def PySem.W.Fast.tw10723627407888764800:Nat:=0
def PySem.W.Fast.tw3198869916355441607:Nat:=0
def PySem.W.Fast.tw14168639965692155933:Nat:=0
def PySem.W.Fast.tw2791384358377887479:Nat:=0
def PySem.W.Fast.tw4261193247543030672:Nat:=0
def PySem.W.Fast.tw5509041646242351802:Nat:=0
def PySem.W.Fast.tw16633979997760627795:Nat:=0
def PySem.W.Fast.tw15352994483341202332:Nat:=0
def PySem.W.Fast.tw5253162657382357727:Nat:=0
def PySem.W.Fast.tw17704990941840386675:Nat:=0
def PySem.W.Fast.tw12960449495633336873:Nat:=0
def PySem.W.Fast.tw526179317047034861:Nat:=0
def PySem.W.Fast.tw13733141976802313362:Nat:=0
def PySem.W.Fast.tw13425916691342683031:Nat:=0
def PySem.W.Fast.tw15677918369101509475:Nat:=0
def PySem.W.Fast.tw2140775368341377570:Nat:=0
def PySem.W.Fast.tw2276341233511386331:Nat:=0
def PySem.W.Fast.tw13146549103999426511:Nat:=0
def PySem.W.Fast.tw13068662752082396321:Nat:=0
def PySem.W.Fast.tw9570775714055760297:Nat:=0
def PySem.W.Fast.tw10324792319768178988:Nat:=0
def PySem.W.Fast.tw6438563724171137883:Nat:=0
def PySem.W.Fast.tw4175817245553449130:Nat:=0
def PySem.W.Fast.tw5861308996189966604:Nat:=0
def PySem.W.Fast.tw2761229869476697953:Nat:=0
def PySem.W.Fast.tw12720091665617930255:Nat:=0
def PySem.W.Fast.tw12159180317267563386:Nat:=0
def PySem.W.Fast.tw6695003650339112238:Nat:=0
def PySem.W.Fast.tw3504617499046023436:Nat:=0
def PySem.W.Fast.tw6180633697831448538:Nat:=0
def PySem.W.Fast.tw12973337254035276164:Nat:=0
def PySem.W.Fast.tw10463559305417512917:Nat:=0
def PySem.W.Fast.tw12681085504460151285:Nat:=0
def PySem.W.Fast.tw10870911077417042642:Nat:=0
def PySem.W.Fast.tw17926553506286524793:Nat:=0
def PySem.W.Fast.tw8560278689282129265:Nat:=0
def PySem.W.Fast.tw14640666106318251291:Nat:=0
def PySem.W.Fast.tw2982460475743579115:Nat:=0
def PySem.W.Fast.tw13334235797226961348:Nat:=0
def PySem.W.Fast.tw13017632412661968890:Nat:=0
def PySem.W.Fast.tw4238544015583986940:Nat:=0
def PySem.W.Fast.tw5170469631772070247:Nat:=0
def PySem.W.Fast.tw11958443354822997900:Nat:=0
def PySem.W.Fast.tw16823470942668610755:Nat:=0
def PySem.W.Fast.tw10595690608245678829:Nat:=0
def PySem.W.Fast.tw5776285003912713653:Nat:=0
def PySem.W.Fast.tw3547451350903655535:Nat:=0
def PySem.W.Fast.tw12349711003130019946:Nat:=0
def PySem.W.Fast.tw14829180657299197938:Nat:=0
def PySem.W.Fast.tw14975331933705452193:Nat:=0
def PySem.W.Fast.tw1619476575044277216:Nat:=0
def PySem.W.Fast.tw11270990652659391930:Nat:=0
def PySem.W.Fast.tw255815990044258877:Nat:=0
def PySem.W.Fast.tw4784432786097424537:Nat:=0
def PySem.W.Fast.tw13145426880012391793:Nat:=0
def PySem.W.Fast.tw18317541213073743328:Nat:=0
def PySem.W.Fast.tw7287452812382121603:Nat:=0
def PySem.W.Fast.tw15427076319928386953:Nat:=0
def PySem.W.Fast.tw11086645963941145158:Nat:=0
def PySem.W.Fast.tw12950162060619698597:Nat:=0
def PySem.W.Fast.tw10062864334045181210:Nat:=0
def PySem.W.Fast.tw198389111620373111:Nat:=0
def PySem.W.Fast.tw981080023085043744:Nat:=0
def PySem.W.Fast.tw7872197401593886392:Nat:=0
def PySem.W.Fast.tw1985213797789874196:Nat:=0
def PySem.W.Fast.tw4335160866402558211:Nat:=0
def PySem.W.Fast.tw8974397676839822464:Nat:=0
def PySem.W.Fast.tw5928277370089328700:Nat:=0
def PySem.W.Fast.tw16563579118066398070:Nat:=0
def PySem.W.Fast.tw7849148742088266422:Nat:=0
def PySem.W.Fast.tw11171276233291979030:Nat:=0
def PySem.W.Fast.tw16899608855600423572:Nat:=0
def PySem.W.Fast.tw15388559012867668735:Nat:=0
def PySem.W.Fast.tw12041603356587495199:Nat:=0
def PySem.W.Fast.tw13054261937905883904:Nat:=0
def PySem.W.Fast.tw12633511562548807077:Nat:=0
def PySem.W.Fast.tw14767190654197363875:Nat:=0
def PySem.W.Fast.tw4036809733120305436:Nat:=0
def PySem.W.Fast.tw11560403552364942059:Nat:=0
def PySem.W.Fast.tw17085741791574549792:Nat:=0
def PySem.W.Fast.tw11624322543300755508:Nat:=0
def PySem.W.Fast.tw7824442760940572348:Nat:=0
def PySem.W.Fast.tw11437945715179382172:Nat:=0
def PySem.W.Fast.tw12800528479987020041:Nat:=0
def PySem.W.Fast.tw15636571069799800521:Nat:=0
def PySem.W.Fast.tw16112674824682362010:Nat:=0
def PySem.W.Fast.tw5945860705056211834:Nat:=0
def PySem.W.Fast.tw14117968750587739435:Nat:=0
def PySem.W.Fast.tw9919756452898709165:Nat:=0
def PySem.W.Fast.tw6690567938803636469:Nat:=0
def PySem.W.Fast.tw11445832251606177398:Nat:=0
def PySem.W.Fast.tw12260846245361093827:Nat:=0
def PySem.W.Fast.tw4033772286030713620:Nat:=0
def PySem.W.Fast.tw12202969673753816899:Nat:=0
def PySem.W.Fast.tw2365207687204326163:Nat:=0
def PySem.W.Fast.tw3619925342601690091:Nat:=0
def PySem.W.Fast.tw11928714323841243415:Nat:=0
def PySem.W.Fast.tw1032756269946040753:Nat:=0
def PySem.W.Fast.tw16550364980875415952:Nat:=0
def PySem.W.Fast.tw9676503211421695738:Nat:=0
def PySem.W.Fast.tw12834950743503247592:Nat:=0
def PySem.W.Fast.tw4635120694845877304:Nat:=0
def PySem.W.Fast.tw1526524957056915741:Nat:=0
def PySem.W.Fast.tw5020011632329691871:Nat:=0
def PySem.W.Fast.tw1357152264318062444:Nat:=0
def PySem.W.Fast.tw790891341149795062:Nat:=0
def PySem.W.Fast.tw1425070655447246501:Nat:=0
def PySem.W.Fast.tw16601466410346323315:Nat:=0
def PySem.W.Fast.tw8417684967734461173:Nat:=0
def PySem.W.Fast.tw7969726250720862863:Nat:=0
def PySem.W.Fast.tw14696054196417619814:Nat:=0
def PySem.W.Fast.tw9201961551808291620:Nat:=0
def PySem.W.Fast.tw438080394120984098:Nat:=0
def PySem.W.Fast.tw13566909949433186798:Nat:=0
def PySem.W.Fast.tw9473465244031786978:Nat:=0
def PySem.W.Fast.tw13873715104264600979:Nat:=0
def PySem.W.Fast.tw6058231889671071579:Nat:=0
def PySem.W.Fast.tw7019177056566008585:Nat:=0
def PySem.W.Fast.tw7725185268111028105:Nat:=0
def PySem.W.Fast.tw4625492380227490609:Nat:=0
def PySem.W.Fast.tw5327339740575768293:Nat:=0
def PySem.W.Fast.tw17747650362494009232:Nat:=0
def PySem.W.Fast.tw13414822040661497707:Nat:=0
def PySem.W.Fast.tw14933643568861337615:Nat:=0
def PySem.W.Fast.tw1687231604973820051:Nat:=0
def PySem.W.Fast.tw9779182176689032575:Nat:=0
def PySem.W.Fast.tw619139557377029538:Nat:=0
def PySem.W.Fast.tw15590076425870872987:Nat:=0
def PySem.W.Fast.tw1276921065464447949:Nat:=0
def PySem.W.Fast.tw8536115358934814143:Nat:=0
def PySem.W.Fast.tw2052887011475572990:Nat:=0
def PySem.W.Fast.tw1954465008993030356:Nat:=0
def PySem.W.Fast.tw7173518150431200621:Nat:=0
def PySem.W.Fast.tw9504541065367353546:Nat:=0
def PySem.W.Fast.tw11857059798709438043:Nat:=0
def PySem.W.Fast.tw858810535597903459:Nat:=0
def PySem.W.Fast.tw3847216211747666908:Nat:=0
def PySem.W.Fast.tw14455798375023625428:Nat:=0
def PySem.W.Fast.tw2313697428861514620:Nat:=0
def PySem.W.Fast.tw573044589154809527:Nat:=0
def PySem.W.Fast.tw7684649480313487189:Nat:=0
def PySem.W.Fast.tw17705172016777005376:Nat:=0
def PySem.W.Fast.tw3637974311125720849:Nat:=0
def PySem.W.Fast.tw17586364082795083205:Nat:=0
def PySem.W.Fast.tw11623591495388943321:Nat:=0
def PySem.W.Fast.tw12541257127019552085:Nat:=0
def PySem.W.Fast.tw9331212977702120190:Nat:=0
def PySem.W.Fast.tw5577601877354350845:Nat:=0
def PySem.W.Fast.tw14370160963142000762:Nat:=0
def PySem.W.Fast.tw15992685381553551805:Nat:=0
def PySem.W.Fast.tw6108860035376079418:Nat:=0
def PySem.W.Fast.tw2655539538359132016:Nat:=0
def PySem.W.Fast.tw8232031195630679281:Nat:=0
def PySem.W.Fast.tw16245869907835864607:Nat:=0
def PySem.W.Fast.tw923317304574303592:Nat:=0
def PySem.W.Fast.tw17711046192415390864:Nat:=0
def PySem.W.Fast.tw11324555621712035832:Nat:=0
def PySem.W.Fast.tw11452746138150672868:Nat:=0
def PySem.W.Fast.tw4835455666165055786:Nat:=0
def PySem.W.Fast.tw14300162963086317501:Nat:=0
def PySem.W.Fast.tw17362224257723710713:Nat:=0
def PySem.W.Fast.tw6517811680136883508:Nat:=0
def PySem.W.Fast.tw7803654969805639351:Nat:=0
def PySem.W.Fast.tw17082336024191695180:Nat:=0
def PySem.W.Fast.tw11192097488889058997:Nat:=0
def PySem.W.Fast.tw8849286902877477119:Nat:=0
def PySem.W.Fast.tw15386662855939346752:Nat:=0
def PySem.W.Fast.tw7084121087513064601:Nat:=0
def PySem.W.Fast.tw16026812686682340890:Nat:=0
def PySem.W.Fast.tw11319562291797048350:Nat:=0
def PySem.W.Fast.tw14109495032985927497:Nat:=0
def PySem.W.Fast.tw17134882196312760163:Nat:=0
def PySem.W.Fast.tw15166253251797300354:Nat:=0
def PySem.W.Fast.tw8532743988881424864:Nat:=0
def PySem.W.Fast.tw16499988747840030182:Nat:=0
def PySem.W.Fast.tw11554486115265701014:Nat:=0
def PySem.W.Fast.tw9846994184584196759:Nat:=0
def PySem.W.Fast.tw10479179521336766452:Nat:=0
def PySem.W.Fast.tw7186234274068054528:Nat:=0
def PySem.W.Fast.tw3353481587288408064:Nat:=0
def PySem.W.Fast.tw3608591825884797165:Nat:=0
def PySem.W.Fast.tw10859174501971474162:Nat:=0
def PySem.W.Fast.tw13251624162880758059:Nat:=0
def PySem.W.Fast.tw10758241641295134059:Nat:=0
def PySem.W.Fast.tw16856551934898886444:Nat:=0
def PySem.W.Fast.tw15372354878711521932:Nat:=0
def PySem.W.Fast.tw3744352400496577125:Nat:=0
def PySem.W.Fast.tw3261567192507883670:Nat:=0
def PySem.W.Fast.tw6514721648714631708:Nat:=0
def PySem.W.Fast.tw531865172287994571:Nat:=0
def PySem.W.Fast.tw1115490745950761860:Nat:=0
def PySem.W.Fast.tw13384649773077329493:Nat:=0
def PySem.W.Fast.tw17222771641692173369:Nat:=0
def PySem.W.Fast.tw11988314151967041993:Nat:=0
def PySem.W.Fast.tw4134947850086595912:Nat:=0
def PySem.W.Fast.tw10474760912656001076:Nat:=0
def PySem.W.Fast.tw17385026876208631192:Nat:=0
def PySem.W.Fast.tw12848944496519226204:Nat:=0
def PySem.W.Fast.tw6576629765331386149:Nat:=0
def PySem.W.Fast.tw6282675705476208032:Nat:=0
def PySem.W.Fast.tw7555056712970251222:Nat:=0
def PySem.W.Fast.tw10863395681843314506:Nat:=0
def PySem.W.Fast.tw7380935081600252065:Nat:=0
def PySem.W.Fast.tw1581651908992702618:Nat:=0
def PySem.W.Fast.tw12723933250196076924:Nat:=0
def PySem.W.Fast.tw16037784888489586745:Nat:=0
def PySem.W.Fast.tw6784015072280363929:Nat:=0
def PySem.W.Fast.tw8551691748595123236:Nat:=0
def PySem.W.Fast.tw3786331498207197311:Nat:=0
def PySem.W.Fast.tw10819517102227031447:Nat:=0
def PySem.W.Fast.tw1235242610873626124:Nat:=0
def PySem.W.Fast.tw4609908979405972008:Nat:=0
def PySem.W.Fast.tw2706987131491547624:Nat:=0
def PySem.W.Fast.tw14515680566221740385:Nat:=0
def PySem.W.Fast.tw15974997398034078889:Nat:=0
def PySem.W.Fast.tw1528617518643576069:Nat:=0
def PySem.W.Fast.tw8816898114915147776:Nat:=0
def PySem.W.Fast.tw18000909181260426290:Nat:=0
def PySem.W.Fast.tw16667286030428023849:Nat:=0
def PySem.W.Fast.tw8249147671043393622:Nat:=0
def PySem.W.Fast.tw7868894316184243860:Nat:=0
def PySem.W.Fast.tw8903808322472525471:Nat:=0
def PySem.W.Fast.tw7638243073158003869:Nat:=0
def PySem.W.Fast.tw11384648407703173311:Nat:=0
def PySem.W.Fast.tw16989259334759491619:Nat:=0
def PySem.W.Fast.tw4469066482408960804:Nat:=0
def PySem.W.Fast.tw2351832925982818901:Nat:=0
def PySem.W.Fast.tw31094922887652139:Nat:=0
def PySem.W.Fast.tw15894560103137625814:Nat:=0
def PySem.W.Fast.tw12554173925923526214:Nat:=0
def PySem.W.Fast.tw15074542378789208183:Nat:=0
def PySem.W.Fast.tw16840827681523647334:Nat:=0
def PySem.W.Fast.tw7041541414732705119:Nat:=0
def PySem.W.Fast.tw2456559044160701142:Nat:=0
def PySem.W.Fast.tw16305748262788582589:Nat:=0
def PySem.W.Fast.tw11312658990862274732:Nat:=0
def PySem.W.Fast.tw10609102182575209859:Nat:=0
def PySem.W.Fast.tw13934289987705233250:Nat:=0
def PySem.W.Fast.tw11237609065383402909:Nat:=0
def PySem.W.Fast.tw17742547505837050566:Nat:=0
def PySem.W.Fast.tw4623523521654464135:Nat:=0
def PySem.W.Fast.tw6277687124048013719:Nat:=0
def PySem.W.Fast.tw13941702112263621513:Nat:=0
def PySem.W.Fast.tw395078977057496429:Nat:=0
def PySem.W.Fast.tw5836865791492309278:Nat:=0
def PySem.W.Fast.tw2837355465317179489:Nat:=0
def PySem.W.Fast.tw1309346042839137801:Nat:=0
def PySem.W.Fast.tw4657920724954718530:Nat:=0
def PySem.W.Fast.tw2678442357332624413:Nat:=0
def PySem.W.Fast.tw13547869602905345223:Nat:=0
def PySem.W.Fast.tw961994161516749465:Nat:=0
def PySem.W.Fast.tw5832573912482296409:Nat:=0
def PySem.W.Fast.tw5479208539531968793:Nat:=0
def PySem.W.Fast.tw17193016201486557010:Nat:=0
def PySem.W.Fast.tw3349726726048129249:Nat:=0
def PySem.W.Fast.tw7012591074543328888:Nat:=0
def PySem.W.Fast.tw4226842622019797155:Nat:=0
def PySem.W.Fast.tw4782518789531852732:Nat:=0
def PySem.W.Fast.tw16785636325933980948:Nat:=0
def PySem.W.Fast.tw2685152788950560367:Nat:=0
def PySem.W.Fast.tw1273996188254743540:Nat:=0
def PySem.W.Fast.tw1022987460350918777:Nat:=0
def PySem.W.Fast.tw8327400577346438693:Nat:=0
def PySem.W.Fast.tw3877838195517559262:Nat:=0
def PySem.W.Fast.tw7615399136921524430:Nat:=0
def PySem.W.Fast.tw8785293584584014158:Nat:=0
def PySem.W.Fast.tw12451454203627532130:Nat:=0
def PySem.W.Fast.tw12684402159898506944:Nat:=0
def PySem.W.Fast.tw15471201716023160916:Nat:=0
def PySem.W.Fast.tw3642541457300694971:Nat:=0
def PySem.W.Fast.tw9192254055094203340:Nat:=0
def PySem.W.Fast.tw804371988226000529:Nat:=0
def PySem.W.Fast.tw10628452967291125090:Nat:=0
def PySem.W.Fast.tw7360170094563451008:Nat:=0
def PySem.W.Fast.tw17842058236902939601:Nat:=0
def PySem.W.Fast.tw14853734104625414702:Nat:=0
def PySem.W.Fast.tw7929373173373412974:Nat:=0
def PySem.W.Fast.tw10085992542724208128:Nat:=0
def PySem.W.Fast.tw10135685949547317582:Nat:=0
def PySem.W.Fast.tw5199794268621033065:Nat:=0
def PySem.W.Fast.tw15584296305929255288:Nat:=0
def PySem.W.Fast.tw6451495162383286660:Nat:=0
def PySem.W.Fast.tw54326393855912228:Nat:=0
def PySem.W.Fast.tw517245287919674341:Nat:=0
def PySem.W.Fast.tw1030181584683866281:Nat:=0
def PySem.W.Fast.tw12203189153958206243:Nat:=0
def PySem.W.Fast.tw15167340539354617268:Nat:=0
def PySem.W.Fast.tw2350359275484361585:Nat:=0
def PySem.W.Fast.tw9438040365958981867:Nat:=0
def PySem.W.Fast.tw8349925126811690218:Nat:=0
def PySem.W.Fast.tw15204683927476721336:Nat:=0
def PySem.W.Fast.tw17044380392293177153:Nat:=0
def PySem.W.Fast.tw4794031896872450917:Nat:=0
def PySem.W.Fast.tw3623808300827193065:Nat:=0
def PySem.W.Fast.tw11908994991177848451:Nat:=0
def PySem.W.Fast.tw17252671473894211625:Nat:=0
def PySem.W.Fast.tw17711877080031185203:Nat:=0
def PySem.W.Fast.tw5145793344804958092:Nat:=0
def PySem.W.Fast.tw5109138110169739328:Nat:=0
def PySem.W.Fast.tw16154541049198779756:Nat:=0
def PySem.W.Fast.tw4014332111213828935:Nat:=0
def PySem.W.Fast.tw5084833866565401141:Nat:=0
def PySem.W.Fast.tw10225630946498026799:Nat:=0
def PySem.W.Fast.tw1878510481215433255:Nat:=0
def PySem.W.Fast.tw7420192063343842404:Nat:=0
def PySem.W.Fast.tw12595596586786204546:Nat:=0
def PySem.W.Fast.tw352520757233021494:Nat:=0
def PySem.W.Fast.tw12428683255376162556:Nat:=0
def PySem.W.Fast.tw15841754186385013205:Nat:=0
def PySem.W.Fast.tw2568845674171527989:Nat:=0
def PySem.W.Fast.tw11799744952586755753:Nat:=0
def PySem.W.Fast.tw14157737336826165731:Nat:=0
def PySem.W.Fast.tw5532419599187863165:Nat:=0
def PySem.W.Fast.tw3758124167763231612:Nat:=0
def PySem.W.Fast.tw8421233921988758474:Nat:=0
def PySem.W.Fast.tw5283083856488667060:Nat:=0
def PySem.W.Fast.tw15233867127252194161:Nat:=0
def PySem.W.Fast.tw9660491120638577484:Nat:=0
def PySem.W.Fast.tw14950443922141854986:Nat:=0
def PySem.W.Fast.tw2429269230730143413:Nat:=0
def PySem.W.Fast.tw2532925792056167506:Nat:=0
def PySem.W.Fast.tw6596254606834086879:Nat:=0
def PySem.W.Fast.tw15106991740884152879:Nat:=0
def PySem.W.Fast.tw10599109305647294299:Nat:=0
def PySem.W.Fast.tw4969988632040357346:Nat:=0
def PySem.W.Fast.tw5091126930216234593:Nat:=0
def PySem.W.Fast.tw8117020205642237292:Nat:=0
def PySem.W.Fast.tw14855153202978230509:Nat:=0
def PySem.W.Fast.tw4690920382839514426:Nat:=0
def PySem.W.Fast.tw7574614922338363792:Nat:=0
def PySem.W.Fast.tw11255260207955408620:Nat:=0
def PySem.W.Fast.tw2894593710723190605:Nat:=0
def PySem.W.Fast.tw4741896926357328809:Nat:=0
def PySem.W.Fast.tw14106728592875659511:Nat:=0
def PySem.W.Fast.tw4724718926739371823:Nat:=0
def PySem.W.Fast.tw8593410650915161783:Nat:=0
def PySem.W.Fast.tw4864340102797657066:Nat:=0
def PySem.W.Fast.tw142192542411285754:Nat:=0
def PySem.W.Fast.tw3750607324840146166:Nat:=0
def PySem.W.Fast.tw1581619442119444929:Nat:=0
def PySem.W.Fast.tw3582453314836528363:Nat:=0
def PySem.W.Fast.tw7475193795217175141:Nat:=0
def PySem.W.Fast.tw7553154724121474163:Nat:=0
def PySem.W.Fast.tw16642886877101283404:Nat:=0
def PySem.W.Fast.tw15238368374042832594:Nat:=0
def PySem.W.Fast.tw1730031391541505551:Nat:=0
def PySem.W.Fast.tw4604542768804606597:Nat:=0
def PySem.W.Fast.tw14045306507651886703:Nat:=0
def PySem.W.Fast.tw17100092657911641481:Nat:=0
def PySem.W.Fast.tw16450783396288656189:Nat:=0
def PySem.W.Fast.tw2817964774663384313:Nat:=0
def PySem.W.Fast.tw6562052917129192166:Nat:=0
def PySem.W.Fast.tw1675888458303598863:Nat:=0
def PySem.W.Fast.tw5965663945836267545:Nat:=0
def PySem.W.Fast.tw872140939191077832:Nat:=0
def PySem.W.Fast.tw809363653108861630:Nat:=0
def PySem.W.Fast.tw271397523788964993:Nat:=0
def PySem.W.Fast.tw7596053869040777465:Nat:=0
def PySem.W.Fast.tw3384054066141456199:Nat:=0
def PySem.W.Fast.tw17509003116592669704:Nat:=0
def PySem.W.Fast.tw10778069151221694171:Nat:=0
def PySem.W.Fast.tw11038912582553184559:Nat:=0
def PySem.W.Fast.tw13902444968521392731:Nat:=0
def PySem.W.Fast.tw14308006058566654219:Nat:=0
def PySem.W.Fast.tw16934748971535746390:Nat:=0
def PySem.W.Fast.tw3216232236914058920:Nat:=0
def PySem.W.Fast.tw4388809322121569211:Nat:=0
def PySem.W.Fast.tw7999560714063544578:Nat:=0
def PySem.W.Fast.tw3460145571453746470:Nat:=0
def PySem.W.Fast.tw8424711215747430103:Nat:=0
def PySem.W.Fast.tw1184973517880240268:Nat:=0
def PySem.W.Fast.tw9111902726039784093:Nat:=0
def PySem.W.Fast.tw9692443832649975490:Nat:=0
def PySem.W.Fast.tw16856541481770373550:Nat:=0
def PySem.W.Fast.tw5271051786416911180:Nat:=0
def PySem.W.Fast.tw12776311107961933610:Nat:=0
def PySem.W.Fast.tw9350481504691020683:Nat:=0
def PySem.W.Fast.tw13132098327758390248:Nat:=0
def PySem.W.Fast.tw4234686781500844981:Nat:=0
def PySem.W.Fast.tw16931923547763413057:Nat:=0
def PySem.W.Fast.tw12425519508467233368:Nat:=0
def PySem.W.Fast.tw17336013072817846657:Nat:=0
def PySem.W.Fast.tw8226233689147134627:Nat:=0
def PySem.W.Fast.tw4387278926933030893:Nat:=0
def PySem.W.Fast.tw14526342406572863967:Nat:=0
def PySem.W.Fast.tw9518000118976269783:Nat:=0
def PySem.W.Fast.tw3945639592844679696:Nat:=0
def PySem.W.Fast.tw9798912398026843060:Nat:=0
def PySem.W.Fast.tw6000189020257187686:Nat:=0
def PySem.W.Fast.tw18277942200550693370:Nat:=0
def PySem.W.Fast.tw6716824825208304768:Nat:=0
def PySem.W.Fast.tw2919340943373953466:Nat:=0
def PySem.W.Fast.tw16063134779713209060:Nat:=0
def PySem.W.Fast.tw12630066232595504600:Nat:=0
def PySem.W.Fast.tw17370745283758167221:Nat:=0
def PySem.W.Fast.tw4970766278791395641:Nat:=0
def PySem.W.Fast.tw16432374962060655493:Nat:=0
def PySem.W.Fast.tw11124654023593065029:Nat:=0
def PySem.W.Fast.tw6511750168067212141:Nat:=0
def PySem.W.Fast.tw7093620008624709234:Nat:=0
def PySem.W.Fast.tw18329411842363742242:Nat:=0
def PySem.W.Fast.tw12969708029011753364:Nat:=0
def PySem.W.Fast.tw10813282308774639759:Nat:=0
def PySem.W.Fast.tw16767669648260209241:Nat:=0
def PySem.W.Fast.tw17410971182988041747:Nat:=0
def PySem.W.Fast.tw3186073091763851582:Nat:=0
def PySem.W.Fast.tw10636032685706148794:Nat:=0
def PySem.W.Fast.tw4403580741191832573:Nat:=0
def PySem.W.Fast.tw5664457242439793862:Nat:=0
def PySem.W.Fast.tw10133385770538768477:Nat:=0
def PySem.W.Fast.tw2889663799488694797:Nat:=0
def PySem.W.Fast.tw11566324939310063975:Nat:=0
def PySem.W.Fast.tw7680356713396149079:Nat:=0
def PySem.W.Fast.tw14059106356018888923:Nat:=0
def PySem.W.Fast.tw18219578214909775156:Nat:=0
def PySem.W.Fast.tw17408254352568354039:Nat:=0
def PySem.W.Fast.tw13107886090876176276:Nat:=0
def PySem.W.Fast.tw10400545232897982861:Nat:=0
def PySem.W.Fast.tw10718431445643001581:Nat:=0
def PySem.W.Fast.tw6900683172403193620:Nat:=0
def PySem.W.Fast.tw7248186248025164295:Nat:=0
def PySem.W.Fast.tw4850087166628888415:Nat:=0
def PySem.W.Fast.tw8562397388574437198:Nat:=0
def PySem.W.Fast.tw9863307073358130613:Nat:=0
def PySem.W.Fast.tw9290020193697686390:Nat:=0
def PySem.W.Fast.tw10993099671894273042:Nat:=0
def PySem.W.Fast.tw17404375279210095622:Nat:=0
def PySem.W.Fast.tw7293881639697909404:Nat:=0
def PySem.W.Fast.tw2003548507506074087:Nat:=0
def PySem.W.Fast.tw17919636108185225246:Nat:=0
def PySem.W.Fast.tw17198433102686782769:Nat:=0
def PySem.W.Fast.tw1641354861892019722:Nat:=0
def PySem.W.Fast.tw3683968285183074879:Nat:=0
def PySem.W.Fast.tw17332770903439459978:Nat:=0
def PySem.W.Fast.tw7494301862873112173:Nat:=0
def PySem.W.Fast.tw5475435455506729995:Nat:=0
def PySem.W.Fast.tw16401380988497667714:Nat:=0
def PySem.W.Fast.tw5318120991675812762:Nat:=0
def PySem.W.Fast.tw142773456739664874:Nat:=0
def PySem.W.Fast.tw5417150551635090488:Nat:=0
def PySem.W.Fast.tw17644487720839168266:Nat:=0
def PySem.W.Fast.tw6322396022112519532:Nat:=0
def PySem.W.Fast.tw10280851833782250939:Nat:=0
def PySem.W.Fast.tw17378203113760709870:Nat:=0
def PySem.W.Fast.tw13507518550397388572:Nat:=0
def PySem.W.Fast.tw16652967601160882932:Nat:=0
def PySem.W.Fast.tw5303643410123863207:Nat:=0
def PySem.W.Fast.tw3291990536332141631:Nat:=0
def PySem.W.Fast.tw3524548555361951098:Nat:=0
def PySem.W.Fast.tw6447079219866769116:Nat:=0
def PySem.W.Fast.tw3566363954011587737:Nat:=0
def PySem.W.Fast.tw16555974546369433323:Nat:=0
def PySem.W.Fast.tw16335837135100648224:Nat:=0
set_option maxRecDepth 100000 in
set_option maxHeartbeats 0 in
theorem PySem.Challenge.cw_quillhouse_k10_whole_strokes_of_each_dee_holds : PySem.Challenge.rw_quillhouse_k10_whole_strokes_of_each_dee.Holds := by
 w_on; o_law; k_head; (case hw=>w_witness2)
 k_fill
 refine K10.walk (l:=PySem.Challenge.rw_quillhouse_k10_whole_strokes_of_each_dee) rfl rfl (fun w h Y=>PySem.W.kIn_of Y) ?F
 case F =>
  intro w mg fa h KX G hmg
  refine' K10.all_mk KX G hmg ?aC1 ?aC2 ?aX1 ?aX2 ?aX3 ?aX4 ?a1 ?i1 ?l1 ?c1 ?k1 ?a2 ?i2 ?l2 ?c2 ?k2 ?a3 ?i3 ?l3 ?c3 ?k3 ?a4 ?i4 ?l4 ?c4 ?k4 ?a5 ?i5 ?l5 ?c5 ?k5 ?a6 ?i6 ?l6 ?c6 ?k6 ?a7 ?i7 ?l7 ?c7 ?k7 ?a8 ?i8 ?l8 ?c8 ?k8 ?a9 ?i9 ?l9 ?c9 ?k9 ?a10 ?i10 ?l10 ?c10 ?k10 ?a11 ?i11 ?l11 ?c11 ?k11 ?a12 ?i12 ?l12 ?c12 ?k12 ?a13 ?i13 ?l13 ?c13 ?k13 ?a14 ?i14 ?l14 ?c14 ?k14 ?a15 ?i15 ?l15 ?c15 ?k15 ?a16 ?i16 ?l16 ?c16 ?k16 ?a17 ?i17 ?l17 ?c17 ?k17 ?a18 ?i18 ?l18 ?c18 ?k18 ?a19 ?l19 ?c19 ?k19 ?a20 ?l20 ?c20 ?k20 ?a21 ?l21 ?c21 ?k21 ?a22 ?l22 ?c22 ?k22 ?a23 ?l23 ?c23 ?k23 ?a24 ?l24 ?c24 ?k24 ?a25 ?l25 ?c25 ?k25 ?a26 ?l26 ?c26 ?k26 ?a27 ?l27 ?c27 ?k27 ?a28 ?l28 ?c28 ?k28 ?a29 ?l29 ?c29 ?k29 ?a30 ?l30 ?c30 ?k30 ?a31 ?l31 ?c31 ?k31 ?a32 ?l32 ?c32 ?k32 ?a33 ?l33 ?c33 ?k33 ?a34 ?l34 ?c34 ?k34 ?a35 ?l35 ?c35 ?k35 ?a36 ?l36 ?c36 ?k36 ?a37 ?l37 ?c37 ?k37 ?a38 ?l38 ?c38 ?k38 ?a39 ?l39 ?c39 ?k39 ?a40 ?l40 ?c40 ?k40 ?a41 ?l41 ?c41 ?k41 ?a42 ?l42 ?c42 ?k42 ?a43 ?l43 ?c43 ?k43 ?a44 ?l44 ?c44 ?k44 ?a45 ?l45 ?c45 ?k45 ?pgC1 ?hdC1 ?poC1 ?saC1 ?mkC1 ?kcC1 ?nC1_pages ?nC1_log ?pgC2 ?hdC2 ?poC2 ?saC2 ?mkC2 ?kcC2 ?nC2_cellar ?nC2_desk ?nC2_room ?nC2_strokes ?nC2_begins ?nC2_puts ?nC2_takers ?nC2_bound ?xX1 ?xX2 ?xX3 ?xX4 ?eX1X1 ?eX1X2 ?eX1X3 ?eX1X4 ?eX2X1 ?eX2X2 ?eX2X3 ?eX2X4 ?eX3X1 ?eX3X2 ?eX3X3 ?eX3X4 ?eX4X1 ?eX4X2 ?eX4X3 ?eX4X4 ?z_list ?z_tuple ?z_int ?z_str ?z_bool ?z_isinstance ?z_len ?z_range ?z_enumerate ?z_dict ?z_sum ?z_reversed
  (case aC1=>k_is)
  (case aC2=>k_is)
  (case aX1=>k_is)
  (case aX2=>k_is)
  (case aX3=>k_is)
  (case aX4=>k_is)
  (case a1=>k_is)
  (case i1=>k_is)
  (case l1=>k_is)
  (case c1=>k_is)
  (case k1=>k_is)
  (case a2=>k_is)
  (case i2=>k_is)
  (case l2=>k_is)
  (case c2=>k_is)
  (case k2=>k_is)
  (case a3=>k_is)
  (case i3=>k_is)
  (case l3=>k_is)
  (case c3=>k_is)
  (case k3=>k_is)
  (case a4=>k_is)
  (case i4=>k_is)
  (case l4=>k_is)
  (case c4=>k_is)
  (case k4=>k_is)
  (case a5=>k_is)
  (case i5=>k_is)
  (case l5=>k_is)
  (case c5=>k_is)
  (case k5=>k_is)
  (case a6=>k_is)
  (case i6=>k_is)
  (case l6=>k_is)
  (case c6=>k_is)
  (case k6=>k_is)
  (case a7=>k_is)
  (case i7=>k_is)
  (case l7=>k_is)
  (case c7=>k_is)
  (case k7=>k_is)
  (case a8=>k_is)
  (case i8=>k_is)
  (case l8=>k_is)
  (case c8=>k_is)
  (case k8=>k_is)
  (case a9=>k_is)
  (case i9=>k_is)
  (case l9=>k_is)
  (case c9=>k_is)
  (case k9=>k_is)
  (case a10=>k_is)
  (case i10=>k_is)
  (case l10=>k_is)
  (case c10=>k_is)
  (case k10=>k_is)
  (case a11=>k_is)
  (case i11=>k_is)
  (case l11=>k_is)
  (case c11=>k_is)
  (case k11=>k_is)
  (case a12=>k_is)
  (case i12=>k_is)
  (case l12=>k_is)
  (case c12=>k_is)
  (case k12=>k_is)
  (case a13=>k_is)
  (case i13=>k_is)
  (case l13=>k_is)
  (case c13=>k_is)
  (case k13=>k_is)
  (case a14=>k_is)
  (case i14=>k_is)
  (case l14=>k_is)
  (case c14=>k_is)
  (case k14=>k_is)
  (case a15=>k_is)
  (case i15=>k_is)
  (case l15=>k_is)
  (case c15=>k_is)
  (case k15=>k_is)
  (case a16=>k_is)
  (case i16=>k_is)
  (case l16=>k_is)
  (case c16=>k_is)
  (case k16=>k_is)
  (case a17=>k_is)
  (case i17=>k_is)
  (case l17=>k_is)
  (case c17=>k_is)
  (case k17=>k_is)
  (case a18=>k_is)
  (case i18=>k_is)
  (case l18=>k_is)
  (case c18=>k_is)
  (case k18=>k_is)
  (case a19=>k_is)
  (case l19=>k_is)
  (case c19=>k_is)
  (case k19=>k_is)
  (case a20=>k_is)
  (case l20=>k_is)
  (case c20=>k_is)
  (case k20=>k_is)
  (case a21=>k_is)
  (case l21=>k_is)
  (case c21=>k_is)
  (case k21=>k_is)
  (case a22=>k_is)
  (case l22=>k_is)
  (case c22=>k_is)
  (case k22=>k_is)
  (case a23=>k_is)
  (case l23=>k_is)
  (case c23=>k_is)
  (case k23=>k_is)
  (case a24=>k_is)
  (case l24=>k_is)
  (case c24=>k_is)
  (case k24=>k_is)
  (case a25=>k_is)
  (case l25=>k_is)
  (case c25=>k_is)
  (case k25=>k_is)
  (case a26=>k_is)
  (case l26=>k_is)
  (case c26=>k_is)
  (case k26=>k_is)
  (case a27=>k_is)
  (case l27=>k_is)
  (case c27=>k_is)
  (case k27=>k_is)
  (case a28=>k_is)
  (case l28=>k_is)
  (case c28=>k_is)
  (case k28=>k_is)
  (case a29=>k_is)
  (case l29=>k_is)
  (case c29=>k_is)
  (case k29=>k_is)
  (case a30=>k_is)
  (case l30=>k_is)
  (case c30=>k_is)
  (case k30=>k_is)
  (case a31=>k_is)
  (case l31=>k_is)
  (case c31=>k_is)
  (case k31=>k_is)
  (case a32=>k_is)
  (case l32=>k_is)
  (case c32=>k_is)
  (case k32=>k_is)
  (case a33=>k_is)
  (case l33=>k_is)
  (case c33=>k_is)
  (case k33=>k_is)
  (case a34=>k_is)
  (case l34=>k_is)
  (case c34=>k_is)
  (case k34=>k_is)
  (case a35=>k_is)
  (case l35=>k_is)
  (case c35=>k_is)
  (case k35=>k_is)
  (case a36=>k_is)
  (case l36=>k_is)
  (case c36=>k_is)
  (case k36=>k_is)
  (case a37=>k_is)
  (case l37=>k_is)
  (case c37=>k_is)
  (case k37=>k_is)
  (case a38=>k_is)
  (case l38=>k_is)
  (case c38=>k_is)
  (case k38=>k_is)
  (case a39=>k_is)
  (case l39=>k_is)
  (case c39=>k_is)
  (case k39=>k_is)
  (case a40=>k_is)
  (case l40=>k_is)
  (case c40=>k_is)
  (case k40=>k_is)
  (case a41=>k_is)
  (case l41=>k_is)
  (case c41=>k_is)
  (case k41=>k_is)
  (case a42=>k_is)
  (case l42=>k_is)
  (case c42=>k_is)
  (case k42=>k_is)
  (case a43=>k_is)
  (case l43=>k_is)
  (case c43=>k_is)
  (case k43=>k_is)
  (case a44=>k_is)
  (case l44=>k_is)
  (case c44=>k_is)
  (case k44=>k_is)
  (case a45=>k_is)
  (case l45=>k_is)
  (case c45=>k_is)
  (case k45=>k_is)
  (case pgC1=>k_is)
  (case hdC1=>k_is)
  (case poC1=>k_is)
  (case saC1=>k_is)
  (case mkC1=>k_is)
  (case kcC1=>k_is)
  (case nC1_pages=>k_is)
  (case nC1_log=>k_is)
  (case pgC2=>k_is)
  (case hdC2=>k_is)
  (case poC2=>k_is)
  (case saC2=>k_is)
  (case mkC2=>k_is)
  (case kcC2=>k_is)
  (case nC2_cellar=>k_is)
  (case nC2_desk=>k_is)
  (case nC2_room=>k_is)
  (case nC2_strokes=>k_is)
  (case nC2_begins=>k_is)
  (case nC2_puts=>k_is)
  (case nC2_takers=>k_is)
  (case nC2_bound=>k_is)
  (case xX1=>k_exc)
  (case xX2=>k_exc)
  (case xX3=>k_exc)
  (case xX4=>k_exc)
  (case eX1X1=>kts_exm)
  (case eX1X2=>kts_exm)
  (case eX1X3=>kts_exm)
  (case eX1X4=>kts_exm)
  (case eX2X1=>kts_exm)
  (case eX2X2=>kts_exm)
  (case eX2X3=>kts_exm)
  (case eX2X4=>kts_exm)
  (case eX3X1=>kts_exm)
  (case eX3X2=>kts_exm)
  (case eX3X3=>kts_exm)
  (case eX3X4=>kts_exm)
  (case eX4X1=>kts_exm)
  (case eX4X2=>kts_exm)
  (case eX4X3=>kts_exm)
  (case eX4X4=>kts_exm)
  (case z_list=>k_is)
  (case z_tuple=>k_is)
  (case z_int=>k_is)
  (case z_str=>k_is)
  (case z_bool=>k_is)
  (case z_isinstance=>k_is)
  (case z_len=>k_is)
  (case z_range=>k_is)
  (case z_enumerate=>k_is)
  (case z_dict=>k_is)
  (case z_sum=>k_is)
  (case z_reversed=>k_is)
