import PyProof.Rows.All
import Wide.All
import OpenK.AllK
import Wide.FinOn
import Lean
import PyProof.EqAt
import PyProof.EqKinds
import PyProof.TupleCall
import PyProof.NeKinds
import PySem.Challenge.RW_quillhouse_k07_whole_stopped_in_coming_u
set_option Elab.async false
set_option linter.all false
set_option maxRecDepth 100000
namespace L2
open PySem PySem.Spec PyProof.Rows

/-- a key: an int or a str -/
abbrev Key := Sum Int Str
def keyIs : Key → Value → Bool
  | .inl k, v => Value.isInt k v
  | .inr x, v => Value.isStrOf x v
def keyH (w : World) : Key → Int
  | .inl k => hashInt k
  | .inr x => hashStr w x
theorem keyIs_shape : ∀ {k : Key} {v : Value}, keyIs k v = true → (∃ i t, k = Sum.inl i ∧ v = Value.int i t) ∨ (∃ x t, k = Sum.inr x ∧ v = Value.str x t)
  | .inl i, v, h => by
    obtain ⟨t, e⟩ := Value.isInt_shape (k := i) (v := v) h
    exact .inl ⟨i, t, rfl, e⟩
  | .inr x, v, h => by
    obtain ⟨t, e⟩ := Value.isStrOf_shape (x := x) (v := v) h
    exact .inr ⟨x, t, rfl, e⟩
theorem keyIs_int (i : Int) (t : Tok) : keyIs (.inl i) (.int i t) = true := by simp [keyIs, Value.isInt]
theorem keyIs_str (x : Str) (t : Tok) : keyIs (.inr x) (.str x t) = true := by simp [keyIs, Value.isStrOf]
theorem key_ll (a b : Int) : decide ((Sum.inl a : Key) = Sum.inl b) = (a == b) := by
  by_cases e : a = b
  · subst e; simp
  · have h : ¬ (Sum.inl a : Key) = Sum.inl b := fun q => e (Sum.inl.inj q)
    rw [decide_eq_false h]
    exact (beq_eq_false_iff_ne.mpr e).symm
theorem key_rr (a b : Str) : decide ((Sum.inr a : Key) = Sum.inr b) = decide (a = b) := by
  by_cases e : a = b
  · subst e; simp
  · have h : ¬ (Sum.inr a : Key) = Sum.inr b := fun q => e (Sum.inr.inj q)
    rw [decide_eq_false h, decide_eq_false e]
theorem key_lr (a : Int) (b : Str) : decide ((Sum.inl a : Key) = Sum.inr b) = false := decide_eq_false (fun q => nomatch q)
theorem key_rl (a : Str) (b : Int) : decide ((Sum.inr a : Key) = Sum.inl b) = false := decide_eq_false (fun q => nomatch q)

def mixKind (prog : Program) (w : World) : PySem.KeyKind prog w Key where
  is := keyIs
  hash := keyH w
  inj := fun v a b ha hb => by
    rcases keyIs_shape ha with ⟨i, t, rfl, rfl⟩ | ⟨x, t, rfl, rfl⟩
    · rcases keyIs_shape hb with ⟨j, u, rfl, e⟩ | ⟨y, u, rfl, e⟩
      · injection e with e1 _; rw [e1]
      · exact nomatch e
    · rcases keyIs_shape hb with ⟨j, u, rfl, e⟩ | ⟨y, u, rfl, e⟩
      · exact nomatch e
      · injection e with e1 _; rw [e1]
  byValue := fun k v h => by
    rcases keyIs_shape h with ⟨i, t, rfl, rfl⟩ | ⟨x, t, rfl, rfl⟩ <;> rfl
  pyHash := fun hv h => by
    rcases keyIs_shape hv with ⟨i, t, rfl, rfl⟩ | ⟨x, t, rfl, rfl⟩
    · exact wpAny_pyHash_int h
    · exact wpAny_pyHash_str h
  eqBool := fun hu hv h => by
    rcases keyIs_shape hu with ⟨i, t, rfl, rfl⟩ | ⟨x, t, rfl, rfl⟩
    · rcases keyIs_shape hv with ⟨j, u, rfl, rfl⟩ | ⟨y, u, rfl, rfl⟩
      · rw [key_ll] at h; exact wpAny_eqBool_int h
      · rw [key_lr] at h; exact SeqAt.EqAt.int_str i t y u _ _ _ _ h
    · rcases keyIs_shape hv with ⟨j, u, rfl, rfl⟩ | ⟨y, u, rfl, rfl⟩
      · rw [key_rl] at h; exact SeqAt.EqAt.str_int x t j u _ _ _ _ h
      · rw [key_rr] at h; exact wpAny_eqBool_str h
  «strs» := fun k x t v h => by
    rcases keyIs_shape h with ⟨i, u, rfl, e⟩ | ⟨y, u, rfl, e⟩
    · exact nomatch e
    · injection e with e1 _
      subst e1
      cases v <;> rfl

theorem mixKind_is (prog : Program) (w : World) (k : Key) (v : Value) : (mixKind prog w).is k v = keyIs k v := rfl
theorem mixKind_int (prog : Program) (w : World) (i : Int) (t : Tok) : (mixKind prog w).is (.inl i) (.int i t) = true := keyIs_int i t
theorem mixKind_str (prog : Program) (w : World) (x : Str) (t : Tok) : (mixKind prog w).is (.inr x) (.str x t) = true := keyIs_str x t
end L2

namespace L2
open PySem PySem.Spec PyProof.Rows

/-- a value, without the heap -/
inductive V where
  | non | bl (b : Bool) | int (i : Int) | str (x : Str) | byt (b : Array UInt8) | flt (b : UInt64) | ref (a : Addr) | ty (n : String)
  deriving DecidableEq

def RelV : V → Value → Prop
  | .non, u => u = Value.none
  | .bl b, u => u = Value.bool b
  | .int i, u => ∃ t, u = Value.int i t
  | .str x, u => ∃ t, u = Value.str x t
  | .byt b, u => ∃ t, u = Value.bytes b t
  | .flt b, u => ∃ t, u = Value.float b t
  | .ref a, u => u = Value.ref a
  | .ty n, u => u = Value.type n

abbrev Vals : List V → List Value → Prop := Paired RelV
theorem Vals.length {xs : List V} {us : List Value} (r : Vals xs us) : xs.length = us.length := Paired.length r
theorem Vals.get : ∀ {xs : List V} {us : List Value} {i : Nat} {x : V}, Vals xs us → xs[i]? = some x → ∃ u, us[i]? = some u ∧ RelV x u
  | _, _, _, _, .nil, e => by simp at e
  | _, _, 0, _, .cons r _, e => by simp at e; subst e; exact ⟨_, rfl, r⟩
  | _, _, i + 1, x, .cons _ t, e => by
    obtain ⟨u, h1, h2⟩ := Vals.get (i := i) (x := x) t (by simpa using e)
    exact ⟨u, by simpa using h1, h2⟩
theorem Vals.set {x : V} {u : Value} (r : RelV x u) : ∀ {xs : List V} {us : List Value} (i : Nat), Vals xs us → Vals (xs.set i x) (us.set i u)
  | _, _, _, .nil => .nil
  | _, _, 0, .cons _ t => .cons r t
  | _, _, i + 1, .cons q t => .cons q (Vals.set r i t)
theorem Vals.append : ∀ {xs ys : List V} {us ws : List Value}, Vals xs us → Vals ys ws → Vals (xs ++ ys) (us ++ ws)
  | _, _, _, _, .nil, s => s
  | _, _, _, _, .cons r t, s => .cons r (Vals.append t s)
theorem Vals.take : ∀ {xs : List V} {us : List Value} (n : Nat), Vals xs us → Vals (xs.take n) (us.take n)
  | _, _, 0, _ => .nil
  | _, _, _ + 1, .nil => .nil
  | _, _, n + 1, .cons r t => .cons r (Vals.take n t)
theorem Vals.drop : ∀ {xs : List V} {us : List Value} (n : Nat), Vals xs us → Vals (xs.drop n) (us.drop n)
  | _, _, 0, r => r
  | _, _, _ + 1, .nil => .nil
  | _, _, n + 1, .cons _ t => Vals.drop n t
theorem Vals.none_of : ∀ {xs : List V} {us : List Value} {i : Nat}, Vals xs us → xs[i]? = none → us[i]? = none := fun {xs us i} r e => by
  have h1 := r.length
  have h2 : xs.length ≤ i := List.getElem?_eq_none_iff.mp e
  exact List.getElem?_eq_none_iff.mpr (by omega)

def RelO : Option V → Option Value → Prop
  | some v, some u => RelV v u
  | none, none => True
  | _, _ => False
def KV {κ : Type} : List (κ × V) → List (κ × Value) → Prop := Paired fun (p : κ × V) (q : κ × Value) => p.1 = q.1 ∧ RelV p.2 q.2

/-- a key of a dict (00_mix): an int or a text -/
def kV : Key → V
  | .inl i => .int i
  | .inr x => .str x

/-- what stands at a tracked address -/
inductive HO where
  /-- a list -/
  | lst (xs : List V)
  /-- a tuple (never changes) -/
  | tup (xs : List V)
  /-- a dict whose keys are ints and texts; one whose keys are tuples of ints and texts (the empty one is both) -/
  | dK (kvs : List (Key × V)) | dT (kvs : List (List Key × V))
  /-- a set of ints: its members, its size -/
  | set (S : Int → Bool) (n : Nat)
  /-- an instance of the class at C, its dict at dx, its attributes -/
  | ins (C dx : Addr) (fs : List (Str × V))
  /-- the dict of the instance at x -/
  | own (x : Addr)
  /-- the dict of an exception -/
  | xd (fs : List (Str × V))
  /-- a bound method, f of x -/
  | met (f x : Addr)
  /-- a range object lo, lo + 1, .. below hi -/
  | rng (lo hi : Int)
  /-- a thing that is known to the object (the script; a dict while a loop walks it): read, never written while it is so -/
  | frz (o : Obj) (u : HO)
  /-- a code object's table -/
  | tbl (ps : Array Value)
  /-- any other thing, by what is true of its one object (a def of one's own: SetO a S n := HO.ext fun h => ..) -/
  | ext (φ : Heap → Prop)

abbrev Hp := Addr → Option HO
def upd (H : Hp) (a : Addr) (o : HO) : Hp := fun b => if b = a then some o else H b
theorem upd_same {H : Hp} {a : Addr} {o : HO} : upd H a o a = some o := by unfold upd; rw [if_pos rfl]
theorem upd_ne {H : Hp} {a b : Addr} {o : HO} (h : b ≠ a) : upd H a o b = H b := by unfold upd; rw [if_neg h]
theorem upd_upd {H : Hp} {a : Addr} {o u : HO} : upd (upd H a o) a u = upd H a u := by
  funext b; unfold upd; split <;> rfl
/-- two objects of different content stand apart -/
theorem ne_of {H : Hp} {a b : Addr} {o u : HO} (h : H a = some o) (h' : H b = some u) (d : o ≠ u) : a ≠ b := by
  intro e; subst e; rw [h] at h'; exact d (Option.some.inj h')
theorem ne_of_none {H : Hp} {a b : Addr} {o : HO} (h : H a = some o) (h' : H b = none) : a ≠ b := by
  intro e; subst e; rw [h] at h'; cases h'

section
variable (P : Program) (w : World)
def ObjOk (H : Hp) (h : Heap) (a : Addr) : HO → Prop
  | .lst xs => xs.length ≤ sizeLine ∧ ∃ (its : List Value) (n : Nat), Vals xs its ∧ h.get? a = some { cls := .type "list", data := .seq its.toArray n }
  | .tup xs => xs.length ≤ sizeLine ∧ ∃ its : List Value, Vals xs its ∧ IsTup h a its.toArray
  | .dK kvs => kvs.length ≤ sizeLine ∧ (a == sysModules) = false ∧ ∃ vs, KV kvs vs ∧ h.DictOf (mixKind P w) a vs
  | .dT kvs => kvs.length ≤ sizeLine ∧ (a == sysModules) = false ∧ ∃ xs : List (List Key × Addr × Value),
      Paired (fun (p : List Key × V) (q : List Key × Addr × Value) => p.1 = q.1 ∧ H q.2.1 = some (.tup (p.1.map kV)) ∧ RelV p.2 q.2.2) kvs xs ∧
      ∃ o es ep, h.get? a = some o ∧ o.ExactDict ∧ o.data = .dict es ep ∧ es.toList = xs.map (entryOfKey (tupleKind (mixKind P w))) ∧ (xs.map (·.1)).Nodup
  | .set S n => h.SetOf (intKind P w) a S n
  | .ins C dx fs => H dx = some (.own a) ∧ fs.length ≤ 1000 ∧ dx ≠ a ∧ h.get? a = some (PySem.W.instObj C dx) ∧
      ∃ mA, h.Ns1 dx mA ∧ (∀ f, RelO (fs.lookup f) (mA f)) ∧ PySem.Within mA (fs.map (·.1))
  | .own _ => ∃ o, h.get? a = some o
  | .xd fs => ∃ mA, h.Ns1 a mA ∧ ∀ f, RelO (fs.lookup f) (mA f)
  | .rng lo hi => ∃ t u v, h.get? a = some { cls := .type "range", data := .fields #[.int lo t, .int hi u, .int 1 v] }
  | .frz o u => h.get? a = some o ∧ ObjOk H h a u
  | .tbl ps => h.get? a = some { cls := .none, data := .fields ps }
  | .met f x => h.get? a = some (PySem.W.methodObj (.ref f) (.ref x))
  | .ext φ => φ h ∧ (∃ o, h.get? a = some o) ∧ ∀ h1 h2 : Heap, φ h1 → (∀ o, h1.get? a = some o → h2.get? a = some o) → φ h2
/-- the abstract heap is held -/
def HOk (H : Hp) (h : Heap) : Prop := ∀ a o, H a = some o → ObjOk P w H h a o
end

section
variable {P : Program} {w : World} {H H' : Hp} {h h' : Heap} {a : Addr} {o : HO}
theorem ObjOk.lt (x : ObjOk P w H h a o) : a < h.objs.size := by
  cases o with
  | lst xs => obtain ⟨_, _, _, _, e⟩ := x; exact Heap.lt_size e
  | tup xs => obtain ⟨_, _, _, p⟩ := x; exact p.lt
  | dK kvs => obtain ⟨_, _, _, _, o, _, _, e, _⟩ := x; exact Heap.lt_size e
  | dT kvs => obtain ⟨_, _, _, _, o, _, _, e, _⟩ := x; exact Heap.lt_size e
  | set S n => obtain ⟨o, _, _, _, e, _⟩ := x; exact Heap.lt_size e
  | ins C dx fs => obtain ⟨_, _, _, e, _⟩ := x; exact Heap.lt_size e
  | own y => obtain ⟨_, e⟩ := x; exact Heap.lt_size e
  | xd fs => obtain ⟨_, ⟨_, _, _, e, _⟩, _⟩ := x; exact Heap.lt_size e
  | rng lo hi => obtain ⟨_, _, _, e⟩ := x; exact Heap.lt_size e
  | frz ob u => obtain ⟨e, _⟩ := x; exact Heap.lt_size e
  | tbl ps => exact Heap.lt_size (show h.get? a = some _ from x)
  | met f y => exact Heap.lt_size (show h.get? a = some _ from x)
  | ext φ => obtain ⟨_, ⟨_, e⟩, _⟩ := x; exact Heap.lt_size e
theorem Paired.mapP {α β : Type} {F G : α → β → Prop} : ∀ {l₁ : List α} {l₂ : List β}, Paired F l₁ l₂ → (∀ a b, F a b → G a b) → Paired G l₁ l₂
  | _, _, .nil, _ => .nil
  | _, _, .cons r t, f => .cons (f _ _ r) (Paired.mapP t f)
theorem Paired.imp' {α β : Type} {F G : α → β → Prop} (f : ∀ a b, F a b → G a b) {l₁ : List α} {l₂ : List β} (r : Paired F l₁ l₂) : Paired G l₁ l₂ := Paired.mapP r f
/-- what an object's description leans on: its own object, its own dict, the tuples -/
theorem ObjOk.stay (x : ObjOk P w H h a o) (k : ∀ b u, (b = a ∨ H b = some (.own a)) → h.get? b = some u → h'.get? b = some u)
    (ho : ∀ b, H b = some (.own a) → H' b = some (.own a)) (ht : ∀ b xs, H b = some (.tup xs) → H' b = some (.tup xs)) : ObjOk P w H' h' a o := by
  induction o with
  | lst xs => obtain ⟨z, its, n, r, e⟩ := x; exact ⟨z, its, n, r, k _ _ (.inl rfl) e⟩
  | tup xs => obtain ⟨z, its, r, ob, e, c⟩ := x; exact ⟨z, its, r, ob, k _ _ (.inl rfl) e, c⟩
  | dK kvs => obtain ⟨z, y, vs, r, ob, es, ep, e, c⟩ := x; exact ⟨z, y, vs, r, ob, es, ep, k _ _ (.inl rfl) e, c⟩
  | dT kvs =>
    obtain ⟨z, y, xs, r, ob, es, ep, e, c⟩ := x
    exact ⟨z, y, xs, Paired.mapP r fun p q z => ⟨z.1, ht _ _ z.2.1, z.2.2⟩, ob, es, ep, k _ _ (.inl rfl) e, c⟩
  | set S n => obtain ⟨ob, es, ep, t, e, c⟩ := x; exact ⟨ob, es, ep, t, k _ _ (.inl rfl) e, c⟩
  | ins C dx fs =>
    obtain ⟨d, z, ne, e, mA, ⟨od, es, ep, e2, c⟩, r⟩ := x
    exact ⟨ho _ d, z, ne, k _ _ (.inl rfl) e, mA, ⟨od, es, ep, k _ _ (.inr d) e2, c⟩, r⟩
  | own y => obtain ⟨ob, e⟩ := x; exact ⟨ob, k _ _ (.inl rfl) e⟩
  | xd fs => obtain ⟨mA, ⟨od, es, ep, e, c⟩, r⟩ := x; exact ⟨mA, ⟨od, es, ep, k _ _ (.inl rfl) e, c⟩, r⟩
  | rng lo hi => obtain ⟨t, u, v, e⟩ := x; exact ⟨t, u, v, k _ _ (.inl rfl) e⟩
  | frz ob u ih => obtain ⟨e, q⟩ := x; exact ⟨k _ _ (.inl rfl) e, ih q⟩
  | tbl ps =>
    have e : h.get? a = some { cls := .none, data := .fields ps } := x
    show h'.get? a = some { cls := .none, data := .fields ps }
    exact k a _ (.inl rfl) e
  | met f y =>
    have e : h.get? a = some (PySem.W.methodObj (.ref f) (.ref y)) := x
    show h'.get? a = some (PySem.W.methodObj (.ref f) (.ref y))
    exact k a _ (.inl rfl) e
  | ext φ => obtain ⟨p, ⟨o, e⟩, st⟩ := x; exact ⟨st _ _ p fun o q => k _ _ (.inl rfl) q, ⟨o, k _ _ (.inl rfl) e⟩, st⟩
theorem HOk.lt (x : HOk P w H h) (e : H a = some o) : a < h.objs.size := (x a o e).lt
theorem HOk.fresh (x : HOk P w H h) (e : h.objs.size ≤ a) : H a = none := by
  cases q : H a with
  | none => rfl
  | some u => exact absurd (Nat.lt_of_lt_of_le (x.lt q) e) (Nat.lt_irrefl _)
/-- every object of the heap is kept -/
theorem HOk.kept (x : HOk P w H h) (k : ∀ b u, h.get? b = some u → h'.get? b = some u) : HOk P w H h' := fun a o e =>
  (x a o e).stay (fun b u _ q => k b u q) (fun _ q => q) fun _ _ q => q
/-- a new object is laid and tracked -/
theorem HOk.laid (x : HOk P w H h) (k : ∀ b u, h.get? b = some u → h'.get? b = some u) (hp : h.objs.size ≤ a) (new : ObjOk P w (upd H a o) h' a o) : HOk P w (upd H a o) h' := fun b u e => by
  have hn := x.fresh hp
  by_cases hb : b = a
  · subst hb; rw [upd_same] at e; cases e; exact new
  · rw [upd_ne hb] at e
    exact (x b u e).stay (fun c v _ q => k c v q) (fun c q => by rw [upd_ne (ne_of_none q hn)]; exact q) fun c xs q => by rw [upd_ne (ne_of_none q hn)]; exact q
end

/-- what may be read as u: it is u, or a known u -/
def Rd (H : Hp) (a : Addr) (u : HO) : Prop := H a = some u ∨ ∃ o, H a = some (.frz o u)
theorem Rd.of {H : Hp} {a : Addr} {u : HO} (h : H a = some u) : Rd H a u := .inl h
theorem Rd.ok {P : Program} {w : World} {H : Hp} {h : Heap} {a : Addr} {u : HO} (r : Rd H a u) (x : HOk P w H h) : ObjOk P w H h a u := by
  rcases r with r | ⟨o, r⟩
  · exact x a u r
  · obtain ⟨_, q⟩ := x a _ r
    exact q
/-- what may be written -/
def Mut : Option HO → Prop
  | some (.lst _) => True
  | some (.dK _) => True
  | some (.dT _) => True
  | some (.set _ _) => True
  | some (.ins _ _ _) => True
  | some (.ext _) => True
  | _ => False
section
variable {P : Program} {w : World} {H : Hp} {h h' : Heap} {x e : Addr} {o' : HO}
/-- the object at e is changed: x itself, or the dict of the instance x -/
theorem HOk.write (ok : HOk P w H h) (mu : Mut (H x)) (he : e = x ∨ H e = some (.own x)) (k : ∀ b u, b ≠ e → h.get? b = some u → h'.get? b = some u) (heo : ∃ u, h'.get? e = some u)
    (new : ObjOk P w (upd H x o') h' x o') : HOk P w (upd H x o') h' := fun b u q => by
  have nown : ∀ c y, H c = some (.own y) → c ≠ x := fun c y r z => by subst z; rw [r] at mu; exact mu
  have ntup : ∀ c xs, H c = some (.tup xs) → c ≠ x := fun c xs r z => by subst z; rw [r] at mu; exact mu
  by_cases hb : b = x
  · subst hb; rw [upd_same] at q; cases q; exact new
  · rw [upd_ne hb] at q
    by_cases hbe : b = e
    · have q' : H b = some (.own x) := by
        rcases he with z | z
        · exact absurd (hbe.trans z) hb
        · rw [hbe]; exact z
      rw [q] at q'; cases q'
      obtain ⟨v, hv⟩ := heo
      exact ⟨v, by rw [hbe]; exact hv⟩
    · refine (ok b u q).stay (fun c v hc r => k c v ?_ r) (fun c r => by rw [upd_ne (nown c b r)]; exact r) fun c xs r => by rw [upd_ne (ntup c xs r)]; exact r
      rcases hc with rfl | hc
      · exact hbe
      · rintro rfl
        rcases he with z | z
        · exact nown c b hc z
        · rw [hc] at z; cases z; exact hb rfl
end

/-! ### kept unless tracked; of the frames at fs (the callers') the slots may change (an exception that passes writes there); of the records at ex (iterators) nothing is said -/
structure Un (fs ex : List Addr) (H H' : Hp) (h h' : Heap) : Prop where
  keep : ∀ b o, h.get? b = some o → H b = none → b ∉ fs → b ∉ ex → h'.get? b = some o
  slot : ∀ b o, h.get? b = some o → H b = none → b ∈ fs → b ∉ ex → ∃ sl, h'.get? b = some { o with slots := sl }
  free : ∀ b o, h.get? b = some o → H b = none → b ∉ ex → H' b = none
  there : ∀ b o, h.get? b = some o → b ∉ ex → ∃ o', h'.get? b = some o'
  tups : ∀ b xs, H b = some (.tup xs) → H' b = some (.tup xs)
  frzs : ∀ b o u, H b = some (.frz o u) → H' b = some (.frz o u)
  tbls : ∀ b ps, H b = some (.tbl ps) → ∃ more, H' b = some (.tbl (ps ++ more))
section
variable {fs fs' ex ex' : List Addr} {H H1 H2 : Hp} {h h1 h2 h' : Heap} {a x e : Addr} {o : HO}
theorem Un.any (u : Un fs ex H H1 h h1) {b : Addr} {ob : Obj} (q : h.get? b = some ob) (n : H b = none) (hx : b ∉ ex) : ∃ sl, h1.get? b = some { ob with slots := sl } := by
  by_cases hb : b ∈ fs
  · exact u.slot b ob q n hb hx
  · exact ⟨ob.slots, u.keep b ob q n hb hx⟩
theorem Un.trans (a : Un fs ex H H1 h h1) (b : Un fs ex H1 H2 h1 h2) : Un fs ex H H2 h h2 where
  keep := fun c ob q n hc hx => b.keep c ob (a.keep c ob q n hc hx) (a.free c ob q n hx) hc hx
  slot := fun c ob q n hc hx => by
    obtain ⟨sl, e1⟩ := a.slot c ob q n hc hx
    obtain ⟨sl', e2⟩ := b.slot c _ e1 (a.free c ob q n hx) hc hx
    exact ⟨sl', e2⟩
  free := fun c ob q n hx => by
    obtain ⟨o', e1⟩ := a.there c ob q hx
    exact b.free c o' e1 (a.free c ob q n hx) hx
  there := fun c ob q hx => by
    obtain ⟨o', e1⟩ := a.there c ob q hx
    exact b.there c o' e1 hx
  tups := fun c xs q => b.tups c xs (a.tups c xs q)
  frzs := fun c ob xs q => b.frzs c ob xs (a.frzs c ob xs q)
  tbls := fun c ps q => by
    obtain ⟨m1, e1⟩ := a.tbls c ps q
    obtain ⟨m2, e2⟩ := b.tbls c _ e1
    exact ⟨m1 ++ m2, by rw [e2, Array.append_assoc]⟩
theorem Un.kept (k : ∀ b u, h.get? b = some u → h'.get? b = some u) : Un fs ex H H h h' :=
  ⟨fun b ob q _ _ _ => k b ob q, fun b ob q _ _ _ => ⟨ob.slots, k b ob q⟩, fun _ _ _ n _ => n, fun b ob q _ => ⟨ob, k b ob q⟩, fun _ _ q => q, fun _ _ _ q => q, fun _ ps q => ⟨#[], by rw [q]; simp⟩⟩
theorem Un.refl : Un fs ex H H h h := Un.kept fun _ _ q => q
theorem Un.laid (k : ∀ b u, h.get? b = some u → h'.get? b = some u) (hp : h.objs.size ≤ a) (hn : H a = none) : Un fs ex H (upd H a o) h h' where
  keep := fun b u q _ _ _ => k b u q
  slot := fun b u q _ _ _ => ⟨u.slots, k b u q⟩
  free := fun b u q n _ => by rw [upd_ne (Nat.ne_of_lt (Nat.lt_of_lt_of_le (Heap.lt_size q) hp))]; exact n
  there := fun b u q _ => ⟨u, k b u q⟩
  tups := fun b xs q => by rw [upd_ne (ne_of_none q hn)]; exact q
  frzs := fun b u xs q => by rw [upd_ne (ne_of_none q hn)]; exact q
  tbls := fun b ps q => ⟨#[], by rw [upd_ne (ne_of_none q hn), q]; simp⟩
theorem Un.write (mu : Mut (H x)) (he : e = x ∨ H e = some (.own x)) (k : ∀ b u, b ≠ e → h.get? b = some u → h'.get? b = some u) (heo : ∃ u, h'.get? e = some u) : Un fs ex H (upd H x o) h h' := by
  have hx : ∀ b, H b = none → b ≠ x := fun b n z => by subst z; rw [n] at mu; exact mu
  have hb : ∀ b, H b = none → b ≠ e := fun b n z => by
    subst z
    rcases he with r | r
    · exact hx b n r
    · rw [n] at r; cases r
  have hm : ∀ b u, H b = some u → ¬ Mut (some u) → b ≠ x := fun b u q nm z => by subst z; rw [q] at mu; exact nm mu
  refine ⟨fun b u q n _ _ => k b u (hb b n) q, fun b u q n _ _ => ⟨u.slots, k b u (hb b n) q⟩, fun b u q n _ => by rw [upd_ne (hx b n)]; exact n, fun b u q _ => ?_,
    fun b xs q => by rw [upd_ne (hm b _ q fun z => z)]; exact q, fun b u xs q => by rw [upd_ne (hm b _ q fun z => z)]; exact q, fun b ps q => ⟨#[], by rw [upd_ne (hm b _ q fun z => z), q]; simp⟩⟩
  by_cases hbe : b = e
  · subst hbe; exact heo
  · exact ⟨u, k b u hbe q⟩
theorem Un.mono (u : Un fs ex H H1 h h1) (hs : ∀ b ∈ fs, b ∈ fs') (hx : ∀ b ∈ ex, b ∈ ex') : Un fs' ex' H H1 h h1 :=
  ⟨fun b ob q n hb he => u.keep b ob q n (fun z => hb (hs b z)) fun z => he (hx b z), fun _ _ q n _ he => u.any q n fun z => he (hx _ z), fun b ob q n he => u.free b ob q n fun z => he (hx b z), fun b ob q he => u.there b ob q fun z => he (hx b z), u.tups, u.frzs, u.tbls⟩
end

/-! ### the heap without what is tracked -/
def trk (h : Heap) (H : Hp) : List Addr := (List.range h.objs.size).filter fun a => (H a).isSome
def hidT (h : Heap) (H : Hp) : Heap := PySem.W.hideAll h (trk h H)
theorem hidT_size (h : Heap) (H : Hp) : (hidT h H).objs.size = h.objs.size := PySem.W.hideAll_size _ _
theorem hidT_get {h : Heap} {H : Hp} {b : Addr} {o : Obj} (e : h.get? b = some o) (n : H b = none) : (hidT h H).get? b = some o :=
  PySem.W.hideAll_get _ e fun hm => by
    have q : (H b).isSome = true := (List.mem_filter.mp hm).2
    rw [n] at q; simp at q
theorem of_hidT {h : Heap} {H : Hp} {b : Addr} {o : Obj} (e : (hidT h H).get? b = some o) : h.get? b = some o ∧ H b = none := by
  have e' : h.get? b = some o := PySem.W.of_hideAll (trk h H) e
  refine ⟨e', ?_⟩
  cases q : H b with
  | none => rfl
  | some x =>
    have hm : b ∈ trk h H := List.mem_filter.mpr ⟨List.mem_range.mpr (Heap.lt_size e'), by simp [q]⟩
    have z : (hidT h H).get? b = none := PySem.W.hideAll_none (trk h H) hm
    rw [z] at e; cases e

/-! ### OpenK's ledger, filled with every new object but one -/
def allNews (g h : Heap) (L : Addr) : List (Addr × Obj) := (List.range h.objs.size).filterMap fun a => if a = L ∨ (g.get? a).isSome = true then none else (h.get? a).map fun o => (a, o)
theorem mem_allNews {g h : Heap} {L a : Addr} {o : Obj} (h1 : a ≠ L) (h2 : g.get? a = none) (h3 : h.get? a = some o) : (a, o) ∈ allNews g h L :=
  List.mem_filterMap.mpr ⟨a, List.mem_range.mpr (Heap.lt_size h3), by simp [h1, h2, h3]⟩
theorem of_mem_allNews {g h : Heap} {L : Addr} {p : Addr × Obj} (hp : p ∈ allNews g h L) : p.1 ≠ L ∧ g.get? p.1 = none ∧ h.get? p.1 = some p.2 := by
  obtain ⟨b, _, e⟩ := List.mem_filterMap.mp hp
  split at e
  · cases e
  · rename_i hn
    cases q : h.get? b with
    | none => rw [q] at e; simp at e
    | some u =>
      rw [q] at e
      simp only [Option.map_some, Option.some.injEq] at e
      subst e
      refine ⟨fun z => hn (.inl z), ?_, q⟩
      show g.get? b = none
      cases r : g.get? b with
      | none => rfl
      | some v => exact (hn (.inr (by simp [r]))).elim
def rest (g h : Heap) (L d : Addr) : List (Addr × Obj) := (allNews g h L).filter fun p => decide (p.1 ≠ d)
theorem rest_ne {g h : Heap} {L d : Addr} : ∀ p ∈ rest g h L d, p.1 ≠ d := fun p hp => of_decide_eq_true (List.mem_filter.mp hp).2
theorem mem_rest {g h : Heap} {L d a : Addr} {o : Obj} (h1 : a ≠ L) (h2 : g.get? a = none) (h3 : h.get? a = some o) (h4 : a ≠ d) : (a, o) ∈ rest g h L d :=
  List.mem_filter.mpr ⟨mem_allNews h1 h2 h3, decide_eq_true h4⟩
theorem news_all {g h : Heap} {L : Addr} : News g L h (allNews g h L) := fun p hp => let ⟨a, b, c⟩ := of_mem_allNews hp; ⟨c, a, b⟩
theorem news_at {g h : Heap} {L d : Addr} {o : Obj} (h1 : d ≠ L) (h2 : g.get? d = none) (h3 : h.get? d = some o) : News g L h ((d, o) :: rest g h L d) := fun p hp => by
  rcases List.mem_cons.mp hp with rfl | hp
  · exact ⟨h3, h1, h2⟩
  · exact news_all p (List.mem_filter.mp hp).1
/-- behind a rule that changed d alone: all else but the frame is kept -/
theorem kept_of_news {g h h' : Heap} {L d : Addr} {m : Str → Option Value} (k : ∀ b o, g.get? b = some o → h.get? b = some o) (F : Fr g L h' m) (N : News g L h' (rest g h L d)) :
    ∀ b o, b ≠ L → b ≠ d → h.get? b = some o → h'.get? b = some o := fun b o h1 h2 e => by
  cases q : g.get? b with
  | some u =>
    have := k b u q
    rw [e] at this; cases this
    exact F.keep b _ q
  | none => exact (N (b, o) (mem_rest h1 q e h2)).1
end L2

namespace L2
open PySem PySem.Spec PyProof.Rows

/-- the module's facts, over the base: the heap at the law's entry without what is tracked there -/
structure Mod (K : PySem.W.Frag) (mg : Str → Option Value) (base : Heap) : Prop where
  kin : K.In base
  glob : base.Ns mainGlobals mg
  blt : ∃ mb, base.Ns builtinsNs mb ∧ ∀ x : Str, x ≠ "__name__" → mb x = bootBuiltins x
  nolimit : base.NoLimit

/-- the context: a def's body (or a comprehension's block) running. base: fixed through the whole law; s₀, H₀: the entry; outer: the frames whose slots others may change (a def's callers); stack: all frames that run;
   ex: iterators that were made ahead of the entry and are walked here (a comprehension's); fn: the names whose cells were made at the entry (a def: all; a comprehension's block: its own); calm: not within an except suite; pn: pins that every state bears; xe: what is wanted of an exception that leaves the code -/
structure Cx where
  prog : Program
  w : World
  K : PySem.W.Frag
  mg : Str → Option Value
  base : Heap
  A : Around
  N : List Str
  s₀ : Shared
  H₀ : Hp
  env : Env
  outer : List Env
  stack : List Env
  ex : List Addr
  fn : Str → Bool
  calm : Bool
  pn : List (Addr × Obj)
  xe : Value → Shared → Prop
/-- the callers' frames -/
def frs (l : List Env) : List Addr := l.filterMap (·.frame)
abbrev Cx.fs (X : Cx) : List Addr := frs X.outer

def Vis (sc : Scope) (x : Str) : Prop := sc.names.lookup x = some .local ∨ sc.names.lookup x = some .cell ∨ sc.names.lookup x = some .free
def Loc (sc : Scope) (x : Str) : Prop := sc.names.lookup x = some .local ∨ sc.names.lookup x = some .cell
def Look (env : Env) (h : Heap) (m : Str → Option Value) (x : Str) (u : Value) : Prop :=
  (env.kindOf x = some .local ∧ m x = some u) ∨ ((env.kindOf x = some .cell ∨ env.kindOf x = some .free) ∧ ∃ c, env.cells.lookup x = some c ∧ h.IsCell c (some u))

structure Cx.Ok (X : Cx) : Prop where
  mod : Mod X.K X.mg X.base
  kind : X.env.scope.kind = .function
  glob : X.env.globals = mainGlobals
  blt : X.env.builtins = builtinsNs
  above : X.s₀.heap.objs.size ≤ X.env.locals
  inj : ∀ x y c, X.env.cells.lookup x = some c → X.env.cells.lookup y = some c → x = y
  has : ∀ x, (X.env.kindOf x = some .cell ∨ X.env.kindOf x = some .free) → ∃ c, X.env.cells.lookup x = some c
  cab : ∀ x c, X.fn x = true → X.env.cells.lookup x = some c → X.s₀.heap.objs.size ≤ c
  hd : X.calm = true → X.A.handled = none
  frames : X.A.frames = some X.stack
  stk : X.stack = X.outer ∨ (X.stack = X.env :: X.outer ∧ X.env.frame = some X.env.locals)
  exf : ∀ b ∈ X.ex, b ≠ X.env.locals ∧ ∀ x c, X.env.cells.lookup x = some c → c ≠ b
  bs : ∀ b o, X.base.get? b = some o → X.s₀.heap.get? b = some o ∧ X.H₀ b = none
  bsz : X.base.objs.size ≤ X.s₀.heap.objs.size
  noex : ∀ b o, X.base.get? b = some o → b ∉ X.ex
  exfs : ∀ b ∈ X.ex, b ∉ X.fs
  funs : X.s₀.heap.FunFrames X.base X.outer
  frf : ∀ b ∈ X.fs, X.H₀ b = none

structure Inv (X : Cx) (pins : List (Addr × Obj)) (σ : List (Option V)) (H : Hp) (s : Shared) : Prop where
  ok : X.Ok
  os : s.os = X.s₀.os
  bare : AllBare s.gens
  base : Un X.fs X.ex X.H₀ H X.s₀.heap s.heap
  loc : ∃ m, s.heap.Ns X.env.locals m ∧ ∀ (i : Nat) (x : Str) (v : V), X.N[i]? = some x → σ[i]? = some (some v) → Vis X.env.scope x → ∃ u, RelV v u ∧ Look X.env s.heap m x u
  cell : ∀ x c, X.env.cells.lookup x = some c → ∃ v, s.heap.IsCell c v
  free : H X.env.locals = none
  freeC : ∀ x c, X.env.cells.lookup x = some c → H c = none
  pin : ∀ p ∈ X.pn ++ pins, s.heap.get? p.1 = some p.2 ∧ H p.1 = none ∧ p.1 ≠ X.env.locals ∧ p.1 ∉ X.fs ∧ ∀ v, p.2.data ≠ .cell v
  hok : HOk X.prog X.w H s.heap
  len : σ.length = X.N.length

section
variable {X : Cx} {pins : List (Addr × Obj)} {σ : List (Option V)} {H H' : Hp} {s : Shared} {h' : Heap}

theorem Cx.Ok.nofr (ok : X.Ok) {b : Addr} {o : Obj} (e : X.base.get? b = some o) : b ∉ X.fs := fun hb => by
  have := (ok.funs.mem hb).1
  rw [e] at this; cases this
theorem Inv.bs (I : Inv X pins σ H s) : ∀ b o, X.base.get? b = some o → s.heap.get? b = some o ∧ H b = none := fun b o e =>
  ⟨I.base.keep b o (I.ok.bs b o e).1 (I.ok.bs b o e).2 (I.ok.nofr e) (I.ok.noex b o e), I.base.free b o (I.ok.bs b o e).1 (I.ok.bs b o e).2 (I.ok.noex b o e)⟩
theorem Inv.bk (I : Inv X pins σ H s) : ∀ b o, X.base.get? b = some o → s.heap.get? b = some o := fun b o e => (I.bs b o e).1
theorem Inv.mod (I : Inv X pins σ H s) : Mod X.K X.mg X.base := I.ok.mod
theorem Inv.kIn (I : Inv X pins σ H s) : X.K.In s.heap := I.ok.mod.kin.keeps I.bk
theorem Inv.nolimit (I : Inv X pins σ H s) : s.heap.NoLimit := I.ok.mod.nolimit.keeps I.bk
/-- the frame over the base: for OpenK's rules (K.In X.base is I.mod.kin) -/
theorem Inv.fr (I : Inv X pins σ H s) : ∃ m, Fr X.base X.env.locals s.heap m :=
  let ⟨m, hn, _⟩ := I.loc
  ⟨m, hn, I.bk, Nat.le_trans I.ok.bsz I.ok.above⟩
theorem Inv.lt (I : Inv X pins σ H s) : X.env.locals < s.heap.objs.size := let ⟨_, hn, _⟩ := I.loc; hn.lt
theorem Inv.sz (I : Inv X pins σ H s) : X.s₀.heap.objs.size ≤ s.heap.objs.size := Nat.le_trans I.ok.above (Nat.le_of_lt I.lt)
theorem Inv.nofs (I : Inv X pins σ H s) {a : Addr} (h : s.heap.objs.size ≤ a) : a ∉ X.fs := fun hb => by
  obtain ⟨_, o, ho, _⟩ := I.ok.funs.mem hb
  exact absurd (Nat.lt_of_lt_of_le (Heap.lt_size ho) (Nat.le_trans I.sz h)) (Nat.lt_irrefl _)
theorem Inv.cne (I : Inv X pins σ H s) : ∀ x c, X.env.cells.lookup x = some c → c ≠ X.env.locals := fun x c e z => by
  obtain ⟨v, o, ho, hd⟩ := I.cell x c e
  obtain ⟨m, ⟨o', es, ep, ho', hd', _⟩, _⟩ := I.loc
  rw [z, ho'] at ho; cases ho; rw [hd'] at hd; cases hd
theorem Inv.funs (I : Inv X pins σ H s) : s.heap.FunFrames X.base X.outer := by
  have all : ∀ (l : List Env), (∀ b ∈ frs l, b ∈ X.fs) → X.s₀.heap.FunFrames X.base l → s.heap.FunFrames X.base l := by
    intro l
    induction l with
    | nil => intro _ _; trivial
    | cons env r ih =>
      intro hs hl
      obtain ⟨hk, ⟨L, o, hf, hn, ho, hd⟩, hr⟩ := hl
      have hL : L ∈ X.fs := hs L (by unfold frs; rw [List.filterMap_cons, hf]; exact List.mem_cons_self)
      obtain ⟨sl, e⟩ := I.base.slot L o ho (I.ok.frf L hL) hL fun z => I.ok.exfs L z hL
      exact ⟨hk, ⟨L, _, hf, hn, e, hd⟩, ih (fun b hb => hs b (by unfold frs; rw [List.filterMap_cons, hf]; exact List.mem_cons_of_mem _ hb)) hr⟩
  exact all X.outer (fun _ hb => hb) I.ok.funs

/-- the frames that run, for a call -/
theorem Inv.stack (I : Inv X pins σ H s) : s.heap.FunFrames X.base X.stack := by
  rcases I.ok.stk with e | ⟨e, hf⟩
  · rw [e]; exact I.funs
  · rw [e]
    obtain ⟨m, hn, _⟩ := I.loc
    refine .cons (by rw [I.ok.kind]; decide) hf hn ?_ I.funs
    exact Heap.get?_none_of_le (Nat.le_trans I.ok.bsz I.ok.above)
theorem Inv.stkSub (I : Inv X pins σ H s) : ∀ b ∈ frs X.stack, b ∈ X.env.locals :: X.fs := fun b hb => by
  rcases I.ok.stk with e | ⟨e, hf⟩
  · rw [e] at hb; exact List.mem_cons_of_mem _ hb
  · rw [e] at hb
    unfold frs at hb
    rw [List.filterMap_cons, hf] at hb
    exact hb
theorem Inv.stkFree (I : Inv X pins σ H s) : ∀ b ∈ frs X.stack, H b = none := fun b hb => by
  rcases List.mem_cons.mp (I.stkSub b hb) with e | hb
  · rw [e]; exact I.free
  · obtain ⟨_, o, ho, _⟩ := I.ok.funs.mem hb
    exact I.base.free b o ho (I.ok.frf b hb) fun z => I.ok.exfs b z hb

/-- THE STEP: the untracked objects but the frame and the records at ch are kept (the callers' frames up to slots), the frame's map is kept, the new abstract heap is held -/
theorem Inv.step {g' : Array GenState} {t' : Nat} {d' : Drawn} {ch : List Addr} (I : Inv X pins σ H s)
    (hch : ∀ b ∈ ch, (b ∈ X.ex ∨ X.s₀.heap.objs.size ≤ b) ∧ b ≠ X.env.locals ∧ (∀ x c, X.env.cells.lookup x = some c → c ≠ b) ∧ ∀ p ∈ X.pn ++ pins, p.1 ≠ b)
    (keep : ∀ b o, b ≠ X.env.locals → b ∉ X.fs → b ∉ ch → s.heap.get? b = some o → H b = none → h'.get? b = some o)
    (slot : ∀ b o, b ≠ X.env.locals → b ∈ X.fs → b ∉ ch → s.heap.get? b = some o → H b = none → ∃ sl, h'.get? b = some { o with slots := sl }) (free : ∀ b o, b ∉ ch → s.heap.get? b = some o → H b = none → H' b = none)
    (there : ∀ b o, b ∉ ch → s.heap.get? b = some o → ∃ o', h'.get? b = some o')
    (tups : ∀ b xs, H b = some (.tup xs) → H' b = some (.tup xs)) (frzs : ∀ b o u, H b = some (.frz o u) → H' b = some (.frz o u)) (tbls : ∀ b ps, H b = some (.tbl ps) → ∃ more, H' b = some (.tbl (ps ++ more)))
    (ns : ∀ m, s.heap.Ns X.env.locals m → h'.Ns X.env.locals m) (hok : HOk X.prog X.w H' h') (hg : AllBare g') :
    Inv X pins σ H' { s with heap := h', gens := g', drawn := d', toks := t' } := by
  have neL : ∀ b o, X.s₀.heap.get? b = some o → b ≠ X.env.locals := fun b o e => Nat.ne_of_lt (Nat.lt_of_lt_of_le (Heap.lt_size e) I.ok.above)
  have neC : ∀ b o, X.s₀.heap.get? b = some o → b ∉ X.ex → b ∉ ch := fun b o e hx hb => by
    rcases (hch b hb).1 with z | z
    · exact hx z
    · exact absurd (Nat.lt_of_lt_of_le (Heap.lt_size e) z) (Nat.lt_irrefl _)
  have cellK : ∀ x c, X.env.cells.lookup x = some c → ∀ v, s.heap.IsCell c v → h'.IsCell c v := fun x c e v ⟨o, ho, hd⟩ => by
    have nch : c ∉ ch := fun z => (hch c z).2.2.1 x c e rfl
    by_cases hc : c ∈ X.fs
    · obtain ⟨sl, q⟩ := slot c o (I.cne x c e) hc nch ho (I.freeC x c e)
      exact ⟨_, q, hd⟩
    · exact ⟨o, keep c o (I.cne x c e) hc nch ho (I.freeC x c e), hd⟩
  refine ⟨I.ok, I.os, hg, ⟨fun b o e n hb hx => ?_, fun b o e n hb hx => ?_, fun b o e n hx => ?_, fun b o e hx => ?_, fun b xs e => tups b xs (I.base.tups b xs e), fun b o xs e => frzs b o xs (I.base.frzs b o xs e), fun b ps e => ?_⟩, ?_, fun x c e => ?_, ?_, fun x c e => ?_, fun p hp => ?_, hok, I.len⟩
  · exact keep b o (neL b o e) hb (neC b o e hx) (I.base.keep b o e n hb hx) (I.base.free b o e n hx)
  · obtain ⟨sl, e1⟩ := I.base.slot b o e n hb hx
    obtain ⟨sl', e2⟩ := slot b _ (neL b o e) hb (neC b o e hx) e1 (I.base.free b o e n hx)
    exact ⟨sl', e2⟩
  · obtain ⟨o', e1⟩ := I.base.there b o e hx
    exact free b o' (neC b o e hx) e1 (I.base.free b o e n hx)
  · obtain ⟨o', e1⟩ := I.base.there b o e hx
    exact there b o' (neC b o e hx) e1
  · obtain ⟨m1, e1⟩ := I.base.tbls b ps e
    obtain ⟨m2, e2⟩ := tbls b _ e1
    exact ⟨m1 ++ m2, by rw [e2, Array.append_assoc]⟩
  · obtain ⟨m, hn, hl⟩ := I.loc
    refine ⟨m, ns m hn, fun i x v e1 e2 e3 => ?_⟩
    obtain ⟨u, r, l⟩ := hl i x v e1 e2 e3
    refine ⟨u, r, ?_⟩
    rcases l with l | ⟨k, c, e, z⟩
    · exact .inl l
    · exact .inr ⟨k, c, e, cellK x c e _ z⟩
  · obtain ⟨v, z⟩ := I.cell x c e
    exact ⟨v, cellK x c e v z⟩
  · obtain ⟨m, ⟨o, _, _, ho, _⟩, _⟩ := I.loc
    exact free _ o (fun z => (hch _ z).2.1 rfl) ho I.free
  · obtain ⟨v, o, ho, hd⟩ := I.cell x c e
    exact free c o (fun z => (hch c z).2.2.1 x c e rfl) ho (I.freeC x c e)
  · obtain ⟨e, n, ne, nf, d⟩ := I.pin p hp
    have nch : p.1 ∉ ch := fun z => (hch p.1 z).2.2.2 p hp rfl
    exact ⟨keep p.1 p.2 ne nf nch e n, free p.1 p.2 nch e n, ne, nf, d⟩
/-- .. where the frame's own object is kept too -/
theorem Inv.un {t' : Nat} (I : Inv X pins σ H s) (u : Un X.fs [] H H' s.heap h') (hok : HOk X.prog X.w H' h') : Inv X pins σ H' { s with heap := h', toks := t' } := by
  obtain ⟨m, ⟨o, es, ep, ho, r⟩, _⟩ := id I.loc
  obtain ⟨sl, hL⟩ := u.any ho I.free (by simp)
  exact I.step (g' := s.gens) (d' := s.drawn) (ch := []) (fun _ z => nomatch z) (fun b o _ hb _ e n => u.keep b o e n hb (by simp)) (fun b o _ hb _ e n => u.slot b o e n hb (by simp)) (fun b o _ e n => u.free b o e n (by simp)) (fun b o _ e => u.there b o e (by simp)) u.tups u.frzs u.tbls (fun m' hm => by
    obtain ⟨o', es', ep', ho', r'⟩ := hm
    rw [ho] at ho'; cases ho'
    exact ⟨_, es', ep', hL, r'⟩) hok I.bare
/-- behind a call (or a comprehension's block): the slots of this frame may have changed too, the records at ch may have turned -/
theorem Inv.call {g' : Array GenState} {t' : Nat} {d' : Drawn} {ch : List Addr} (I : Inv X pins σ H s) (u : Un (frs X.stack) ch H H' s.heap h') (hok : HOk X.prog X.w H' h') (hg : AllBare g')
    (hch : ∀ b ∈ ch, (b ∈ X.ex ∨ X.s₀.heap.objs.size ≤ b) ∧ b ≠ X.env.locals ∧ (∀ x c, X.env.cells.lookup x = some c → c ≠ b) ∧ ∀ p ∈ X.pn ++ pins, p.1 ≠ b) :
    Inv X pins σ H' { s with heap := h', gens := g', drawn := d', toks := t' } := by
  obtain ⟨m, ⟨o, es, ep, ho, r⟩, _⟩ := id I.loc
  obtain ⟨sl, hL⟩ := u.any ho I.free fun z => (hch _ z).2.1 rfl
  exact I.step (ch := ch) hch (fun b o hL hb hc e n => u.keep b o e n (fun z => (List.mem_cons.mp (I.stkSub b z)).elim hL hb) hc) (fun b o _ _ hc e n => u.any e n hc) (fun b o hc e n => u.free b o e n hc) (fun b o hc e => u.there b o e hc) u.tups u.frzs u.tbls (fun m' hm => by
    obtain ⟨o', es', ep', ho', r'⟩ := hm
    rw [ho] at ho'; cases ho'
    exact ⟨_, es', ep', hL, r'⟩) hok hg
/-- an untracked record of ours (an iterator) has turned -/
theorem Inv.turned {t' : Nat} {it : Addr} (I : Inv X pins σ H s) (k : ∀ b o, b ≠ it → s.heap.get? b = some o → h'.get? b = some o) (hn : H it = none) (hL : it ≠ X.env.locals)
    (h1 : it ∈ X.ex ∨ X.s₀.heap.objs.size ≤ it) (h2 : ∀ x c, X.env.cells.lookup x = some c → c ≠ it) (h3 : ∀ p ∈ X.pn ++ pins, p.1 ≠ it) : Inv X pins σ H { s with heap := h', toks := t' } := by
  have nit : ∀ b u, H b = some u → b ≠ it := fun b u e z => by rw [z, hn] at e; cases e
  refine I.step (g' := s.gens) (d' := s.drawn) (ch := [it]) (fun b hb => ?_) (fun b o _ _ hc e _ => k b o (fun z => hc (by simp [z])) e) (fun b o _ _ hc e _ => ⟨o.slots, k b o (fun z => hc (by simp [z])) e⟩) (fun _ _ _ _ n => n)
    (fun b o hc e => ⟨o, k b o (fun z => hc (by simp [z])) e⟩) (fun _ _ e => e) (fun _ _ _ e => e) (fun b ps e => ⟨#[], by rw [e]; simp⟩) (fun m hm => ?_) (fun b u e => ?_) I.bare
  · have e : b = it := by simpa using hb
    subst e
    exact ⟨h1, hL, h2, h3⟩
  · obtain ⟨o, es, ep, ho, r⟩ := hm
    exact ⟨o, es, ep, k _ o (Ne.symm hL) ho, r⟩
  · refine (I.hok b u e).stay (fun c v hc q => k c v ?_ q) (fun _ q => q) fun _ _ q => q
    rcases hc with z | z
    · rw [z]; exact nit b u e
    · exact nit c _ z
theorem Inv.tok (I : Inv X pins σ H s) (t : Nat) : Inv X pins σ H { s with toks := t } := I.un (h' := s.heap) (t' := t) Un.refl I.hok
/-- all objects kept -/
theorem Inv.kept {t' : Nat} (I : Inv X pins σ H s) (k : ∀ b u, s.heap.get? b = some u → h'.get? b = some u) : Inv X pins σ H { s with heap := h', toks := t' } := I.un (Un.kept k) (I.hok.kept k)
/-- a new object laid and tracked -/
theorem Inv.laid {a : Addr} {o : HO} {t' : Nat} (I : Inv X pins σ H s) (k : ∀ b u, s.heap.get? b = some u → h'.get? b = some u) (hp : s.heap.objs.size ≤ a) (new : ObjOk X.prog X.w (upd H a o) h' a o) :
    Inv X pins σ (upd H a o) { s with heap := h', toks := t' } := I.un (Un.laid k hp (I.hok.fresh hp)) (I.hok.laid k hp new)
/-- an object written -/
theorem Inv.write {x e : Addr} {o : HO} {t' : Nat} (I : Inv X pins σ H s) (mu : Mut (H x)) (he : e = x ∨ H e = some (.own x)) (k : ∀ b u, b ≠ e → s.heap.get? b = some u → h'.get? b = some u) (heo : ∃ u, h'.get? e = some u)
    (new : ObjOk X.prog X.w (upd H x o) h' x o) : Inv X pins σ (upd H x o) { s with heap := h', toks := t' } := I.un (Un.write mu he k heo) (I.hok.write mu he k heo new)
/-- forgetting slots, pins -/
theorem Inv.weak {σ' : List (Option V)} (I : Inv X pins σ H s) (hl : σ'.length = σ.length) (w : ∀ (i : Nat) v, σ'[i]? = some (some v) → σ[i]? = some (some v)) : Inv X pins σ' H s :=
  ⟨I.ok, I.os, I.bare, I.base, let ⟨m, hn, hl'⟩ := I.loc; ⟨m, hn, fun i x v e1 e2 e3 => hl' i x v e1 (w i v e2) e3⟩, I.cell, I.free, I.freeC, I.pin, I.hok, hl.trans I.len⟩
theorem Inv.pins_of {pins' : List (Addr × Obj)} (I : Inv X pins σ H s) (h : ∀ p ∈ pins', s.heap.get? p.1 = some p.2 ∧ H p.1 = none ∧ p.1 ≠ X.env.locals ∧ p.1 ∉ X.fs ∧ ∀ v, p.2.data ≠ .cell v) : Inv X pins' σ H s :=
  ⟨I.ok, I.os, I.bare, I.base, I.loc, I.cell, I.free, I.freeC, fun p hp => (List.mem_append.mp hp).elim (fun z => I.pin p (List.mem_append_left _ z)) (h p), I.hok, I.len⟩

theorem nodup_ix {N : List Str} (hN : N.Nodup) {i j : Nat} {x : Str} (a : N[i]? = some x) (b : N[j]? = some x) : i = j := by
  obtain ⟨h1, e1⟩ := List.getElem?_eq_some_iff.mp a
  obtain ⟨h2, e2⟩ := List.getElem?_eq_some_iff.mp b
  exact (List.getElem_inj hN).mp (e1.trans e2.symm)

/-- a name is stored; what changed -/
theorem store_ok2 {M : Model} {A : Around} {E : Value → Shared → Prop} {i : Nat} {x : Str} {v : V} {u : Value} {Q : Unit → Shared → Prop} (I : Inv X pins σ H s) (hN : X.N.Nodup) (hi : X.N[i]? = some x) (hx : Loc X.env.scope x) (r : RelV v u)
    (h : ∀ s', Inv X pins (σ.set i (some v)) H s' → (∃ a, Heap.SameBut a s.heap s'.heap ∧ (a = X.env.locals ∨ X.env.cells.lookup x = some a)) → Q () s') (hf : X.fn x = true ∨ X.env.scope.names.lookup x = some .local := by first | exact .inl rfl | exact .inr rfl | assumption) : wpAny M A (storeName X.env x u) Q E s := by
  obtain ⟨m, hn, hl⟩ := id I.loc
  have hcls : (X.env.scope.kind == .class || (X.env.scope.kind == .module && X.env.locals != X.env.globals)) = false := by rw [I.ok.kind]; rfl
  have hiσ : i < σ.length := by rw [I.len]; exact (List.getElem?_eq_some_iff.mp hi).1
  have cne := I.cne
  have tracked : ∀ {a : Addr} {h' : Heap}, (∃ o, s.heap.get? a = some o ∧ H a = none) → Heap.SameBut a s.heap h' → HOk X.prog X.w H h' := fun {a h'} ha hs b ob e => by
    obtain ⟨_, _, hfree⟩ := ha
    refine (I.hok b ob e).stay (fun c w' hc q => (hs.2 c ?_).trans q) (fun _ q => q) fun _ _ q => q
    rintro rfl
    rcases hc with rfl | hc
    · rw [hfree] at e; cases e
    · rw [hfree] at hc; cases hc
  rcases hx with hk | hk
  · refine wpAny_storeName_local hk hn (fun h' hn' hs => ?_) hcls
    obtain ⟨oL, _, _, hoL, _⟩ := id hn
    refine h _ ⟨I.ok, I.os, I.bare, ⟨fun b o e n hb hx => ?_, fun b o e n hb hx => ?_, I.base.free, fun b o e hx => ?_, I.base.tups, I.base.frzs, I.base.tbls⟩, ⟨_, hn', fun j y v' e1 e2 e3 => ?_⟩, fun y c e => ?_, I.free, I.freeC, fun p hp => ?_, tracked ⟨oL, hoL, I.free⟩ hs, by simpa using I.len⟩ ⟨_, hs, .inl rfl⟩
    · exact (hs.2 b (Nat.ne_of_lt (Nat.lt_of_lt_of_le (Heap.lt_size e) I.ok.above))).trans (I.base.keep b o e n hb hx)
    · obtain ⟨sl, e1⟩ := I.base.slot b o e n hb hx
      exact ⟨sl, (hs.2 b (Nat.ne_of_lt (Nat.lt_of_lt_of_le (Heap.lt_size e) I.ok.above))).trans e1⟩
    · obtain ⟨o', e1⟩ := I.base.there b o e hx
      exact ⟨o', (hs.2 b (Nat.ne_of_lt (Nat.lt_of_lt_of_le (Heap.lt_size e) I.ok.above))).trans e1⟩
    · by_cases hj : j = i
      · subst hj
        rw [hi] at e1; cases e1
        rw [List.getElem?_set_self hiσ] at e2
        cases e2
        exact ⟨u, r, .inl ⟨hk, by simp⟩⟩
      · rw [List.getElem?_set_ne (Ne.symm hj)] at e2
        obtain ⟨u', r', q⟩ := hl j y v' e1 e2 e3
        refine ⟨u', r', ?_⟩
        rcases q with ⟨k, e⟩ | ⟨k, c, e, z⟩
        · refine .inl ⟨k, ?_⟩
          have : y ≠ x := fun e => hj (nodup_ix hN e1 (e ▸ hi))
          simp [this, e]
        · exact .inr ⟨k, c, e, z.sameBut hs (cne y c e)⟩
    · obtain ⟨w', z⟩ := I.cell y c e
      exact ⟨w', z.sameBut hs (cne y c e)⟩
    · obtain ⟨e, n, ne, nf, d⟩ := I.pin p hp
      exact ⟨(hs.2 p.1 ne).trans e, n, ne, nf, d⟩
  · have hfn : X.fn x = true := by
      rcases hf with z | z
      · exact z
      · rw [z] at hk; cases hk
    obtain ⟨c, hc⟩ := I.ok.has x (.inl hk)
    obtain ⟨w', z⟩ := I.cell x c hc
    refine wpAny_storeName_cell I.ok.kind hk hc z (fun h' hc' hs => ?_)
    obtain ⟨oc, hoc, hocd⟩ := id z
    refine h { s with heap := h' } ⟨I.ok, I.os, I.bare, ⟨fun b o e n hb hx => ?_, fun b o e n hb hx => ?_, I.base.free, fun b o e hx => ?_, I.base.tups, I.base.frzs, I.base.tbls⟩, ⟨m, hn.sameBut hs (Ne.symm (cne x c hc)), fun j y v' e1 e2 e3 => ?_⟩, fun y c' e => ?_, I.free, I.freeC, fun p hp => ?_, tracked ⟨oc, hoc, I.freeC x c hc⟩ hs, by simpa using I.len⟩ ⟨c, hs, .inr hc⟩
    · exact (hs.2 b (Nat.ne_of_lt (Nat.lt_of_lt_of_le (Heap.lt_size e) (I.ok.cab x c hfn hc)))).trans (I.base.keep b o e n hb hx)
    · obtain ⟨sl, e1⟩ := I.base.slot b o e n hb hx
      exact ⟨sl, (hs.2 b (Nat.ne_of_lt (Nat.lt_of_lt_of_le (Heap.lt_size e) (I.ok.cab x c hfn hc)))).trans e1⟩
    · obtain ⟨o', e1⟩ := I.base.there b o e hx
      exact ⟨o', (hs.2 b (Nat.ne_of_lt (Nat.lt_of_lt_of_le (Heap.lt_size e) (I.ok.cab x c hfn hc)))).trans e1⟩
    · by_cases hj : j = i
      · subst hj
        rw [hi] at e1; cases e1
        rw [List.getElem?_set_self hiσ] at e2
        cases e2
        exact ⟨u, r, .inr ⟨.inl hk, c, hc, hc'⟩⟩
      · rw [List.getElem?_set_ne (Ne.symm hj)] at e2
        obtain ⟨u', r', q⟩ := hl j y v' e1 e2 e3
        refine ⟨u', r', ?_⟩
        rcases q with q | ⟨k, c', e, z'⟩
        · exact .inl q
        · refine .inr ⟨k, c', e, z'.sameBut hs ?_⟩
          rintro rfl
          exact hj (nodup_ix hN e1 (I.ok.inj _ _ _ e hc ▸ hi))
    · by_cases hcc : c' = c
      · subst hcc; exact ⟨_, hc'⟩
      · obtain ⟨w2, z2⟩ := I.cell y c' e
        exact ⟨w2, z2.sameBut hs hcc⟩
    · obtain ⟨e, n, ne, nf, d⟩ := I.pin p hp
      refine ⟨(hs.2 p.1 ?_).trans e, n, ne, nf, d⟩
      intro q
      rw [q, hoc] at e
      have q' : oc = p.2 := Option.some.inj e
      exact d w' (by rw [← q']; exact hocd)
theorem store_ok {M : Model} {A : Around} {E : Value → Shared → Prop} {i : Nat} {x : Str} {v : V} {u : Value} {Q : Unit → Shared → Prop} (I : Inv X pins σ H s) (hN : X.N.Nodup) (hi : X.N[i]? = some x) (hx : Loc X.env.scope x) (r : RelV v u)
    (h : ∀ s', Inv X pins (σ.set i (some v)) H s' → Q () s') (hf : X.fn x = true ∨ X.env.scope.names.lookup x = some .local := by first | exact .inl rfl | exact .inr rfl | assumption) : wpAny M A (storeName X.env x u) Q E s :=
  store_ok2 I hN hi hx r (fun s' I' _ => h s' I') hf
/-- behind a call or a block, the state as it is -/
theorem Inv.call' {s' : Shared} {ch : List Addr} (I : Inv X pins σ H s) (ho : s'.os = s.os) (u : Un (frs X.stack) ch H H' s.heap s'.heap) (hok : HOk X.prog X.w H' s'.heap) (hg : AllBare s'.gens)
    (hch : ∀ b ∈ ch, (b ∈ X.ex ∨ X.s₀.heap.objs.size ≤ b) ∧ b ≠ X.env.locals ∧ (∀ x c, X.env.cells.lookup x = some c → c ≠ b) ∧ ∀ p ∈ X.pn ++ pins, p.1 ≠ b) : Inv X pins σ H' s' := by
  obtain ⟨h', g', d', t', o'⟩ := s'
  have e : o' = s.os := ho
  subst e
  exact I.call (g' := g') (t' := t') (d' := d') u hok hg hch
end

/-! ### the judgements -/
/-- an exception: its class, its own dict's address (where it has one), the abstract heap behind it -/
abbrev XK := Value → Option Addr → Hp → Prop
abbrev St := List (Option V)
abbrev VK := V → Hp → Prop
/-- an expression's reading; a test's; an argument list's -/
abbrev TE := St → Hp → VK → Prop
abbrev TT := St → Hp → (Bool → Hp → Prop) → Prop
abbrev TA := St → Hp → (List V → Hp → Prop) → Prop
/-- what is wanted behind a statement -/
structure Ends where
  nx : St → Hp → Prop
  rt : VK
  bk : St → Hp → Prop := fun _ _ => False
  ct : St → Hp → Prop := fun _ _ => False
abbrev TS := Ends → St → Hp → Prop

def EP (X : Cx) (pins : List (Addr × Obj)) (σ : St) (Q : VK) (u : Value) (s' : Shared) : Prop := ∃ v H', Inv X pins σ H' s' ∧ RelV v u ∧ Q v H'
def TP (X : Cx) (pins : List (Addr × Obj)) (σ : St) (Q : Bool → Hp → Prop) (b : Bool) (s' : Shared) : Prop := ∃ H', Inv X pins σ H' s' ∧ Q b H'
def AP (X : Cx) (pins : List (Addr × Obj)) (σ : St) (Q : List V → Hp → Prop) (us : List Value) (s' : Shared) : Prop := ∃ vs H', Inv X pins σ H' s' ∧ Vals vs us ∧ Q vs H'
def SP (X : Cx) (pins : List (Addr × Obj)) (D : Ends) (f : Flow) (s' : Shared) : Prop :=
  match f with
  | .next => ∃ σ' H', Inv X pins σ' H' s' ∧ D.nx σ' H'
  | .brk => ∃ σ' H', Inv X pins σ' H' s' ∧ D.bk σ' H'
  | .cont => ∃ σ' H', Inv X pins σ' H' s' ∧ D.ct σ' H'
  | .ret u => ∃ v σ' H', Inv X pins σ' H' s' ∧ RelV v u ∧ D.rt v H'

def PE (X : Cx) (e : Expr) (t : TE) : Prop :=
  ∀ (pins : List (Addr × Obj)) (s : Shared) (σ : St) (H : Hp) (Q : VK), Inv X pins σ H s → t σ H Q → wpAny (model X.prog X.w) X.A (eval e X.env) (EP X pins σ Q) X.xe s
def PT (X : Cx) (e : Expr) (t : TT) : Prop :=
  ∀ (pins : List (Addr × Obj)) (s : Shared) (σ : St) (H : Hp) (Q : Bool → Hp → Prop), Inv X pins σ H s → t σ H Q → wpAny (model X.prog X.w) X.A (isTrue e X.env (eval e X.env)) (TP X pins σ Q) X.xe s
/-- a test whatever its 'whole' is (and, or) -/
def PW (X : Cx) (e : Expr) (t : TT) : Prop :=
  ∀ (whole : Sem Value) (pins : List (Addr × Obj)) (s : Shared) (σ : St) (H : Hp) (Q : Bool → Hp → Prop), Inv X pins σ H s → t σ H Q → wpAny (model X.prog X.w) X.A (isTrue e X.env whole) (TP X pins σ Q) X.xe s
theorem PW.pt {X : Cx} {e : Expr} {t : TT} (h : PW X e t) : PT X e t := h _
/-- an argument list (no star), from the left -/
def PA (X : Cx) (es : List Expr) (t : TA) : Prop :=
  ∀ (pos : Pos) (pins : List (Addr × Obj)) (s : Shared) (σ : St) (H : Hp) (Q : List V → Hp → Prop), Inv X pins σ H s → t σ H Q → wpAny (model X.prog X.w) X.A (spliced (backTo pos (starEach es X.env))) (AP X pins σ Q) X.xe s
def PS (X : Cx) (st : Stmt) (t : TS) : Prop :=
  ∀ (pins : List (Addr × Obj)) (s : Shared) (σ : St) (H : Hp) (D : Ends), Inv X pins σ H s → t D σ H → wpAny (model X.prog X.w) X.A (exec st X.env) (SP X pins D) X.xe s
def PSs (X : Cx) (st : List Stmt) (t : TS) : Prop :=
  ∀ (pins : List (Addr × Obj)) (s : Shared) (σ : St) (H : Hp) (D : Ends), Inv X pins σ H s → t D σ H → wpAny (model X.prog X.w) X.A (execs st X.env) (SP X pins D) X.xe s
/-- weaken the end -/
theorem thn {α : Type} {t : Sem α} {Q Q' : α → Shared → Prop} {M : Model} {A : Around} {E : Value → Shared → Prop} {s : Shared} (h : wpAny M A t Q E s) (hQ : ∀ a s, Q a s → Q' a s) : wpAny M A t Q' E s := wpAny_mono h hQ fun _ _ x => x
end L2

namespace L2
open PySem PySem.Spec PyProof.Rows
section
variable {X : Cx}

/-- two expressions in a row -/
theorem bin {a b : Expr} {ta tb : TE} (ha : PE X a ta) (hb : PE X b tb) {pins : List (Addr × Obj)} {s : Shared} {σ : St} {H : Hp} {R : V → V → Hp → Prop} (I : Inv X pins σ H s) (h : ta σ H fun x H1 => tb σ H1 fun y H2 => R x y H2)
    {α : Type} {Q : α → Shared → Prop} {f : Value → Value → Sem α}
    (hf : ∀ v u s2 x y H2, Inv X pins σ H2 s2 → RelV x v → RelV y u → R x y H2 → wpAny (model X.prog X.w) X.A (f v u) Q X.xe s2) :
    wpAny (model X.prog X.w) X.A (eval a X.env) (fun v s₁ => wpAny (model X.prog X.w) X.A (eval b X.env) (fun u s₂ => wpAny (model X.prog X.w) X.A (f v u) Q X.xe s₂) X.xe s₁) X.xe s := by
  refine thn (ha pins s σ H _ I h) fun v s1 ⟨x, H1, I1, r1, q1⟩ => ?_
  refine thn (hb pins s1 σ H1 _ I1 q1) fun u s2 ⟨y, H2, I2, r2, q2⟩ => ?_
  exact hf v u s2 x y H2 I2 r1 r2 q2

/-! ### names and constants -/
def tVar (i : Nat) : TE := fun σ H Q => ∃ v, σ[i]? = some (some v) ∧ Q v H
def tC (v : V) : TE := fun _ H Q => Q v H
theorem pe_var {i : Nat} {x : Str} {pos : Pos} (hN : X.N[i]? = some x) (hv : Vis X.env.scope x) (hd : (x == ("__debug__" : Str)) = false := by decide) (hcd : (x == ("__classdict__" : Str)) = false := by decide) : PE X (.Name x pos) (tVar i) := by
  intro pins s σ H Q I h
  obtain ⟨v, e, h⟩ := h
  obtain ⟨m, hn, hl⟩ := I.loc
  obtain ⟨u, r, l⟩ := hl i x v hN e hv
  have fin : EP X pins σ Q u s := ⟨v, H, I, r, h⟩
  rcases l with ⟨hk, hm⟩ | ⟨hk, c, hc, hcell⟩
  · exact wpAny_Name (wpAny_loadName_local I.ok.kind hk hn hm fin) hd
  · rcases hk with hk | hk
    · exact wpAny_Name (wpAny_loadName_cell I.ok.kind hk hc hcell fin) hd
    · exact wpAny_Name (wpAny_loadName_free I.ok.kind hk hc hcell fin hcd) hd
theorem pe_int {i j pos} : PE X (.Constant (.int i) j pos) (tC (.int i)) := fun _ _ _ H _ I h => wpAny_Constant_int ⟨.int i, H, I.tok _, ⟨_, rfl⟩, h⟩
theorem pe_bl {b j pos} : PE X (.Constant (.bool b) j pos) (tC (.bl b)) := fun _ _ _ H _ I h => Constant_bool ⟨.bl b, H, I, rfl, h⟩
theorem pe_non {j pos} : PE X (.Constant .none j pos) (tC .non) := fun _ _ _ H _ I h => Constant_none ⟨.non, H, I, rfl, h⟩
theorem pe_str {x j pos} : PE X (.Constant (.str x) j pos) (tC (.str x)) := fun _ _ _ H _ I h => Calls.Constant_str ⟨.str x, H, I.tok _, ⟨_, rfl⟩, h⟩

/-- a global name of the def -/
def Gl (X : Cx) (x : Str) : Prop := X.env.kindOf x = some .globalImplicit
theorem ld_glob {E : Value → Shared → Prop} {pins : List (Addr × Obj)} {s : Shared} {σ : St} {H : Hp} {x : Str} {u : Value} {pos : Pos} {Q : Value → Shared → Prop} (I : Inv X pins σ H s) (hg : Gl X x) (hm : X.mg x = some u) (h : Q u s)
    (hd : (x == ("__debug__" : Str)) = false := by decide) : wpAny (model X.prog X.w) X.A (eval (.Name x pos) X.env) Q E s :=
  Calls.Name_function_global I.ok.kind hg (Calls.loadGlobal_global (by rw [I.ok.glob]; exact I.mod.glob.keeps I.bk) hm h) hd
theorem ld_blt {E : Value → Shared → Prop} {pins : List (Addr × Obj)} {s : Shared} {σ : St} {H : Hp} {x : Str} {u : Value} {pos : Pos} {Q : Value → Shared → Prop} (I : Inv X pins σ H s) (hg : Gl X x) (hm : X.mg x = none) (hv : bootBuiltins x = some u) (h : Q u s)
    (hn : x ≠ "__name__" := by decide) (hd : (x == ("__debug__" : Str)) = false := by decide) : wpAny (model X.prog X.w) X.A (eval (.Name x pos) X.env) Q E s := by
  obtain ⟨mb, h1, h2⟩ := I.mod.blt
  exact Calls.Name_function_global I.ok.kind hg (Calls.loadGlobal_builtin (by rw [I.ok.glob]; exact I.mod.glob.keeps I.bk) hm (by rw [I.ok.blt]; exact h1.keeps I.bk) ((h2 x hn).trans hv) h) hd
/-- a module's constant, a class, a function, as a value -/
theorem pe_glob {x : Str} {v : V} {u : Value} {pos : Pos} (hg : Gl X x) (hm : X.mg x = some u) (r : RelV v u) (hd : (x == ("__debug__" : Str)) = false := by decide) : PE X (.Name x pos) (tC v) :=
  fun _ _ _ H _ I h => ld_glob I hg hm ⟨v, H, I, r, h⟩ hd
theorem pe_bltn {x : Str} {v : V} {u : Value} {pos : Pos} (hg : Gl X x) (hm : X.mg x = none) (hv : bootBuiltins x = some u) (r : RelV v u) (hn : x ≠ "__name__" := by decide) (hd : (x == ("__debug__" : Str)) = false := by decide) : PE X (.Name x pos) (tC v) :=
  fun _ _ _ H _ I h => ld_blt I hg hm hv ⟨v, H, I, r, h⟩ hn hd

/-! ### arithmetic -/
/-- two ints -/
def t2I (ta tb : TE) (k : Int → Int → Hp → Prop) : St → Hp → Prop := fun σ H => ta σ H fun x H1 => tb σ H1 fun y H2 => ∃ i j, x = .int i ∧ y = .int j ∧ k i j H2
def tAdd (ta tb : TE) : TE := fun σ H Q => t2I ta tb (fun i j H2 => Q (.int (i + j)) H2) σ H
def tSub (ta tb : TE) : TE := fun σ H Q => t2I ta tb (fun i j H2 => Q (.int (i - j)) H2) σ H
/-- the left factor below 2^64 -/
def tMul (ta tb : TE) : TE := fun σ H Q => t2I ta tb (fun i j H2 => (-(2 ^ 64) < i ∧ i < 2 ^ 64) ∧ Q (.int (i * j)) H2) σ H
variable {a b : Expr} {ta tb : TE} {pos : Pos}
theorem pe_add (ha : PE X a ta) (hb : PE X b tb) : PE X (.BinOp a .Add b pos) (tAdd ta tb) := by
  intro pins s σ H Q I h
  refine wpAny_BinOp (bin ha hb I h fun v u s2 x y H2 I2 rx ry q => ?_)
  obtain ⟨i, j, rfl, rfl, q⟩ := q
  obtain ⟨t, rfl⟩ := rx
  obtain ⟨t', rfl⟩ := ry
  exact add_int ⟨.int _, H2, I2.tok _, ⟨_, rfl⟩, q⟩
theorem pe_sub (ha : PE X a ta) (hb : PE X b tb) : PE X (.BinOp a .Sub b pos) (tSub ta tb) := by
  intro pins s σ H Q I h
  refine wpAny_BinOp (bin ha hb I h fun v u s2 x y H2 I2 rx ry q => ?_)
  obtain ⟨i, j, rfl, rfl, q⟩ := q
  obtain ⟨t, rfl⟩ := rx
  obtain ⟨t', rfl⟩ := ry
  exact sub_int ⟨.int _, H2, I2.tok _, ⟨_, rfl⟩, q⟩
theorem pe_mul (ha : PE X a ta) (hb : PE X b tb) : PE X (.BinOp a .Mult b pos) (tMul ta tb) := by
  intro pins s σ H Q I h
  refine wpAny_BinOp (bin ha hb I h fun v u s2 x y H2 I2 rx ry q => ?_)
  obtain ⟨i, j, rfl, rfl, ⟨q1, q2⟩, q⟩ := q
  obtain ⟨t, rfl⟩ := rx
  obtain ⟨t', rfl⟩ := ry
  exact mul_int ⟨.int _, H2, I2.tok _, ⟨_, rfl⟩, q⟩ (.of_left (intBits_le_64 q1 q2))

/-! ### comparisons -/
def PC (X : Cx) (op : CmpOp) (a b : Expr) (t : TE) : Prop :=
  ∀ (pins : List (Addr × Obj)) (s : Shared) (σ : St) (H : Hp) (Q : VK), Inv X pins σ H s → t σ H Q →
    wpAny (model X.prog X.w) X.A (eval a X.env) (fun v s₁ => wpAny (model X.prog X.w) X.A (eval b X.env) (fun u s₂ => wpAny (model X.prog X.w) X.A (compareOp op v u) (EP X pins σ Q) X.xe s₂) X.xe s₁) X.xe s
theorem nobehind (b : Expr) {op : CmpOp} (h : op ≠ .In) (h2 : op ≠ .NotIn) : behindInMarks op b = false := by
  have e1 : (op == CmpOp.In) = false := by cases op <;> first | rfl | exact absurd rfl h
  have e2 : (op == CmpOp.NotIn) = false := by cases op <;> first | rfl | exact absurd rfl h2
  cases b <;> simp [behindInMarks, e1, e2]
def tCmp (p : Int → Int → Bool) (ta tb : TE) : TE := fun σ H Q => t2I ta tb (fun i j H2 => Q (.bl (p i j)) H2) σ H
abbrev tLt : TE → TE → TE := tCmp fun i j => decide (i < j)
abbrev tLe : TE → TE → TE := tCmp fun i j => decide (i ≤ j)
abbrev tGt : TE → TE → TE := tCmp fun i j => decide (j < i)
abbrev tGe : TE → TE → TE := tCmp fun i j => decide (j ≤ i)
abbrev tEqI : TE → TE → TE := tCmp fun i j => decide (i = j)
abbrev tNeI : TE → TE → TE := tCmp fun i j => !decide (i = j)
/-- a comparison of two ints, by its rule -/
theorem pc_int {op : CmpOp} {p : Int → Int → Bool} (ha : PE X a ta) (hb : PE X b tb)
    (rule : ∀ (i j : Int) (t u : Tok) (Q : Value → Shared → Prop) (s : Shared), Q (.bool (p i j)) s → wpAny (model X.prog X.w) X.A (compareOp op (.int i t) (.int j u)) Q X.xe s) : PC X op a b (tCmp p ta tb) := by
  intro pins s σ H Q I h
  refine bin ha hb I h fun v u s2 x y H2 I2 rx ry q => ?_
  obtain ⟨i, j, rfl, rfl, q⟩ := q
  obtain ⟨t, rfl⟩ := rx
  obtain ⟨t', rfl⟩ := ry
  exact rule i j t t' _ s2 ⟨.bl _, H2, I2, rfl, q⟩
theorem pc_lt (ha : PE X a ta) (hb : PE X b tb) : PC X .Lt a b (tLt ta tb) := pc_int ha hb fun _ _ _ _ _ _ h => lt_int h
theorem pc_le (ha : PE X a ta) (hb : PE X b tb) : PC X .LtE a b (tLe ta tb) := pc_int ha hb fun _ _ _ _ _ _ h => le_int h
theorem pc_gt (ha : PE X a ta) (hb : PE X b tb) : PC X .Gt a b (tGt ta tb) := pc_int ha hb fun _ _ _ _ _ _ h => gt_int h
theorem pc_ge (ha : PE X a ta) (hb : PE X b tb) : PC X .GtE a b (tGe ta tb) := pc_int ha hb fun _ _ _ _ _ _ h => ge_int h
theorem pc_eqI (ha : PE X a ta) (hb : PE X b tb) : PC X .Eq a b (tEqI ta tb) := pc_int ha hb fun _ _ _ _ _ _ h => eq_int (by rw [Bool.beq_eq_decide_eq]; exact h)
theorem pc_neI (ha : PE X a ta) (hb : PE X b tb) : PC X .NotEq a b (tNeI ta tb) := pc_int ha hb fun _ _ _ _ _ _ h => ne_int (by rw [bne, Bool.beq_eq_decide_eq]; exact h)
/-- is None -/
def tIsN (ta : TE) : TE := fun σ H Q => ta σ H fun x H1 => Q (.bl (decide (x = .non))) H1
def tNotN (ta : TE) : TE := fun σ H Q => ta σ H fun x H1 => Q (.bl (!decide (x = .non))) H1
theorem RelV.none_iff {x : V} {v : Value} (r : RelV x v) : (v == Value.none) = decide (x = .non) := by
  cases x with
  | non => cases r; rfl
  | bl _ => cases r; rfl
  | int _ => obtain ⟨t, rfl⟩ := r; rfl
  | str _ => obtain ⟨t, rfl⟩ := r; rfl
  | byt _ => obtain ⟨t, rfl⟩ := r; rfl
  | flt _ => obtain ⟨t, rfl⟩ := r; rfl
  | ref _ => cases r; rfl
  | ty _ => cases r; rfl
theorem pc_isN {j pos'} (ha : PE X a ta) : PC X .Is a (.Constant .none j pos') (tIsN ta) := by
  intro pins s σ H Q I h
  refine thn (ha pins s σ H _ I h) fun v s1 ⟨x, H1, I1, r1, q1⟩ => ?_
  exact Constant_none (is_none_gen ⟨.bl _, H1, I1, by rw [r1.none_iff]; rfl, q1⟩)
theorem pc_notN {j pos'} (ha : PE X a ta) : PC X .IsNot a (.Constant .none j pos') (tNotN ta) := by
  intro pins s σ H Q I h
  refine thn (ha pins s σ H _ I h) fun v s1 ⟨x, H1, I1, r1, q1⟩ => ?_
  exact Constant_none (isnot_none_gen ⟨.bl _, H1, I1, by rw [r1.none_iff]; rfl, q1⟩)
/-- a comparison as a value, as a test -/
def tB (t : TE) : TT := fun σ H Q => t σ H fun x H1 => ∃ c, x = .bl c ∧ Q c H1
theorem pe_cmp {op : CmpOp} {t : TE} (h : PC X op a b t) (h1 : behindInMarks op b = false := by first | exact nobehind _ (by decide) (by decide) | rfl) : PE X (.Compare a [op] [b] pos) t := fun pins s σ H Q I hw => wpAny_Compare1 (h pins s σ H Q I hw) h1
theorem pt_cmp {op : CmpOp} {t : TE} (h : PC X op a b t) (h1 : behindInMarks op b = false := by first | exact nobehind _ (by decide) (by decide) | rfl) : PT X (.Compare a [op] [b] pos) (tB t) := by
  intro pins s σ H Q I hw
  refine wpAny_isTrue_Compare1 (thn (h pins s σ H _ I hw) fun v s1 h1 => thn h1 fun u s2 h2 => thn h2 fun c s3 ⟨x, H1, I1, r1, q1⟩ => ?_) h1
  obtain ⟨d, rfl, q⟩ := q1
  cases r1
  exact wpAny_truthy_bool ⟨H1, I1, q⟩
/-- an expression whose value is a bool, as a test -/
theorem pt_val {e : Expr} {t : TE} (h : PE X e t) (he : ∀ whole, isTrue e X.env whole = (do let v ← whole; standAt e.pos; holding [v] (truthy v)) := by intro _; rfl) : PT X e (tB t) := by
  intro pins s σ H Q I hw
  refine isTrue_plain (thn (h pins s σ H _ I hw) fun v s1 ⟨x, H1, I1, r1, q1⟩ => ?_) (he _)
  obtain ⟨d, rfl, q⟩ := q1
  cases r1
  exact wpAny_truthy_bool ⟨H1, I1, q⟩

/-! ### and, or, not -/
variable {tA tB' : TT} {rest : List Expr}
def tAnd (t u : TT) : TT := fun σ H Q => t σ H fun c H1 => if c = true then u σ H1 Q else Q false H1
def tOr (t u : TT) : TT := fun σ H Q => t σ H fun c H1 => if c = true then Q true H1 else u σ H1 Q
def tNot (t : TT) : TT := fun σ H Q => t σ H fun c H1 => Q (!c) H1
theorem pw_and1 (ha : PT X a tA) : PW X (.BoolOp .And [a] pos) tA := by
  intro wh pins s σ H Q I h
  refine isTrue_and (thn (ha pins s σ H Q I h) fun c s1 e => ?_)
  cases c with
  | true => exact isTrue_and_nil e
  | false => exact e
theorem pw_or1 (ha : PT X a tA) : PW X (.BoolOp .Or [a] pos) tA := by
  intro wh pins s σ H Q I h
  refine isTrue_or (thn (ha pins s σ H Q I h) fun c s1 e => ?_)
  cases c with
  | false => exact isTrue_or_nil e
  | true => exact e
theorem pw_and (ha : PT X a tA) (hb : PW X (.BoolOp .And (b :: rest) pos) tB') : PW X (.BoolOp .And (a :: b :: rest) pos) (tAnd tA tB') := by
  intro wh pins s σ H Q I h
  refine isTrue_and (thn (ha pins s σ H _ I h) fun c s1 ⟨H1, I1, q1⟩ => ?_)
  cases c with
  | true => exact hb wh pins s1 σ H1 Q I1 q1
  | false => exact ⟨H1, I1, q1⟩
theorem pw_or (ha : PT X a tA) (hb : PW X (.BoolOp .Or (b :: rest) pos) tB') : PW X (.BoolOp .Or (a :: b :: rest) pos) (tOr tA tB') := by
  intro wh pins s σ H Q I h
  refine isTrue_or (thn (ha pins s σ H _ I h) fun c s1 ⟨H1, I1, q1⟩ => ?_)
  cases c with
  | true => exact ⟨H1, I1, q1⟩
  | false => exact hb wh pins s1 σ H1 Q I1 q1
theorem pt_not (ha : PT X a tA) : PT X (.UnaryOp .Not a pos) (tNot tA) := by
  intro pins s σ H Q I h
  exact isTrue_not (ha pins s σ H (fun c H1 => Q (!c) H1) I h)
/-- .. as values (bools) -/
def tAndV (ta tb : TE) : TE := fun σ H Q => ta σ H fun x H1 => ∃ c, x = .bl c ∧ if c = true then tb σ H1 Q else Q (.bl false) H1
def tOrV (ta tb : TE) : TE := fun σ H Q => ta σ H fun x H1 => ∃ c, x = .bl c ∧ if c = true then Q (.bl true) H1 else tb σ H1 Q
def tNotV (ta : TE) : TE := fun σ H Q => ta σ H fun x H1 => ∃ c, x = .bl c ∧ Q (.bl (!c)) H1
theorem pe_one {op} {t : TE} (h : PE X a t) : PE X (.BoolOp op [a] pos) t := fun pins s σ H Q I hw => BoolOp_one (h pins s σ H Q I hw)
theorem pe_and (ha : PE X a ta) (hb : PE X (.BoolOp .And (b :: rest) pos) tb) : PE X (.BoolOp .And (a :: b :: rest) pos) (tAndV ta tb) := by
  intro pins s σ H Q I h
  refine BoolOp_and (thn (ha pins s σ H _ I h) fun v s1 ⟨x, H1, I1, r1, q1⟩ => ?_)
  obtain ⟨c, rfl, q1⟩ := q1
  cases r1
  refine wpAny_truthy_bool ?_
  cases c with
  | true => exact hb pins s1 σ H1 Q I1 q1
  | false => exact ⟨.bl false, H1, I1, rfl, q1⟩
theorem pe_or (ha : PE X a ta) (hb : PE X (.BoolOp .Or (b :: rest) pos) tb) : PE X (.BoolOp .Or (a :: b :: rest) pos) (tOrV ta tb) := by
  intro pins s σ H Q I h
  refine BoolOp_or (thn (ha pins s σ H _ I h) fun v s1 ⟨x, H1, I1, r1, q1⟩ => ?_)
  obtain ⟨c, rfl, q1⟩ := q1
  cases r1
  refine wpAny_truthy_bool ?_
  cases c with
  | false => exact hb pins s1 σ H1 Q I1 q1
  | true => exact ⟨.bl true, H1, I1, rfl, q1⟩
theorem pe_not (ha : PE X a ta) : PE X (.UnaryOp .Not a pos) (tNotV ta) := by
  intro pins s σ H Q I h
  refine UnaryOp_ (thn (ha pins s σ H _ I h) fun v s1 ⟨x, H1, I1, r1, q1⟩ => ?_)
  obtain ⟨c, rfl, q1⟩ := q1
  cases r1
  exact not_of (wpAny_truthy_bool ⟨.bl (!c), H1, I1, rfl, q1⟩)
/-- a if t else b -/
def tIf (t : TT) (ta tb : TE) : TE := fun σ H Q => t σ H fun c H1 => if c = true then ta σ H1 Q else tb σ H1 Q
theorem pe_ifExp {c : Expr} (hc : PT X c tA) (ha : PE X a ta) (hb : PE X b tb) : PE X (.IfExp c a b pos) (tIf tA ta tb) := by
  intro pins s σ H Q I h
  refine wpAny_IfExp (thn (hc pins s σ H _ I h) fun d s1 ⟨H1, I1, q1⟩ => ?_)
  cases d with
  | true => exact ha pins s1 σ H1 Q I1 q1
  | false => exact hb pins s1 σ H1 Q I1 q1
end
end L2

namespace L2
open PySem PySem.Spec PyProof.Rows

/-! ### a list, a tuple that is read: tracked, frozen, or an object of the module -/
def SqL (K : PySem.W.Frag) (H : Hp) (a : Addr) (xs : List V) : Prop :=
  Rd H a (.lst xs) ∨
    ∃ (o : Obj) (its : Array Value) (n : Nat), K.lookup a = some o ∧ o.cls = .type "list" ∧ o.dict = none ∧ o.data = .seq its n ∧ its.size ≤ sizeLine ∧ Vals xs its.toList
def SqT (K : PySem.W.Frag) (H : Hp) (a : Addr) (xs : List V) : Prop :=
  Rd H a (.tup xs) ∨
    ∃ (o : Obj) (its : Array Value) (n : Nat), K.lookup a = some o ∧ o.cls = .type "tuple" ∧ o.data = .seq its n ∧ its.size ≤ sizeLine ∧ Vals xs its.toList
def absV : Value → Option V
  | .none => some .non
  | .bool b => some (.bl b)
  | .int i _ => some (.int i)
  | .str x _ => some (.str x)
  | .bytes b _ => some (.byt b)
  | .float b _ => some (.flt b)
  | .ref a => some (.ref a)
  | .type n => some (.ty n)
  | _ => none
theorem RelV.abs {x : V} {u : Value} (r : RelV x u) : absV u = some x := by
  cases x with
  | non => cases r; rfl
  | bl _ => cases r; rfl
  | int _ => obtain ⟨t, rfl⟩ := r; rfl
  | str _ => obtain ⟨t, rfl⟩ := r; rfl
  | byt _ => obtain ⟨t, rfl⟩ := r; rfl
  | flt _ => obtain ⟨t, rfl⟩ := r; rfl
  | ref _ => cases r; rfl
  | ty _ => cases r; rfl
theorem RelV.inj {x y : V} {u : Value} (r : RelV x u) (q : RelV y u) : x = y := Option.some.inj (r.abs.symm.trans q.abs)
theorem Vals.inj : ∀ {xs ys : List V} {us : List Value}, Vals xs us → Vals ys us → xs = ys
  | _, _, _, .nil, .nil => rfl
  | _, _, _, .cons r t, .cons r' t' => by rw [r.inj r', Vals.inj t t']
section
variable {X : Cx} {pins : List (Addr × Obj)} {σ : St} {H : Hp} {s : Shared} {a : Addr} {xs ys : List V}
theorem SqL.of {K : PySem.W.Frag} (h : H a = some (.lst xs)) : SqL K H a xs := .inl (.inl h)
theorem SqT.of {K : PySem.W.Frag} (h : H a = some (.tup xs)) : SqT K H a xs := .inl (.inl h)
theorem Inv.list (I : Inv X pins σ H s) (h : SqL X.K H a xs) : ∃ its : List Value, Vals xs its ∧ PlainL s.heap a its.toArray ∧ xs.length ≤ sizeLine := by
  rcases h with h | ⟨o, its, n, hk, hc, hd, hs, hz, r⟩
  · obtain ⟨z, its, n, r, e⟩ := h.ok I.hok
    exact ⟨its, r, ⟨_, n, e, rfl, rfl, rfl⟩, z⟩
  · refine ⟨its.toList, r, ⟨o, n, I.kIn a o hk, hc, hd, by simpa using hs⟩, ?_⟩
    have e := r.length
    simp only [Array.length_toList] at e
    omega
theorem Inv.tuple (I : Inv X pins σ H s) (h : SqT X.K H a xs) : ∃ its : List Value, Vals xs its ∧ IsTup s.heap a its.toArray ∧ xs.length ≤ sizeLine := by
  rcases h with h | ⟨o, its, n, hk, hc, hs, hz, r⟩
  · obtain ⟨z, its, r, p⟩ := h.ok I.hok
    exact ⟨its, r, p, z⟩
  · refine ⟨its.toList, r, ⟨o, I.kIn a o hk, hc, n, by simpa using hs⟩, ?_⟩
    have e := r.length
    simp only [Array.length_toList] at e
    omega
theorem Inv.list_inj (I : Inv X pins σ H s) (h : SqL X.K H a xs) (h' : SqL X.K H a ys) : xs = ys := by
  obtain ⟨its, r, ⟨o, n, e, _, _, d⟩, _⟩ := I.list h
  obtain ⟨its', r', ⟨o', n', e', _, _, d'⟩, _⟩ := I.list h'
  rw [e] at e'; cases e'
  rw [d] at d'
  injection d' with d1 _
  have : its = its' := by simpa using congrArg Array.toList d1
  subst this
  exact r.inj r'
theorem Inv.tuple_inj (I : Inv X pins σ H s) (h : SqT X.K H a xs) (h' : SqT X.K H a ys) : xs = ys := by
  obtain ⟨its, r, ⟨o, e, _, n, d⟩, _⟩ := I.tuple h
  obtain ⟨its', r', ⟨o', e', _, n', d'⟩, _⟩ := I.tuple h'
  rw [e] at e'; cases e'
  rw [d] at d'
  injection d' with d1 _
  have : its = its' := by simpa using congrArg Array.toList d1
  subst this
  exact r.inj r'
end

/-! ### another wish about exceptions -/
abbrev Cx.wish (X : Cx) (E : Value → Shared → Prop) : Cx := { X with xe := E }
/-- no exception leaves -/
abbrev Cx.nox (X : Cx) : Cx := X.wish fun _ _ => False
theorem Cx.Ok.wish {X : Cx} (ok : X.Ok) (E : Value → Shared → Prop) : (X.wish E).Ok :=
  ⟨ok.mod, ok.kind, ok.glob, ok.blt, ok.above, ok.inj, ok.has, ok.cab, ok.hd, ok.frames, ok.stk, ok.exf, ok.bs, ok.bsz, ok.noex, ok.exfs, ok.funs, ok.frf⟩
theorem Cx.Ok.unwish {X : Cx} {E : Value → Shared → Prop} (ok : (X.wish E).Ok) : X.Ok :=
  ⟨ok.mod, ok.kind, ok.glob, ok.blt, ok.above, ok.inj, ok.has, ok.cab, ok.hd, ok.frames, ok.stk, ok.exf, ok.bs, ok.bsz, ok.noex, ok.exfs, ok.funs, ok.frf⟩
section
variable {X : Cx} {pins : List (Addr × Obj)} {σ : St} {H : Hp} {s : Shared} {E : Value → Shared → Prop}
theorem Inv.wish (I : Inv X pins σ H s) (E : Value → Shared → Prop) : Inv (X.wish E) pins σ H s := ⟨I.ok.wish E, I.os, I.bare, I.base, I.loc, I.cell, I.free, I.freeC, I.pin, I.hok, I.len⟩
theorem Inv.unwish (I : Inv (X.wish E) pins σ H s) : Inv X pins σ H s := ⟨I.ok.unwish, I.os, I.bare, I.base, I.loc, I.cell, I.free, I.freeC, I.pin, I.hok, I.len⟩
theorem SP.unwish {D : Ends} {f : Flow} {s' : Shared} (h : SP (X.wish E) pins D f s') : SP X pins D f s' := by
  cases f with
  | next => obtain ⟨σ', H', I, q⟩ := h; exact ⟨σ', H', I.unwish, q⟩
  | brk => obtain ⟨σ', H', I, q⟩ := h; exact ⟨σ', H', I.unwish, q⟩
  | cont => obtain ⟨σ', H', I, q⟩ := h; exact ⟨σ', H', I.unwish, q⟩
  | ret u => obtain ⟨v, σ', H', I, r, q⟩ := h; exact ⟨v, σ', H', I.unwish, r, q⟩
theorem PE.nox {e : Expr} {t : TE} (h : PE X.nox e t) : PE X e t := fun pins s σ H Q I hw =>
  wpAny_mono (h pins s σ H Q (I.wish _) hw) (fun _ _ ⟨v, H', I', r, q⟩ => ⟨v, H', I'.unwish, r, q⟩) fun _ _ z => False.elim z
theorem PT.nox {e : Expr} {t : TT} (h : PT X.nox e t) : PT X e t := fun pins s σ H Q I hw =>
  wpAny_mono (h pins s σ H Q (I.wish _) hw) (fun _ _ ⟨H', I', q⟩ => ⟨H', I'.unwish, q⟩) fun _ _ z => False.elim z
theorem PSs.nox {st : List Stmt} {t : TS} (h : PSs X.nox st t) : PSs X st t := fun pins s σ H D I hw =>
  wpAny_mono (h pins s σ H D (I.wish _) hw) (fun _ _ q => q.unwish) fun _ _ z => False.elim z
end

/-! ### blocks and small statements -/
section
variable {X : Cx} {st : Stmt} {rest : List Stmt} {t u : TS} {e : Expr} {te : TE} {pos : Pos}
def tNext : TS := fun D σ H => D.nx σ H
def tSeq (t u : TS) : TS := fun D σ H => t { D with nx := u D } σ H
theorem pss_nil : PSs X [] tNext := fun _ _ σ H _ I h => wpAny_execs_nil ⟨σ, H, I, h⟩
theorem pss_cons (h1 : PS X st t) (h2 : PSs X rest u) : PSs X (st :: rest) (tSeq t u) := by
  intro pins s σ H D I h
  refine wpAny_execs_cons (thn (h1 pins s σ H { D with nx := u D } I h) fun f s1 q => ?_)
  cases f with
  | next =>
    obtain ⟨σ', H', I', q⟩ := q
    exact h2 pins s1 σ' H' D I' q
  | ret v => exact q
  | brk => exact q
  | cont => exact q
theorem pss_one (h1 : PS X st t) : PSs X [st] t := by
  intro pins s σ H D I h
  refine wpAny_execs_cons (thn (h1 pins s σ H D I h) fun f s1 q => ?_)
  cases f with
  | next => exact wpAny_execs_nil q
  | ret v => exact q
  | brk => exact q
  | cont => exact q
def tBreak : TS := fun D σ H => D.bk σ H
def tCont : TS := fun D σ H => D.ct σ H
theorem ps_pass : PS X (.Pass pos) tNext := fun _ _ σ H _ I h => wpAny_Pass ⟨σ, H, I, h⟩
theorem ps_break : PS X (.Break pos) tBreak := fun _ _ σ H _ I h => wpAny_Break ⟨σ, H, I, h⟩
theorem ps_continue : PS X (.Continue pos) tCont := fun _ _ σ H _ I h => wpAny_Continue ⟨σ, H, I, h⟩
/-- in a def's body nothing is shown -/
theorem Inv.quiet {pins : List (Addr × Obj)} {σ : St} {H : Hp} {s : Shared} (I : Inv X pins σ H s) : interactive X.env = false := by simp [interactive, I.ok.kind]
/-- a docstring -/
theorem ps_doc {x j pos pos'} : PS X (.Expr (.Constant (.str x) j pos) pos') tNext := fun _ s σ H _ I h => wpAny_Expr (Calls.Constant_str (show SP X _ _ .next { s with toks := s.toks + 1 } from ⟨σ, H, I.tok _, h⟩)) I.quiet
/-- an expression whose value is dropped -/
def tDrop (te : TE) : TS := fun D σ H => te σ H fun _ H1 => D.nx σ H1
theorem ps_expr (he : PE X e te) (hs : swapsWith e none pos.line X.env = pure false := by rfl) : PS X (.Expr e pos) (tDrop te) := by
  intro pins s σ H D I h
  exact wpAny_Expr_any (thn (he pins s σ H _ I h) fun v s1 ⟨x, H1, I1, r1, q1⟩ => ⟨σ, H1, I1, q1⟩) I.quiet hs
def tRet (te : TE) : TS := fun D σ H => te σ H D.rt
theorem ps_ret (he : PE X e te) : PS X (.Return (some e) pos) (tRet te) := by
  intro pins s σ H D I h
  exact wpAny_Return_some (thn (he pins s σ H _ I h) fun v s1 ⟨x, H1, I1, r1, q1⟩ => ⟨x, σ, H1, I1, r1, q1⟩)
def tRetN : TS := fun D _ H => D.rt .non H
theorem ps_retN : PS X (.Return none pos) tRetN := fun _ _ σ H _ I h => wpAny_Return_none ⟨.non, σ, H, I, rfl, h⟩
def tIfS (c : TT) (t u : TS) : TS := fun D σ H => c σ H fun b H1 => if b = true then t D σ H1 else u D σ H1
theorem ps_if {c : Expr} {a b : List Stmt} {tc : TT} (hc : PT X c tc) (ha : PSs X a t) (hb : PSs X b u) : PS X (.If c a b pos) (tIfS tc t u) := by
  intro pins s σ H D I h
  refine wpAny_If (thn (hc pins s σ H _ I h) fun d s1 ⟨H1, I1, q1⟩ => ?_)
  cases d with
  | true => exact ha pins s1 σ H1 D I1 q1
  | false => exact hb pins s1 σ H1 D I1 q1
/-- code that the proof never comes to -/
def tNever : TS := fun _ _ _ => False
theorem ps_never : PS X st tNever := fun _ _ _ _ _ _ h => h.elim
theorem pss_never {sts : List Stmt} : PSs X sts tNever := fun _ _ _ _ _ _ h => h.elim
end

/-! ### targets -/
abbrev TG := V → St → Hp → (St → Hp → Prop) → Prop
abbrev TGs := List V → St → Hp → (St → Hp → Prop) → Prop
def PG (X : Cx) (target : Expr) (t : TG) : Prop :=
  ∀ (pins : List (Addr × Obj)) (s : Shared) (σ : St) (H : Hp) (v : V) (u : Value) (Q : St → Hp → Prop), Inv X pins σ H s → RelV v u → t v σ H Q →
    wpAny (model X.prog X.w) X.A (assign target X.env u) (fun _ s' => ∃ σ' H', Inv X pins σ' H' s' ∧ Q σ' H') X.xe s
/-- several targets, one after another -/
def PGs (X : Cx) (ts : List Expr) (t : TGs) : Prop :=
  ∀ (pins : List (Addr × Obj)) (s : Shared) (σ : St) (H : Hp) (vs : List V) (us : List Value) (Q : St → Hp → Prop), Inv X pins σ H s → Vals vs us → t vs σ H Q →
    wpAny (model X.prog X.w) X.A (assignInOrder ((assignEach ts X.env).map (·.2)) us) (fun _ s' => ∃ σ' H', Inv X pins σ' H' s' ∧ Q σ' H') X.xe s
/-- o[i] = v, by values -/
abbrev TSet := V → V → V → Hp → (Hp → Prop) → Prop
def PSet (X : Cx) (t : TSet) : Prop :=
  ∀ (pins : List (Addr × Obj)) (s : Shared) (σ : St) (H : Hp) (o i v : V) (ov iv u : Value) (Q : Hp → Prop), Inv X pins σ H s → RelV o ov → RelV i iv → RelV v u → t o i v H Q →
    wpAny (model X.prog X.w) X.A (setItem ov iv u) (fun _ s' => ∃ H', Inv X pins σ H' s' ∧ Q H') X.xe s
/-- a op= b, by values -/
abbrev TIp := V → V → Hp → VK → Prop
def PIp (X : Cx) (op : Operator) (t : TIp) : Prop :=
  ∀ (pins : List (Addr × Obj)) (s : Shared) (σ : St) (H : Hp) (x y : V) (v u : Value) (Q : VK), Inv X pins σ H s → RelV x v → RelV y u → t x y H Q →
    wpAny (model X.prog X.w) X.A (inplaceOp op v u) (EP X pins σ Q) X.xe s
section
variable {X : Cx} {pos : Pos}
def gName (i : Nat) : TG := fun v σ H Q => Q (σ.set i (some v)) H
theorem pg_name {i : Nat} {x : Str} (hN : X.N.Nodup) (hi : X.N[i]? = some x) (hx : Loc X.env.scope x) (hf : X.fn x = true ∨ X.env.scope.names.lookup x = some .local := by first | exact .inl rfl | exact .inr rfl | assumption) : PG X (.Name x pos) (gName i) := by
  intro pins s σ H v u Q I r h
  exact wpAny_assign_Name (store_ok I hN hi hx r (fun s' I' => ⟨_, H, I', h⟩) hf)
def gNil : TGs := fun vs σ H Q => vs = [] ∧ Q σ H
def gCons (t : TG) (u : TGs) : TGs := fun vs σ H Q => ∃ v r, vs = v :: r ∧ t v σ H fun σ' H' => u r σ' H' Q
theorem pgs_nil : PGs X [] gNil := by
  intro pins s σ H vs us Q I r h
  obtain ⟨e, h⟩ := h
  subst e
  cases r
  exact assignInOrder_nil ⟨σ, H, I, h⟩
theorem pgs_cons {e : Expr} {es : List Expr} {t : TG} {u : TGs} (h1 : PG X e t) (h2 : PGs X es u)
    (hs : (assignEach (e :: es) X.env).map (·.2) = assign e X.env :: (assignEach es X.env).map (·.2) := by rfl) : PGs X (e :: es) (gCons t u) := by
  intro pins s σ H vs us Q I r h
  obtain ⟨v, vr, e1, h⟩ := h
  subst e1
  cases r with
  | cons r rr =>
    rw [hs]
    refine assignInOrder_cons (thn (h1 pins s σ H _ _ _ I r h) fun _ s1 ⟨σ1, H1, I1, q1⟩ => ?_)
    exact h2 pins s1 σ1 H1 _ _ Q I1 rr q1
/-- (a, b, ..) = a tuple of that length -/
def gTup (K : PySem.W.Frag) (n : Nat) (t : TGs) : TG := fun v σ H Q => ∃ a xs, v = .ref a ∧ SqT K H a xs ∧ xs.length = n ∧ t xs σ H Q
theorem pg_tup {es : List Expr} {k : Nat} {t : TGs} {n : Nat} (hc : X.calm = true) (h : PGs X es t)
    (hn : (assignEach es X.env).length = n := by rfl) (hst : (assignEach es X.env).findIdx? (·.1) = none := by rfl) : PG X (.Tuple es k pos) (gTup X.K n t) := by
  intro pins s σ H v u Q I r hw
  obtain ⟨a, xs, e1, hq, hl, hw⟩ := hw
  subst e1
  cases r
  obtain ⟨its, rv, ht, hz⟩ := I.tuple hq
  refine assign_Tuple_tuple (I.ok.hd hc) ht (by simp [hn, ← hl, rv.length]) hst fun h' hx => ?_
  have I1 : Inv X pins σ H { s with heap := h' } := I.kept (t' := s.toks) fun b o e => hx b o (Nat.ne_of_lt (Heap.lt_size e)) e
  exact h pins _ σ H xs _ Q I1 (by simpa using rv) hw
/-- o[i] = .. -/
def gSub (to ti : TE) (t : TSet) : TG := fun v σ H Q => to σ H fun o H1 => ti σ H1 fun i H2 => t o i v H2 fun H3 => Q σ H3
theorem pg_sub {o i : Expr} {to ti : TE} {t : TSet} (ho : PE X o to) (hi : PE X i ti) (hs : PSet X t)
    (ha : ∀ v, assign (.Subscript o i pos) X.env v = (do
      let ov ← holding [v] (eval o X.env)
      let iv ← holding [v, ov] (eval i X.env)
      standAt pos
      holding [v, ov, iv] (setItem ov iv v)
      release [v, ov, iv] []) := by intro _; rfl) : PG X (.Subscript o i pos) (gSub to ti t) := by
  intro pins s σ H v u Q I r h
  rw [ha]
  refine wpAny_bind (wpAny_holding (thn (ho pins s σ H _ I h) fun ov s1 ⟨x, H1, I1, r1, q1⟩ => ?_))
  refine wpAny_bind (wpAny_holding (thn (hi pins s1 σ H1 _ I1 q1) fun iv s2 ⟨y, H2, I2, r2, q2⟩ => ?_))
  refine wpAny_bind (wpAny_standAt (wpAny_bind (wpAny_holding (thn (hs pins s2 σ H2 x y v ov iv u _ I2 r1 r2 r q2) fun _ s3 ⟨H3, I3, q3⟩ => ?_))))
  exact wpAny_release ⟨σ, H3, I3, q3⟩
/-- target = value -/
def tAsg (te : TE) (g : TG) : TS := fun D σ H => te σ H fun x H1 => g x σ H1 D.nx
theorem ps_asg {tg e : Expr} {te : TE} {g : TG} (he : PE X e te) (hg : PG X tg g) (hs : swapsWithSole [tg] e pos.line X.env = pure false := by rfl) (hw : swappedStores [tg] e X.env = pure none := by rfl)
    (h1 : (assignEach [tg] X.env).map (·.2) = [assign tg X.env] := by rfl) : PS X (.Assign [tg] e pos) (tAsg te g) := by
  intro pins s σ H D I h
  refine wpAny_Assign_stores (thn (he pins s σ H _ I h) fun v s1 ⟨x, H1, I1, r1, q1⟩ => ?_) hs hw
  rw [h1]
  exact thn (hg pins s1 σ H1 x v _ I1 r1 q1) fun _ s2 q => q
/-- name = value -/
theorem ps_set {i : Nat} {x : Str} {e : Expr} {te : TE} {pos' : Pos} (hN : X.N.Nodup) (hi : X.N[i]? = some x) (hx : Loc X.env.scope x) (he : PE X e te) (hs : swapsWith e (some (.Name x pos')) pos.line X.env = pure false := by rfl) (hf : X.fn x = true ∨ X.env.scope.names.lookup x = some .local := by first | exact .inl rfl | exact .inr rfl | assumption) :
    PS X (.Assign [.Name x pos'] e pos) (tAsg te (gName i)) := by
  intro pins s σ H D I h
  refine wpAny_Assign_Name (thn (he pins s σ H _ I h) fun v s1 ⟨y, H1, I1, r1, q1⟩ => ?_) hs
  exact store_ok I1 hN hi hx r1 (fun s2 I2 => ⟨_, H1, I2, q1⟩) hf
/-- a, b = x, y with plain local names: stored from the right; the pair itself is not tracked (the opening rows as in PyProof/Rows/TupAssign.lean:23) -/
def tPar (i j : Nat) (ta : TA) : TS := fun D σ H => ta σ H fun vs H1 => ∃ v w, vs = [v, w] ∧ D.nx ((σ.set i (some v)).set j (some w)) H1
theorem ps_par {i j : Nat} {x y : Str} {a b : Expr} {ta : TA} {px py pt : Pos} {kt k2 pt2} (hc : X.calm = true) (hN : X.N.Nodup) (hi : X.N[i]? = some x) (hj : X.N[j]? = some y) (hij : i ≠ j)
    (hx : X.env.scope.names.lookup x = some .local) (hy : X.env.scope.names.lookup y = some .local) (ha : PA X [a, b] ta)
    (hw : swappedStores [.Tuple [.Name x px, .Name y py] kt pt] (.Tuple [a, b] k2 pt2) X.env = pure (some [x, y]))
    (hs : swapsWithSole [.Tuple [.Name x px, .Name y py] kt pt] (.Tuple [a, b] k2 pt2) pos.line X.env = pure false := by rfl) :
    PS X (.Assign [.Tuple [.Name x px, .Name y py] kt pt] (.Tuple [a, b] k2 pt2) pos) (tPar i j ta) := by
  intro pins s σ H D I h
  rw [exec_Assign_arm]
  refine wpAny_bind (wpAny_standAt ?_)
  rw [hs]
  refine wpAny_bind (wpAny_pure ?_)
  rw [if_neg (by decide)]
  refine wpAny_bind (Tuple_ (thn (ha _ pins s σ H _ I h) fun us s1 ⟨vs, H1, I1, r1, q1⟩ => ?_))
  obtain ⟨v, w, e1, q1⟩ := q1
  subst e1
  obtain ⟨u1, u2, rfl, rv, rw'⟩ : ∃ u1 u2, us = [u1, u2] ∧ RelV v u1 ∧ RelV w u2 := by
    cases r1 with
    | cons p q =>
      cases q with
      | cons p' q' =>
        cases q'
        exact ⟨_, _, rfl, p, p'⟩
  refine wpAny_newObj_type ?_ (by show 2 ≤ sizeLine; decide)
  have I2 : Inv X pins σ H1 { s1 with heap := s1.heap.push { cls := .type "tuple", data := .seq [u1, u2].toArray } } := I1.kept (t' := s1.toks) fun b o e => Heap.get?_push_of_some _ e
  rw [hw]
  refine wpAny_bind (wpAny_pure ?_)
  show wpAny (model X.prog X.w) X.A (do rule "assign.swapped-stores"; let items ← unpackItems (.ref s1.heap.objs.size) 2 none; assignInOrder [fun v => bindName X.env y v, fun v => bindName X.env x v] items.reverse; pure Flow.next) _ _ _
  refine wpAny_bind (wpAny_rule (wpAny_bind (unpackItems_tuple (items := #[u1, u2]) (I.ok.hd hc) (IsTup.new s1.heap _) fun h' hx' => ?_)))
  have I3 := I2.kept (h' := h') (t' := s1.toks) fun b o e => hx' b o (Nat.ne_of_lt (Heap.lt_size e)) e
  show wpAny _ _ (assignInOrder [fun v => bindName X.env y v, fun v => bindName X.env x v] [u2, u1] >>= fun _ => pure Flow.next) _ _ _
  refine wpAny_bind (assignInOrder_cons (wpAny_bindName (store_ok I3 hN hj (.inl hy) rw' (fun s2 I4 => ?_) (.inr hy))))
  refine assignInOrder_cons (wpAny_bindName (store_ok I4 hN hi (.inl hx) rv (fun s3 I5 => assignInOrder_nil (wpAny_pure ?_)) (.inr hx)))
  rw [List.set_comm _ _ (Ne.symm hij)] at I5
  exact ⟨_, H1, I5, q1⟩
/-- name op= e -/
def tAug (i : Nat) (te : TE) (ti : TIp) : TS := fun D σ H => ∃ x, σ[i]? = some (some x) ∧ te σ H fun y H1 => ti x y H1 fun z H2 => D.nx (σ.set i (some z)) H2
theorem ps_aug {i : Nat} {x : Str} {e : Expr} {te : TE} {op : Operator} {ti : TIp} {pos' : Pos} (hN : X.N.Nodup) (hi : X.N[i]? = some x) (hx : Loc X.env.scope x) (he : PE X e te) (ho : PIp X op ti) (hf : X.fn x = true ∨ X.env.scope.names.lookup x = some .local := by first | exact .inl rfl | exact .inr rfl | assumption) :
    PS X (.AugAssign (.Name x pos') op e pos) (tAug i te ti) := by
  intro pins s σ H D I h
  obtain ⟨v, e1, h⟩ := h
  obtain ⟨m, hn, hl⟩ := I.loc
  have vis : Vis X.env.scope x := by rcases hx with k | k; exact .inl k; exact .inr (.inl k)
  obtain ⟨u, r, l⟩ := hl i x v hi e1 vis
  refine wpAny_AugAssign_Name ?_
  have go : wpAny (model X.prog X.w) X.A (eval e X.env) (fun w s₂ => wpAny (model X.prog X.w) X.A (inplaceOp op u w) (fun r s₃ => wpAny (model X.prog X.w) X.A (storeName X.env x r) (fun _ => SP X pins D .next) X.xe s₃) X.xe s₂) X.xe s := by
    refine thn (he pins s σ H _ I h) fun w s1 ⟨y, H1, I1, r1, q1⟩ => ?_
    refine thn (ho pins s1 σ H1 v y u w _ I1 r r1 q1) fun z s2 ⟨zv, H2, I2, r2, q2⟩ => ?_
    exact store_ok I2 hN hi hx r2 (fun s3 I3 => ⟨_, H2, I3, q2⟩) hf
  rcases l with ⟨hk, hm⟩ | ⟨hk, c, hc, hcell⟩
  · exact wpAny_loadName_local I.ok.kind hk hn hm go
  · rcases hk with hk | hk
    · exact wpAny_loadName_cell I.ok.kind hk hc hcell go
    · rcases hx with k | k
      · have : X.env.scope.names.lookup x = some .free := hk
        rw [k] at this; cases this
      · have : X.env.scope.names.lookup x = some .free := hk
        rw [k] at this; cases this
/-- o[i] op= e -/
def tAugS (to ti te : TE) (tget : V → V → Hp → VK → Prop) (tip : TIp) (tset : TSet) : TS := fun D σ H => to σ H fun o H1 => ti σ H1 fun i H2 => tget o i H2 fun x H3 => te σ H3 fun y H4 => tip x y H4 fun z H5 => tset o i z H5 fun H6 => D.nx σ H6
/-- o[i], by values -/
def PGet (X : Cx) (t : V → V → Hp → VK → Prop) : Prop :=
  ∀ (pins : List (Addr × Obj)) (s : Shared) (σ : St) (H : Hp) (o i : V) (ov iv : Value) (Q : VK), Inv X pins σ H s → RelV o ov → RelV i iv → t o i H Q →
    wpAny (model X.prog X.w) X.A (getItem ov iv) (EP X pins σ Q) X.xe s
theorem ps_augS {o i e : Expr} {to ti te : TE} {tget : V → V → Hp → VK → Prop} {tip : TIp} {tset : TSet} {op : Operator} {tpos : Pos} (ho : PE X o to) (hi : PE X i ti) (hg : PGet X tget) (he : PE X e te) (hp : PIp X op tip) (hs : PSet X tset)
    (ha : ∀ ov iv new, augStore i ov iv new = (do holding [new, ov, iv] (setItem ov iv new); release [new, ov, iv] []; pure .next) := by intros; rfl) : PS X (.AugAssign (.Subscript o i tpos) op e pos) (tAugS to ti te tget tip tset) := by
  intro pins s σ H D I h
  refine wpAny_AugAssign_SubscriptAny (thn (ho pins s σ H _ I h) fun ov s1 ⟨x1, H1, I1, r1, q1⟩ => ?_) ha
  refine thn (hi pins s1 σ H1 _ I1 q1) fun iv s2 ⟨x2, H2, I2, r2, q2⟩ => ?_
  refine thn (hg pins s2 σ H2 x1 x2 ov iv _ I2 r1 r2 q2) fun old s3 ⟨x3, H3, I3, r3, q3⟩ => ?_
  refine thn (he pins s3 σ H3 _ I3 q3) fun v s4 ⟨x4, H4, I4, r4, q4⟩ => ?_
  refine thn (hp pins s4 σ H4 x3 x4 old v _ I4 r3 r4 q4) fun new s5 ⟨x5, H5, I5, r5, q5⟩ => ?_
  exact thn (hs pins s5 σ H5 x1 x2 x5 ov iv new _ I5 r1 r2 r5 q5) fun _ s6 ⟨H6, I6, q6⟩ => ⟨σ, H6, I6, q6⟩
/-- ints -/
def ipI (f : Int → Int → Int) : TIp := fun x y H Q => ∃ i j, x = .int i ∧ y = .int j ∧ Q (.int (f i j)) H
theorem ip_add : PIp X .Add (ipI fun i j => i + j) := by
  intro pins s σ H x y v u Q I r1 r2 h
  obtain ⟨i, j, e1, e2, q⟩ := h
  subst e1; subst e2
  obtain ⟨t, rfl⟩ := r1
  obtain ⟨t', rfl⟩ := r2
  exact iadd_int ⟨.int _, H, I.tok _, ⟨_, rfl⟩, q⟩
theorem ip_sub : PIp X .Sub (ipI fun i j => i - j) := by
  intro pins s σ H x y v u Q I r1 r2 h
  obtain ⟨i, j, e1, e2, q⟩ := h
  subst e1; subst e2
  obtain ⟨t, rfl⟩ := r1
  obtain ⟨t', rfl⟩ := r2
  exact isub_int ⟨.int _, H, I.tok _, ⟨_, rfl⟩, q⟩
end

/-! ### while -/
section
variable {X : Cx} {pos : Pos}
/-- the invariant W with its measure -/
def tWhile (c : TT) (tb : TS) : TS := fun D σ H => ∃ W : Nat → St → Hp → Prop, (∃ m, W m σ H) ∧ ∀ m σ H, W m σ H →
  c σ H fun b H1 => if b = true then ∃ N : St → Hp → Prop, (∀ σ' H', N σ' H' → ∃ m', m' < m ∧ W m' σ' H') ∧ tb { D with nx := N, ct := N, bk := D.nx } σ H1 else D.nx σ H1
theorem ps_while {c : Expr} {body : List Stmt} {tc : TT} {tb : TS} (hp : PassesOwn (model X.prog X.w) X.A X.env X.xe) (hc : PT X c tc) (hb : PSs X body tb) : PS X (.While c body [] pos) (tWhile tc tb) := by
  intro pins s σ H D I h
  obtain ⟨W, ⟨m0, w0⟩, turn⟩ := h
  refine wpAny_While (codeAny_whileLoop (fun n s' => ∃ σ' H', Inv X pins σ' H' s' ∧ W n σ' H') ?_ m0 ⟨σ, H, I, w0⟩)
  rintro n s1 ⟨σ1, H1, I1, w1⟩
  refine wpAny_passesOwn hp (thn (hc pins s1 σ1 H1 _ I1 (turn n σ1 H1 w1)) fun b s2 ⟨H2, I2, q2⟩ => ?_)
  cases b with
  | true =>
    obtain ⟨N, hN, q2⟩ := q2
    rw [if_pos rfl]
    refine wpAny_passesOwn hp (thn (hb pins s2 σ1 H2 _ I2 q2) fun f s3 q3 => ?_)
    cases f with
    | next =>
      obtain ⟨σ3, H3, I3, n3⟩ := q3
      obtain ⟨m', hm, w3⟩ := hN σ3 H3 n3
      exact ⟨m', hm, σ3, H3, I3, w3⟩
    | cont =>
      obtain ⟨σ3, H3, I3, n3⟩ := q3
      obtain ⟨m', hm, w3⟩ := hN σ3 H3 n3
      exact ⟨m', hm, σ3, H3, I3, w3⟩
    | brk => exact q3
    | ret v => exact q3
  | false =>
    rw [if_neg Bool.false_ne_true]
    exact wpAny_execs_nil ⟨σ1, H2, I2, q2⟩
end

/-! ### what a loop or a comprehension walks -/
/-- at turn i: it yields x (the heap may grow), or it stops -/
structure It where
  go : Nat → Hp → Prop
  yld : Nat → Hp → V → Hp → Prop
  stop : Nat → Hp → Prop
/-- the iterator's own objects may turn: they are not the frame's, not pinned, younger than the entry (or a comprehension's own) -/
def FpOk (X : Cx) (pins : List (Addr × Obj)) (H : Hp) (b : Addr) : Prop :=
  H b = none ∧ b ≠ X.env.locals ∧ b ∉ X.fs ∧ (b ∈ X.ex ∨ X.s₀.heap.objs.size ≤ b) ∧ (∀ x c, X.env.cells.lookup x = some c → c ≠ b) ∧ ∀ p ∈ X.pn ++ pins, p.1 ≠ b
theorem Inv.fpOk {X : Cx} {pins : List (Addr × Obj)} {σ : St} {H H' : Hp} {s : Shared} {b : Addr} (I : Inv X pins σ H s) (hb : s.heap.objs.size ≤ b) (hn : H' b = none) : FpOk X pins H' b := by
  refine ⟨hn, Nat.ne_of_gt (Nat.lt_of_lt_of_le I.lt hb), I.nofs hb, .inr (Nat.le_trans I.sz hb), fun x c e z => ?_, fun p hp z => ?_⟩
  · obtain ⟨v, q⟩ := I.cell x c e
    exact absurd (Nat.lt_of_lt_of_le q.lt (by rw [z]; exact hb)) (Nat.lt_irrefl _)
  · exact absurd (Nat.lt_of_lt_of_le (Heap.lt_size (I.pin p hp).1) (by rw [z]; exact hb)) (Nat.lt_irrefl _)
structure Turn (P : Program) (w : World) (K : PySem.W.Frag) (tg : Expr) (J : It) (fp : List Addr) (it : Addr) (tn : Nat → Heap → Prop) : Prop where
  mem : it ∈ fp
  obj : ∀ i h, tn i h → ∀ b ∈ fp, ∃ o, h.get? b = some o ∧ ∀ v, o.data ≠ .cell v
  keep : ∀ i h h', tn i h → (∀ b ∈ fp, ∀ o, h.get? b = some o → h'.get? b = some o) → tn i h'
  item : ∀ (X : Cx), X.prog = P → X.w = w → X.K = K → X.calm = true → ∀ (i : Nat) (pins : List (Addr × Obj)) (s : Shared) (σ : St) (H : Hp) (E : Value → Shared → Prop), Inv X pins σ H s → (∀ b ∈ fp, FpOk X pins H b) → tn i s.heap → J.go i H →
    wpAny (model P w) X.A (pyNext (.ref it)) (fun r s1 => ∃ u, r = some u ∧
      wpAny (model P w) X.A (letOwnedTupleGo tg (.ref it) u) (fun _ s2 => ∃ x H', Inv X pins σ H' s2 ∧ RelV x u ∧ J.yld i H x H' ∧ tn (i + 1) s2.heap ∧ ∀ b ∈ fp, H' b = none) E s1) E s
  done : ∀ (X : Cx), X.prog = P → X.w = w → X.K = K → X.calm = true → ∀ (i : Nat) (pins : List (Addr × Obj)) (s : Shared) (σ : St) (H : Hp) (E : Value → Shared → Prop), Inv X pins σ H s → (∀ b ∈ fp, FpOk X pins H b) → tn i s.heap → J.stop i H →
    wpAny (model P w) X.A (pyNext (.ref it)) (fun r s1 => r = none ∧ Inv X pins σ H s1) E s
  self : ∀ (A : Around) (i : Nat) (s : Shared) (Q : Value → Shared → Prop) (E : Value → Shared → Prop), tn i s.heap → Q (.ref it) s → wpAny (model P w) A (pyIter (.ref it)) Q E s
abbrev TI := St → Hp → (It → Hp → Prop) → Prop
/-- an iterator has come -/
def PIE (X : Cx) (pins : List (Addr × Obj)) (σ : St) (tg : Expr) (R : It → Hp → Prop) (itv : Value) (s2 : Shared) : Prop :=
  ∃ (it : Addr) (fp : List Addr) (tn : Nat → Heap → Prop) (J : It) (H' : Hp), itv = .ref it ∧ Inv X pins σ H' s2 ∧ Turn X.prog X.w X.K tg J fp it tn ∧ tn 0 s2.heap ∧ (∀ b ∈ fp, FpOk X pins H' b) ∧ R J H'
def PI (X : Cx) (tg iter : Expr) (wi : TI) : Prop :=
  ∀ (pins : List (Addr × Obj)) (s : Shared) (σ : St) (H : Hp) (R : It → Hp → Prop), Inv X pins σ H s → wi σ H R →
    wpAny (model X.prog X.w) X.A (eval iter X.env) (fun v s1 => wpAny (model X.prog X.w) X.A (pyIter v) (PIE X pins σ tg R) X.xe s1) X.xe s

/-- the step ahead of the store is nothing for an iterator that keeps no tuple -/
theorem go_of {M : Model} {A : Around} {E : Value → Shared → Prop} {s : Shared} {tg : Expr} {it : Addr} {u : Value} {o : Obj} {n : String} {vs : Array Value} {Q : Unit → Shared → Prop} (ho : s.heap.get? it = some o) (hc : o.cls = .type n) (hd : o.data = .fields vs)
    (hn : ["enumerate", "zip", "dict_itemiterator", "dict_reverseitemiterator", "odict_iterator", "itertools.zip_longest", "itertools.pairwise"].contains n = false) (hQ : Q () s) : wpAny M A (letOwnedTupleGo tg (.ref it) u) Q E s := by
  unfold letOwnedTupleGo
  cases tg <;> first
    | exact wpAny_pure hQ
    | (cases u <;> first
        | exact wpAny_pure hQ
        | (refine wpAny_bind (wpAny_load ho ?_)
           rw [hc, hd]
           show wpAny M A (if (["enumerate", "zip", "dict_itemiterator", "dict_reverseitemiterator", "odict_iterator", "itertools.zip_longest", "itertools.pairwise"].contains n && vs[0]? == some (rawInt _)) = true then _ else _) Q E s
           rw [if_neg (by intro h; rw [hn, Bool.false_and] at h; cases h)]
           exact wpAny_pure hQ))

/-- the list at a, as it stands at each turn (a loop may append to it) -/
def Itl (K : PySem.W.Frag) (a : Addr) : It :=
  ⟨fun i H => ∃ xs x, SqL K H a xs ∧ xs[i]? = some x, fun i H x H' => H' = H ∧ ∀ xs, SqL K H a xs → xs[i]? = some x, fun i H => ∃ xs, SqL K H a xs ∧ xs.length ≤ i⟩
def Itt (K : PySem.W.Frag) (a : Addr) : It :=
  ⟨fun i H => ∃ xs x, SqT K H a xs ∧ xs[i]? = some x, fun i H x H' => H' = H ∧ ∀ xs, SqT K H a xs → xs[i]? = some x, fun i H => ∃ xs, SqT K H a xs ∧ xs.length ≤ i⟩
/-- lo, lo + 1, .. (n of them) -/
def Itr (lo : Int) (n : Nat) : It := ⟨fun i _ => i < n, fun i H x H' => H' = H ∧ x = .int (lo + i), fun i _ => n ≤ i⟩
theorem turn_list {P : Program} {w : World} {K : PySem.W.Frag} {tg : Expr} (a it : Addr) : Turn P w K tg (Itl K a) [it] it (fun i h => h.IsListIter it a i) where
  mem := by simp
  obj := fun i h st b hb => by
    have e : b = it := by simpa using hb
    subst e
    obtain ⟨o, e, c, d⟩ := st
    exact ⟨o, e, fun v z => by rw [d] at z; cases z⟩
  keep := fun i h h' st k => st.at fun o e => k it (by simp) o e
  item := by
    intro X hP hw hK hc i pins s σ H E I hf st hg
    subst hP hw hK
    obtain ⟨xs, x, hq, hx⟩ := hg
    obtain ⟨its, rv, p, hz⟩ := I.list hq
    obtain ⟨u, hu, ru⟩ := rv.get hx
    obtain ⟨f0, f1, f2, f3, f4, f5⟩ := hf it (by simp)
    refine wpAny_pyNext_list_item st p.isList (x := u) (by simpa using hu) fun h' st' sb => ?_
    have I1 : Inv X pins σ H { s with heap := h' } := I.turned (t' := s.toks) (fun b o hb e => (sb.2 b hb).trans e) f0 f1 f3 f4 f5
    obtain ⟨o, e, c, d⟩ := id st'
    exact ⟨u, rfl, go_of (s := { s with heap := h' }) e c d (by decide) ⟨x, H, I1, ru, ⟨rfl, fun ys hy => by rw [I.list_inj hy hq]; exact hx⟩, st', fun b hb => (hf b hb).1⟩⟩
  done := by
    intro X hP hw hK hc i pins s σ H E I hf st hg
    subst hP hw hK
    obtain ⟨xs, hq, hx⟩ := hg
    obtain ⟨its, rv, p, hz⟩ := I.list hq
    obtain ⟨f0, f1, f2, f3, f4, f5⟩ := hf it (by simp)
    have hl := rv.length
    exact wpAny_pyNext_list_end (I.ok.hd hc) st p.isList (by simp; omega) fun h' eb => ⟨rfl, I.turned (t' := s.toks) (fun b o hb e => eb b o hb e) f0 f1 f3 f4 f5⟩
  self := fun _ _ _ _ _ st h => wpAny_pyIter_listiter st h
theorem turn_tuple {P : Program} {w : World} {K : PySem.W.Frag} {tg : Expr} (a it : Addr) : Turn P w K tg (Itt K a) [it] it (fun i h => h.IsTupleIter it a i) where
  mem := by simp
  obj := fun i h st b hb => by
    have e : b = it := by simpa using hb
    subst e
    obtain ⟨o, e, c, d⟩ := st
    exact ⟨o, e, fun v z => by rw [d] at z; cases z⟩
  keep := fun i h h' st k => st.at fun o e => k it (by simp) o e
  item := by
    intro X hP hw hK hc i pins s σ H E I hf st hg
    subst hP hw hK
    obtain ⟨xs, x, hq, hx⟩ := hg
    obtain ⟨its, rv, p, hz⟩ := I.tuple hq
    obtain ⟨u, hu, ru⟩ := rv.get hx
    obtain ⟨f0, f1, f2, f3, f4, f5⟩ := hf it (by simp)
    refine wpAny_pyNext_tuple_item st (show s.heap.IsTuple a its.toArray from p) (x := u) (by simpa using hu) fun h' st' sb => ?_
    have I1 : Inv X pins σ H { s with heap := h' } := I.turned (t' := s.toks) (fun b o hb e => (sb.2 b hb).trans e) f0 f1 f3 f4 f5
    obtain ⟨o, e, c, d⟩ := id st'
    exact ⟨u, rfl, go_of (s := { s with heap := h' }) e c d (by decide) ⟨x, H, I1, ru, ⟨rfl, fun ys hy => by rw [I.tuple_inj hy hq]; exact hx⟩, st', fun b hb => (hf b hb).1⟩⟩
  done := by
    intro X hP hw hK hc i pins s σ H E I hf st hg
    subst hP hw hK
    obtain ⟨xs, hq, hx⟩ := hg
    obtain ⟨its, rv, p, hz⟩ := I.tuple hq
    obtain ⟨f0, f1, f2, f3, f4, f5⟩ := hf it (by simp)
    have hl := rv.length
    exact wpAny_pyNext_tuple_end (I.ok.hd hc) st (show s.heap.IsTuple a its.toArray from p) (by simp; omega) fun h' eb => ⟨rfl, I.turned (t' := s.toks) (fun b o hb e => eb b o hb e) f0 f1 f3 f4 f5⟩
  self := fun _ _ _ _ _ st h => wpAny_pyIter_tupleiter st h
theorem turn_range {P : Program} {w : World} {K : PySem.W.Frag} {tg : Expr} (it : Addr) (lo : Int) (n : Nat) : Turn P w K tg (Itr lo n) [it] it (fun i h => IsRangeIter h it (lo + (i : Nat) * 1) ((n : Int) - (i : Nat)) 1) where
  mem := by simp
  obj := fun i h st b hb => by
    have e : b = it := by simpa using hb
    subst e
    exact ⟨_, st, fun v z => by
      have z' : Data.fields _ = Data.cell v := z
      cases z'⟩
  keep := fun i h h' st k => k it (by simp) _ st
  item := by
    intro X hP hw hK hc i pins s σ H E I hf st hg
    subst hP hw hK
    obtain ⟨f0, f1, f2, f3, f4, f5⟩ := hf it (by simp)
    have W := Walks.range (prog := X.prog) (w := X.w) (I.ok.hd hc) it lo 1 n
    refine W.item i s _ _ hg st fun v h' tk hv st' kk => ?_
    obtain ⟨t, rfl⟩ := hv
    have I1 : Inv X pins σ H { s with heap := h', toks := tk } := I.turned (fun b o hb e => kk b o (by simpa using hb) e) f0 f1 f3 f4 f5
    refine ⟨_, rfl, go_of (s := { s with heap := h', toks := tk }) (n := "range_iterator") st' rfl rfl (by decide) ⟨.int (lo + i), H, I1, ⟨t, ?_⟩, ⟨rfl, rfl⟩, st', fun b hb => (hf b hb).1⟩⟩
    rw [Int.mul_one]
  done := by
    intro X hP hw hK hc i pins s σ H E I hf st hg
    subst hP hw hK
    obtain ⟨f0, f1, f2, f3, f4, f5⟩ := hf it (by simp)
    exact wpAny_pyNext_range_end (I.ok.hd hc) st (by have : n ≤ i := hg; omega) fun h' eb => ⟨rfl, I.turned (t' := s.toks) (fun b o hb e => eb b o hb e) f0 f1 f3 f4 f5⟩
  self := fun _ _ _ _ _ st h => wpAny_pyIter_rangeiter st h
end L2

namespace L2
open PySem PySem.Spec PyProof.Rows
section
variable {X : Cx} {tg : Expr}
def iList (K : PySem.W.Frag) (tl : TE) : TI := fun σ H R => tl σ H fun x H1 => ∃ a, x = .ref a ∧ (∃ xs, SqL K H1 a xs) ∧ R (Itl K a) H1
def iTup (K : PySem.W.Frag) (tl : TE) : TI := fun σ H R => tl σ H fun x H1 => ∃ a, x = .ref a ∧ (∃ xs, SqT K H1 a xs) ∧ R (Itt K a) H1
theorem pi_list {l : Expr} {tl : TE} (hl : PE X l tl) : PI X tg l (iList X.K tl) := by
  intro pins s σ H R I h
  refine thn (hl pins s σ H _ I h) fun v s1 ⟨x, H1, I1, r1, q1⟩ => ?_
  obtain ⟨a, e, ⟨xs, hq⟩, q⟩ := q1
  subst e
  cases r1
  obtain ⟨its, rv, p, hz⟩ := I1.list hq
  refine wpAny_pyIter_list p.isList ?_
  refine ⟨s1.heap.objs.size, [s1.heap.objs.size], _, _, H1, rfl, I1.kept (t' := s1.toks) fun b o e => Heap.get?_push_of_some _ e, turn_list a _, ⟨_, Heap.get?_push_size _ rfl, rfl, rfl⟩, fun b hb => ?_, q⟩
  have e : b = s1.heap.objs.size := by simpa using hb
  subst e
  exact I1.fpOk (Nat.le_refl _) (I1.hok.fresh (Nat.le_refl _))
theorem pi_tup {l : Expr} {tl : TE} (hl : PE X l tl) : PI X tg l (iTup X.K tl) := by
  intro pins s σ H R I h
  refine thn (hl pins s σ H _ I h) fun v s1 ⟨x, H1, I1, r1, q1⟩ => ?_
  obtain ⟨a, e, ⟨xs, hq⟩, q⟩ := q1
  subst e
  cases r1
  obtain ⟨its, rv, p, hz⟩ := I1.tuple hq
  refine wpAny_pyIter_tuple (show s1.heap.IsTuple a its.toArray from p) ?_
  refine ⟨s1.heap.objs.size, [s1.heap.objs.size], _, _, H1, rfl, I1.kept (t' := s1.toks) fun b o e => Heap.get?_push_of_some _ e, turn_tuple a _, ⟨_, Heap.get?_push_size _ rfl, rfl, rfl⟩, fun b hb => ?_, q⟩
  have e : b = s1.heap.objs.size := by simpa using hb
  subst e
  exact I1.fpOk (Nat.le_refl _) (I1.hok.fresh (Nat.le_refl _))
/-- a range object just made, walked -/
theorem range_it {pins : List (Addr × Obj)} {σ : St} {H : Hp} {s : Shared} {R : It → Hp → Prop} {E : Value → Shared → Prop} {lo hi : Int} {t u v : Tok} {tk : Nat} (I : Inv X pins σ H s) (h1 : -(2 ^ 62) ≤ lo) (h2 : lo < 2 ^ 62) (h3 : -(2 ^ 62) ≤ hi) (h4 : hi < 2 ^ 62)
    (q : R (Itr lo (hi - lo).toNat) H) : wpAny (model X.prog X.w) X.A (pyIter (.ref s.heap.objs.size)) (PIE X pins σ tg R) E { s with heap := s.heap.push { cls := .type "range", data := .fields #[.int lo t, .int hi u, .int 1 v] }, toks := tk } := by
  refine wpAny_pyIter_range (IsRange.new ..) (small_one h1 h2 h3 h4) ?_
  have I1 : Inv X pins σ H { s with heap := s.heap.push { cls := .type "range", data := .fields #[.int lo t, .int hi u, .int 1 v] }, toks := tk } := I.kept fun b o e => Heap.get?_push_of_some _ e
  refine ⟨(s.heap.push { cls := .type "range", data := .fields #[.int lo t, .int hi u, .int 1 v] }).objs.size, [(s.heap.push { cls := .type "range", data := .fields #[.int lo t, .int hi u, .int 1 v] }).objs.size], _, _, H, rfl,
    I1.kept (t' := tk) fun b o e => Heap.get?_push_of_some _ e, turn_range _ lo (hi - lo).toNat, ?_, fun b hb => ?_, q⟩
  · have e1 : lo + ((0 : Nat) : Int) * 1 = lo := by simp
    have e2 : (((hi - lo).toNat : Nat) : Int) - ((0 : Nat) : Int) = Builtin.Range.rangeSize lo hi 1 := by rw [rangeSize_one]; split <;> omega
    show IsRangeIter _ _ (lo + ((0 : Nat) : Int) * 1) ((((hi - lo).toNat : Nat) : Int) - ((0 : Nat) : Int)) 1
    rw [e1, e2]
    exact Heap.get?_push_size _ rfl
  · have e : b = (s.heap.push { cls := .type "range", data := .fields #[.int lo t, .int hi u, .int 1 v] }).objs.size := by simpa using hb
    subst e
    exact I1.fpOk (Nat.le_refl _) (I1.hok.fresh (Nat.le_refl _))
def iRng1 (ta : TA) : TI := fun σ H R => ta σ H fun vs H1 => ∃ j : Int, vs = [.int j] ∧ -(2 ^ 62) ≤ j ∧ j < 2 ^ 62 ∧ R (Itr 0 j.toNat) H1
def iRng2 (ta : TA) : TI := fun σ H R => ta σ H fun vs H1 => ∃ i j : Int, vs = [.int i, .int j] ∧ (-(2 ^ 62) ≤ i ∧ i < 2 ^ 62 ∧ -(2 ^ 62) ≤ j ∧ j < 2 ^ 62) ∧ R (Itr i (j - i).toNat) H1
theorem pi_range1 {a : Expr} {ta : TA} {p pos : Pos} (hg : Gl X "range") (hm : X.mg "range" = none) (ha : PA X [a] ta) (hs : starEach [a] X.env = [(false, eval a X.env)] := by rfl) : PI X tg (.Call (.Name "range" p) [a] [] pos) (iRng1 ta) := by
  intro pins s σ H R I h
  refine Call_ (ld_blt I hg hm boot_range (PyProof.Rows.callWith_type1 (thn (ha pos pins s σ H _ I h) fun us s1 ⟨vs, H1, I1, r1, q1⟩ => ?_) hs rfl))
  obtain ⟨j, e, q1, q2, q⟩ := q1
  subst e
  cases r1 with
  | cons r rr =>
    cases rr
    obtain ⟨t, rfl⟩ := r
    exact call_range_1 (range_it I1 (by omega) (by omega) q1 q2 (by simpa using q))
theorem pi_range2 {a b : Expr} {ta : TA} {p pos : Pos} (hg : Gl X "range") (hm : X.mg "range" = none) (ha : PA X [a, b] ta) (hs : starEach [a, b] X.env = [(false, eval a X.env), (false, eval b X.env)] := by rfl) (hs2 : starEach [b] X.env = [(false, eval b X.env)] := by rfl) :
    PI X tg (.Call (.Name "range" p) [a, b] [] pos) (iRng2 ta) := by
  intro pins s σ H R I h
  refine Call_ (ld_blt I hg hm boot_range (PyProof.Rows.callWith_type1 (thn (ha pos pins s σ H _ I h) fun us s1 ⟨vs, H1, I1, r1, q1⟩ => ?_) (by rw [hs, hs2]) (by rw [hs2]; rfl)))
  obtain ⟨i, j, e, ⟨q1, q2, q3, q4⟩, q⟩ := q1
  subst e
  cases r1 with
  | cons r rr =>
    cases rr with
    | cons r' rr =>
      cases rr
      obtain ⟨t, rfl⟩ := r
      obtain ⟨t', rfl⟩ := r'
      exact call_range_2 (range_it I1 q1 q2 q3 q4 q)

/-! ### for -/
/-- W: the invariant by the turn and a measure; N: what the body is to reach -/
def tFor (wi : TI) (g : TG) (tb : TS) : TS := fun D σ H => wi σ H fun J H1 => ∃ W : Nat → Nat → St → Hp → Prop, (∃ m, W 0 m σ H1) ∧ ∀ i m σ H, W i m σ H →
  (J.stop i H ∧ D.nx σ H) ∨ (J.go i H ∧ ∃ N : St → Hp → Prop, (∀ σ' H', N σ' H' → ∃ m', m' < m ∧ W (i + 1) m' σ' H') ∧ ∀ x H', J.yld i H x H' → g x σ H' fun σ2 H2 => tb { D with nx := N, ct := N, bk := D.nx } σ2 H2)
/-- the records at fp as they stand -/
def pinsAt (fp : List Addr) (h : Heap) : List (Addr × Obj) := fp.filterMap fun b => (h.get? b).map fun o => (b, o)
theorem mem_pinsAt {fp : List Addr} {h : Heap} {b : Addr} {o : Obj} (hb : b ∈ fp) (e : h.get? b = some o) : (b, o) ∈ pinsAt fp h := List.mem_filterMap.mpr ⟨b, hb, by rw [e]; rfl⟩
theorem of_pinsAt {fp : List Addr} {h : Heap} {p : Addr × Obj} (hp : p ∈ pinsAt fp h) : p.1 ∈ fp ∧ h.get? p.1 = some p.2 := by
  obtain ⟨b, hb, e⟩ := List.mem_filterMap.mp hp
  cases q : h.get? b with
  | none => rw [q] at e; cases e
  | some o =>
    rw [q] at e
    have e' : (b, o) = p := Option.some.inj e
    subst e'
    exact ⟨hb, q⟩
theorem Inv.pinned {pins : List (Addr × Obj)} {σ : St} {H : Hp} {s : Shared} {fp : List Addr} (I : Inv X pins σ H s) (hf : ∀ b ∈ fp, FpOk X pins H b) (ho : ∀ b ∈ fp, ∃ o, s.heap.get? b = some o ∧ ∀ v, o.data ≠ .cell v) : Inv X (pins ++ pinsAt fp s.heap) σ H s :=
  I.pins_of fun p hp => (List.mem_append.mp hp).elim (fun z => I.pin p (List.mem_append_right _ z)) fun z => by
    obtain ⟨hb, e⟩ := of_pinsAt z
    obtain ⟨f0, f1, f2, _⟩ := hf p.1 hb
    obtain ⟨o, e', d⟩ := ho p.1 hb
    rw [e] at e'; cases e'
    exact ⟨e, f0, f1, f2, d⟩
theorem Inv.unpinned {pins pl : List (Addr × Obj)} {σ : St} {H : Hp} {s : Shared} (I : Inv X (pins ++ pl) σ H s) : Inv X pins σ H s := I.pins_of fun p hp => I.pin p (List.mem_append_right _ (List.mem_append_left _ hp))
theorem ps_for {iter : Expr} {body : List Stmt} {wi : TI} {g : TG} {tb : TS} {pos : Pos} (hp : PassesOwn (model X.prog X.w) X.A X.env X.xe) (hc : X.calm = true) (hi : PI X tg iter wi) (hg : PG X tg g) (hb : PSs X body tb)
    (hs : ∀ x, foldedSetIterable iter X.env x = pure x := by intro _; rfl) : PS X (.For tg iter body [] pos) (tFor wi g tb) := by
  intro pins s σ H D I h
  refine wpAny_For (thn (hi pins s σ H _ I h) fun v s1 h1 => thn h1 fun itv s2 h2 => ?_) hs
  obtain ⟨it, fp, tn, J, H2, e, I2, T, st2, f2, W, ⟨m0, w0⟩, turn⟩ := h2
  subst e
  -- what stays true of the iterator's objects through the loop
  have stat : ∀ {H' : Hp}, (∀ b ∈ fp, H' b = none) → ∀ b ∈ fp, FpOk X pins H' b := fun hn b hb => ⟨hn b hb, (f2 b hb).2⟩
  refine codeAny_forLoop_any (fun n s' => ∃ i σ' H', Inv X pins σ' H' s' ∧ tn i s'.heap ∧ (∀ b ∈ fp, H' b = none) ∧ W i n σ' H') ?_ m0 ⟨0, σ, H2, I2, st2, fun b hb => (f2 b hb).1, w0⟩
  rintro n s3 ⟨i, σ3, H3, I3, st3, fr3, w3⟩
  rcases turn i n σ3 H3 w3 with ⟨stop, qn⟩ | ⟨go, N, hN, step⟩
  · refine wpAny_passesOwn hp (thn (T.done X rfl rfl rfl hc i pins s3 σ3 H3 X.xe I3 (stat fr3) st3 stop) fun r s4 ⟨hr, I4⟩ => ?_)
    subst hr
    exact wpAny_execs_nil ⟨σ3, H3, I4, qn⟩
  · refine wpAny_passesOwn hp (thn (T.item X rfl rfl rfl hc i pins s3 σ3 H3 X.xe I3 (stat fr3) st3 go) fun r s4 ⟨u, hr, h4⟩ => ?_)
    subst hr
    refine wpAny_passesOwn hp (thn h4 fun _ s5 ⟨x, H5, I5, r5, y5, st5, fr5⟩ => ?_)
    have I5' := I5.pinned (stat fr5) (T.obj _ _ st5)
    refine wpAny_passesOwn hp (thn (hg _ s5 σ3 H5 x u _ I5' r5 (step x H5 y5)) fun _ s6 ⟨σ6, H6, I6, q6⟩ => ?_)
    refine wpAny_passesOwn hp (thn (hb _ s6 σ6 H6 _ I6 q6) fun f s7 q7 => ?_)
    have again : ∀ {σ7 : St} {H7 : Hp}, Inv X (pins ++ pinsAt fp s5.heap) σ7 H7 s7 → N σ7 H7 → ∃ m, m < n ∧ ∃ i σ' H', Inv X pins σ' H' s7 ∧ tn i s7.heap ∧ (∀ b ∈ fp, H' b = none) ∧ W i m σ' H' := fun {σ7 H7} I7 n7 => by
      obtain ⟨m', hm, w7⟩ := hN σ7 H7 n7
      refine ⟨m', hm, i + 1, σ7, H7, I7.unpinned, T.keep _ _ _ st5 fun b hb o e => (I7.pin (b, o) (List.mem_append_right _ (List.mem_append_right _ (mem_pinsAt hb e)))).1, fun b hb => ?_, w7⟩
      obtain ⟨o, e, d⟩ := T.obj _ _ st5 b hb
      exact (I7.pin (b, o) (List.mem_append_right _ (List.mem_append_right _ (mem_pinsAt hb e)))).2.1
    cases f with
    | next => obtain ⟨σ7, H7, I7, n7⟩ := q7; exact again I7 n7
    | cont => obtain ⟨σ7, H7, I7, n7⟩ := q7; exact again I7 n7
    | brk => obtain ⟨σ7, H7, I7, q7⟩ := q7; exact ⟨σ7, H7, I7.unpinned, q7⟩
    | ret v => obtain ⟨x7, σ7, H7, I7, r7, q7⟩ := q7; exact ⟨x7, σ7, H7, I7.unpinned, r7, q7⟩
end

/-! ### the forms one uses -/
/-- over a list that the body leaves as it is -/
theorem for_list {K : PySem.W.Frag} {a : Addr} {xs : List V} {g : TG} {tb : TS} {D : Ends} {σ : St} {H : Hp} (Pv : Nat → St → Hp → Prop) (h0 : Pv 0 σ H) (hl : ∀ i σ H, i ≤ xs.length → Pv i σ H → SqL K H a xs)
    (hs : ∀ i x σ H, xs[i]? = some x → Pv i σ H → g x σ H fun σ2 H2 => tb { D with nx := Pv (i + 1), ct := Pv (i + 1), bk := D.nx } σ2 H2) (hd : ∀ σ H, Pv xs.length σ H → D.nx σ H) :
    ∃ W : Nat → Nat → St → Hp → Prop, (∃ m, W 0 m σ H) ∧ ∀ i m σ H, W i m σ H →
      ((Itl K a).stop i H ∧ D.nx σ H) ∨ ((Itl K a).go i H ∧ ∃ N : St → Hp → Prop, (∀ σ' H', N σ' H' → ∃ m', m' < m ∧ W (i + 1) m' σ' H') ∧ ∀ x H', (Itl K a).yld i H x H' → g x σ H' fun σ2 H2 => tb { D with nx := N, ct := N, bk := D.nx } σ2 H2) := by
  refine ⟨fun i m σ H => m = xs.length - i ∧ i ≤ xs.length ∧ Pv i σ H, ⟨xs.length, by simp, Nat.zero_le _, h0⟩, ?_⟩
  rintro i m σ H ⟨rfl, hi, p⟩
  have q := hl i σ H hi p
  by_cases hlt : i < xs.length
  · refine .inr ⟨⟨xs, xs[i], q, by simp [hlt]⟩, Pv (i + 1), fun σ' H' p' => ⟨xs.length - (i + 1), by omega, rfl, hlt, p'⟩, fun x H' y => ?_⟩
    obtain ⟨e, y⟩ := y
    subst e
    exact hs i x σ _ (y xs q) p
  · have e : i = xs.length := by omega
    subst e
    exact .inl ⟨⟨xs, q, Nat.le_refl _⟩, hd σ H p⟩
theorem for_tup {K : PySem.W.Frag} {a : Addr} {xs : List V} {g : TG} {tb : TS} {D : Ends} {σ : St} {H : Hp} (Pv : Nat → St → Hp → Prop) (h0 : Pv 0 σ H) (hl : ∀ i σ H, i ≤ xs.length → Pv i σ H → SqT K H a xs)
    (hs : ∀ i x σ H, xs[i]? = some x → Pv i σ H → g x σ H fun σ2 H2 => tb { D with nx := Pv (i + 1), ct := Pv (i + 1), bk := D.nx } σ2 H2) (hd : ∀ σ H, Pv xs.length σ H → D.nx σ H) :
    ∃ W : Nat → Nat → St → Hp → Prop, (∃ m, W 0 m σ H) ∧ ∀ i m σ H, W i m σ H →
      ((Itt K a).stop i H ∧ D.nx σ H) ∨ ((Itt K a).go i H ∧ ∃ N : St → Hp → Prop, (∀ σ' H', N σ' H' → ∃ m', m' < m ∧ W (i + 1) m' σ' H') ∧ ∀ x H', (Itt K a).yld i H x H' → g x σ H' fun σ2 H2 => tb { D with nx := N, ct := N, bk := D.nx } σ2 H2) := by
  refine ⟨fun i m σ H => m = xs.length - i ∧ i ≤ xs.length ∧ Pv i σ H, ⟨xs.length, by simp, Nat.zero_le _, h0⟩, ?_⟩
  rintro i m σ H ⟨rfl, hi, p⟩
  have q := hl i σ H hi p
  by_cases hlt : i < xs.length
  · refine .inr ⟨⟨xs, xs[i], q, by simp [hlt]⟩, Pv (i + 1), fun σ' H' p' => ⟨xs.length - (i + 1), by omega, rfl, hlt, p'⟩, fun x H' y => ?_⟩
    obtain ⟨e, y⟩ := y
    subst e
    exact hs i x σ _ (y xs q) p
  · have e : i = xs.length := by omega
    subst e
    exact .inl ⟨⟨xs, q, Nat.le_refl _⟩, hd σ H p⟩
theorem for_range {lo : Int} {n : Nat} {g : TG} {tb : TS} {D : Ends} {σ : St} {H : Hp} (Pv : Nat → St → Hp → Prop) (h0 : Pv 0 σ H)
    (hs : ∀ i σ H, i < n → Pv i σ H → g (.int (lo + i)) σ H fun σ2 H2 => tb { D with nx := Pv (i + 1), ct := Pv (i + 1), bk := D.nx } σ2 H2) (hd : ∀ σ H, Pv n σ H → D.nx σ H) :
    ∃ W : Nat → Nat → St → Hp → Prop, (∃ m, W 0 m σ H) ∧ ∀ i m σ H, W i m σ H →
      ((Itr lo n).stop i H ∧ D.nx σ H) ∨ ((Itr lo n).go i H ∧ ∃ N : St → Hp → Prop, (∀ σ' H', N σ' H' → ∃ m', m' < m ∧ W (i + 1) m' σ' H') ∧ ∀ x H', (Itr lo n).yld i H x H' → g x σ H' fun σ2 H2 => tb { D with nx := N, ct := N, bk := D.nx } σ2 H2) := by
  refine ⟨fun i m σ H => m = n - i ∧ i ≤ n ∧ Pv i σ H, ⟨n, by simp, Nat.zero_le _, h0⟩, ?_⟩
  rintro i m σ H ⟨rfl, hi, p⟩
  by_cases hlt : i < n
  · refine .inr ⟨hlt, Pv (i + 1), fun σ' H' p' => ⟨n - (i + 1), by omega, rfl, hlt, p'⟩, fun x H' y => ?_⟩
    obtain ⟨e, y⟩ := y
    subst e y
    exact hs i σ _ hlt p
  · have e : i = n := by omega
    subst e
    exact .inl ⟨Nat.le_refl _, hd σ H p⟩
/-- while, by a word and a measure of the state -/
theorem while_by {c : TT} {tb : TS} {D : Ends} {σ : St} {H : Hp} (Pv : St → Hp → Prop) (μ : St → Hp → Nat) (h0 : Pv σ H)
    (hs : ∀ σ H, Pv σ H → c σ H fun b H1 => if b = true then tb { D with nx := fun σ' H' => Pv σ' H' ∧ μ σ' H' < μ σ H, ct := fun σ' H' => Pv σ' H' ∧ μ σ' H' < μ σ H, bk := D.nx } σ H1 else D.nx σ H1)
    (mono : ∀ σ H Q Q', (∀ b H1, Q b H1 → Q' b H1) → c σ H Q → c σ H Q') : tWhile c tb D σ H := by
  refine ⟨fun m σ H => m = μ σ H ∧ Pv σ H, ⟨_, rfl, h0⟩, ?_⟩
  rintro m σ H ⟨rfl, p⟩
  refine mono σ H _ _ (fun b H1 q => ?_) (hs σ H p)
  cases b with
  | true => exact ⟨_, fun σ' H' ⟨p', l⟩ => ⟨_, l, rfl, p'⟩, q⟩
  | false => exact q
end L2

namespace L2
open PySem PySem.Spec PyProof.Rows

abbrev R2 := V → V → Hp → VK → Prop
/-- a two-place operation on values: f is binaryOp op, inplaceOp op or compareOp op -/
def OpR (X : Cx) (f : Value → Value → Sem Value) (r : R2) : Prop :=
  ∀ (pins : List (Addr × Obj)) (s : Shared) (σ : St) (H : Hp) (x y : V) (v u : Value) (Q : VK), Inv X pins σ H s → RelV x v → RelV y u → r x y H Q →
    wpAny (model X.prog X.w) X.A (f v u) (EP X pins σ Q) X.xe s
/-- a one-place operation -/
def UnR (X : Cx) (f : Value → Sem Value) (r : V → Hp → VK → Prop) : Prop :=
  ∀ (pins : List (Addr × Obj)) (s : Shared) (σ : St) (H : Hp) (x : V) (v : Value) (Q : VK), Inv X pins σ H s → RelV x v → r x H Q →
    wpAny (model X.prog X.w) X.A (f v) (EP X pins σ Q) X.xe s
/-- a call of a value that is known (a builtin, a type) with values -/
def CallR (X : Cx) (f : Value) (r : List V → Hp → VK → Prop) : Prop :=
  ∀ (pins : List (Addr × Obj)) (s : Shared) (σ : St) (H : Hp) (xs : List V) (us : List Value) (Q : VK), Inv X pins σ H s → Vals xs us → r xs H Q →
    wpAny (model X.prog X.w) X.A (call f us) (EP X pins σ Q) X.xe s
/-- a value's truth -/
def TruR (X : Cx) (r : V → Hp → (Bool → Hp → Prop) → Prop) : Prop :=
  ∀ (pins : List (Addr × Obj)) (s : Shared) (σ : St) (H : Hp) (x : V) (v : Value) (Q : Bool → Hp → Prop), Inv X pins σ H s → RelV x v → r x H Q →
    wpAny (model X.prog X.w) X.A (truthy v) (TP X pins σ Q) X.xe s

def tOp (r : R2) (ta tb : TE) : TE := fun σ H Q => ta σ H fun x H1 => tb σ H1 fun y H2 => r x y H2 Q
def tUn (r : V → Hp → VK → Prop) (ta : TE) : TE := fun σ H Q => ta σ H fun x H1 => r x H1 Q
/-- ints in, under C, and a value out -/
def rI (C : Int → Int → Prop) (g : Int → Int → V) : R2 := fun x y H Q => ∃ i j, x = .int i ∧ y = .int j ∧ C i j ∧ Q (g i j) H
def rI0 (g : Int → Int → V) : R2 := fun x y H Q => ∃ i j, x = .int i ∧ y = .int j ∧ Q (g i j) H
def rU (g : Int → V) : V → Hp → VK → Prop := fun x H Q => ∃ i, x = .int i ∧ Q (g i) H

section
variable {X : Cx} {a b c : Expr} {ta tb tc : TE} {pos : Pos}

theorem binT (ha : PE X a ta) (hb : PE X b tb) {pins : List (Addr × Obj)} {s : Shared} {σ : St} {H : Hp} {R : V → V → Hp → Prop} (I : Inv X pins σ H s)
    (h : ta σ H fun x H1 => tb σ H1 fun y H2 => R x y H2) {Q : Value → Shared → Prop} {f : Value → Value → Sem Value}
    (hf : ∀ v u s2 x y H2, Inv X pins σ H2 s2 → RelV x v → RelV y u → R x y H2 → wpAny (model X.prog X.w) X.A (f v u) Q X.xe s2) :
    wpAny (model X.prog X.w) X.A (eval a X.env) (fun v s₁ => wpAny (model X.prog X.w) X.A (eval b X.env) (fun u s₂ => wpAny (model X.prog X.w) X.A (f v u) Q X.xe s₂) X.xe s₁) X.xe s := by
  refine thn (ha pins s σ H _ I h) fun v s1 ⟨x, H1, I1, r1, q1⟩ => ?_
  refine thn (hb pins s1 σ H1 _ I1 q1) fun u s2 ⟨y, H2, I2, r2, q2⟩ => ?_
  exact hf v u s2 x y H2 I2 r1 r2 q2

theorem pe_op {op : Operator} {r : R2} (ho : OpR X (binaryOp op) r) (ha : PE X a ta) (hb : PE X b tb) : PE X (.BinOp a op b pos) (tOp r ta tb) := by
  intro pins s σ H Q I h
  exact wpAny_BinOp (binT ha hb I h fun v u s2 x y H2 I2 rx ry q => ho pins s2 σ H2 x y v u Q I2 rx ry q)
theorem pe_un {op : UnaryOp} {r : V → Hp → VK → Prop} (ho : UnR X (unaryOp op) r) (ha : PE X a ta) : PE X (.UnaryOp op a pos) (tUn r ta) := by
  intro pins s σ H Q I h
  exact UnaryOp_ (thn (ha pins s σ H _ I h) fun v s1 ⟨x, H1, I1, r1, q1⟩ => ho pins s1 σ H1 x v Q I1 r1 q1)
/-- a op= e at a name: the name's slot i -/
theorem augR {op : Operator} {r : R2} (ho : OpR X (inplaceOp op) r) {pins : List (Addr × Obj)} {s : Shared} {σ : St} {H : Hp} {x y : V} {v u : Value} {Q : VK} (I : Inv X pins σ H s)
    (rx : RelV x v) (ry : RelV y u) (q : r x y H Q) : wpAny (model X.prog X.w) X.A (inplaceOp op v u) (EP X pins σ Q) X.xe s := ho pins s σ H x y v u Q I rx ry q

/-! ### ints -/
theorem opI {f : Value → Value → Sem Value} {C : Int → Int → Prop} {g : Int → Int → Int}
    (rule : ∀ (i j : Int) (t u : Tok) (s : Shared) (Q : Value → Shared → Prop) (E : Value → Shared → Prop), C i j → Q (.int (g i j) s.toks) { s with toks := s.toks + 1 } → wpAny (model X.prog X.w) X.A (f (.int i t) (.int j u)) Q E s) :
    OpR X f (rI C fun i j => .int (g i j)) := by
  intro pins s σ H x y v u Q I rx ry h
  obtain ⟨i, j, rfl, rfl, hc, q⟩ := h
  obtain ⟨t, rfl⟩ := rx
  obtain ⟨t', rfl⟩ := ry
  exact rule i j t t' s _ _ hc ⟨.int (g i j), H, I.tok _, ⟨_, rfl⟩, q⟩
theorem opI0 {f : Value → Value → Sem Value} {g : Int → Int → Int}
    (rule : ∀ (i j : Int) (t u : Tok) (s : Shared) (Q : Value → Shared → Prop) (E : Value → Shared → Prop), Q (.int (g i j) s.toks) { s with toks := s.toks + 1 } → wpAny (model X.prog X.w) X.A (f (.int i t) (.int j u)) Q E s) :
    OpR X f (rI0 fun i j => .int (g i j)) := by
  intro pins s σ H x y v u Q I rx ry h
  obtain ⟨i, j, rfl, rfl, q⟩ := h
  obtain ⟨t, rfl⟩ := rx
  obtain ⟨t', rfl⟩ := ry
  exact rule i j t t' s _ _ ⟨.int (g i j), H, I.tok _, ⟨_, rfl⟩, q⟩
theorem opB0 {f : Value → Value → Sem Value} {g : Int → Int → Bool}
    (rule : ∀ (i j : Int) (t u : Tok) (s : Shared) (Q : Value → Shared → Prop) (E : Value → Shared → Prop), Q (.bool (g i j)) s → wpAny (model X.prog X.w) X.A (f (.int i t) (.int j u)) Q E s) :
    OpR X f (rI0 fun i j => .bl (g i j)) := by
  intro pins s σ H x y v u Q I rx ry h
  obtain ⟨i, j, rfl, rfl, q⟩ := h
  obtain ⟨t, rfl⟩ := rx
  obtain ⟨t', rfl⟩ := ry
  exact rule i j t t' s _ _ ⟨.bl (g i j), H, I, rfl, q⟩

def CDiv (i j : Int) : Prop := 0 < j ∧ j < 1073741824
def CDivN (i j : Int) : Prop := j ≠ 0 ∧ j.natAbs < 1073741824
def CPow (i j : Int) : Prop := 0 ≤ j ∧ j ≤ 1000000 ∧ i.natAbs < 2 ^ 64
def CMul (i j : Int) : Prop := (-(2 ^ 64) < i ∧ i < 2 ^ 64) ∨ (-(2 ^ 64) < j ∧ j < 2 ^ 64)
theorem CMul.ok {i j : Int} (h : CMul i j) : IntMulOk i j := by
  rcases h with ⟨h1, h2⟩ | ⟨h1, h2⟩
  · exact .of_left (intBits_le_64 h1 h2)
  · exact .of_right (intBits_le_64 h1 h2)
theorem two_pow_nn (k : Nat) : (0 : Int) ≤ 2 ^ k := by
  rw [two_pow_cast]
  exact Int.natCast_nonneg _

theorem op_add : OpR X (binaryOp .Add) (rI0 fun i j => .int (i + j)) := opI0 fun _ _ _ _ _ _ _ q => add_int q
theorem op_sub : OpR X (binaryOp .Sub) (rI0 fun i j => .int (i - j)) := opI0 fun _ _ _ _ _ _ _ q => sub_int q
theorem op_mul : OpR X (binaryOp .Mult) (rI CMul fun i j => .int (i * j)) := opI fun _ _ _ _ _ _ _ hc q => mul_int q hc.ok
/-- // by a positive divisor -/
theorem op_fdiv : OpR X (binaryOp .FloorDiv) (rI CDiv fun i j => .int (i / j)) := opI fun i j _ _ _ _ _ hc q => by
  have h1 : (0 : Int) < j := hc.1
  have h2 : j < 1073741824 := hc.2
  exact floordiv_int (by omega) (by rw [Int.fdiv_eq_ediv_of_nonneg i (by omega)]; exact q) (.inl (PyProof.noPylong_small (by omega)))
theorem op_fdivN : OpR X (binaryOp .FloorDiv) (rI CDivN fun i j => .int (i.fdiv j)) := opI fun _ _ _ _ _ _ _ hc q => floordiv_int hc.1 q (.inl (PyProof.noPylong_small hc.2))
/-- % by a positive divisor of any size -/
theorem op_mod : OpR X (binaryOp .Mod) (rI (fun _ j => 0 < j) fun i j => .int (i % j)) := opI fun i j _ _ _ _ _ hc q => by
  have h1 : (0 : Int) < j := hc
  exact mod_int' (by omega) (by rw [Int.fmod_eq_emod_of_nonneg i (by omega)]; exact q)
theorem op_modN : OpR X (binaryOp .Mod) (rI (fun _ j => j ≠ 0) fun i j => .int (i.fmod j)) := opI fun _ _ _ _ _ _ _ hc q => mod_int' hc q
theorem op_pow : OpR X (binaryOp .Pow) (rI CPow fun i j => .int (i ^ j.toNat)) := opI fun _ _ _ _ _ _ _ hc q => pow_int_small hc.1 hc.2.1 hc.2.2 q
theorem op_shl : OpR X (binaryOp .LShift) (rI CPow fun i j => .int (i * 2 ^ j.toNat)) := opI fun _ _ _ _ _ _ _ hc q => lshift_int_small hc.1 hc.2.1 hc.2.2 q
theorem op_shr : OpR X (binaryOp .RShift) (rI (fun _ j => 0 ≤ j) fun i j => .int (i / 2 ^ j.toNat)) := opI fun i j _ _ _ _ _ hc q =>
  rshift_int hc (by rw [Int.fdiv_eq_ediv_of_nonneg i (two_pow_nn _)]; exact q)
theorem op_and : OpR X (binaryOp .BitAnd) (rI0 fun i j => .int (Builtin.bitAnd i j)) := opI0 fun _ _ _ _ _ _ _ q => and_int q
theorem op_or : OpR X (binaryOp .BitOr) (rI0 fun i j => .int (Builtin.bitOr i j)) := opI0 fun _ _ _ _ _ _ _ q => or_int q
theorem op_xor : OpR X (binaryOp .BitXor) (rI0 fun i j => .int (Builtin.bitXor i j)) := opI0 fun _ _ _ _ _ _ _ q => xor_int q

theorem iop_add : OpR X (inplaceOp .Add) (rI0 fun i j => .int (i + j)) := opI0 fun _ _ _ _ _ _ _ q => iadd_int q
theorem iop_sub : OpR X (inplaceOp .Sub) (rI0 fun i j => .int (i - j)) := opI0 fun _ _ _ _ _ _ _ q => isub_int q
theorem iop_mul : OpR X (inplaceOp .Mult) (rI CMul fun i j => .int (i * j)) := opI fun _ _ _ _ _ _ _ hc q => imul_int q hc.ok
theorem iop_fdiv : OpR X (inplaceOp .FloorDiv) (rI CDiv fun i j => .int (i / j)) := opI fun i j _ _ _ _ _ hc q => by
  have h1 : (0 : Int) < j := hc.1
  have h2 : j < 1073741824 := hc.2
  exact ifloordiv_int (by omega) (by rw [Int.fdiv_eq_ediv_of_nonneg i (by omega)]; exact q) (.inl (PyProof.noPylong_small (by omega)))
theorem iop_mod : OpR X (inplaceOp .Mod) (rI (fun _ j => 0 < j) fun i j => .int (i % j)) := opI fun i j _ _ _ _ _ hc q => by
  have h1 : (0 : Int) < j := hc
  exact imod_int (by omega) (by rw [Int.fmod_eq_emod_of_nonneg i (by omega)]; exact q)
theorem iop_shl : OpR X (inplaceOp .LShift) (rI CPow fun i j => .int (i * 2 ^ j.toNat)) := opI fun _ _ _ _ _ _ _ hc q => ilshift_int_small hc.1 hc.2.1 hc.2.2 q
theorem iop_shr : OpR X (inplaceOp .RShift) (rI (fun _ j => 0 ≤ j) fun i j => .int (i / 2 ^ j.toNat)) := opI fun i j _ _ _ _ _ hc q =>
  irshift_int hc (by rw [Int.fdiv_eq_ediv_of_nonneg i (two_pow_nn _)]; exact q)
theorem iop_and : OpR X (inplaceOp .BitAnd) (rI0 fun i j => .int (Builtin.bitAnd i j)) := opI0 fun _ _ _ _ _ _ _ q => iand_int q
theorem iop_or : OpR X (inplaceOp .BitOr) (rI0 fun i j => .int (Builtin.bitOr i j)) := opI0 fun _ _ _ _ _ _ _ q => ior_int q
theorem iop_xor : OpR X (inplaceOp .BitXor) (rI0 fun i j => .int (Builtin.bitXor i j)) := opI0 fun _ _ _ _ _ _ _ q => ixor_int q

theorem unI {f : Value → Sem Value} {g : Int → Int}
    (rule : ∀ (i : Int) (t : Tok) (s : Shared) (Q : Value → Shared → Prop) (E : Value → Shared → Prop), Q (.int (g i) s.toks) { s with toks := s.toks + 1 } → wpAny (model X.prog X.w) X.A (f (.int i t)) Q E s) :
    UnR X f (rU fun i => .int (g i)) := by
  intro pins s σ H x v Q I rx h
  obtain ⟨i, rfl, q⟩ := h
  obtain ⟨t, rfl⟩ := rx
  exact rule i t s _ _ ⟨.int (g i), H, I.tok _, ⟨_, rfl⟩, q⟩
theorem un_neg : UnR X (unaryOp .USub) (rU fun i => .int (-i)) := unI fun _ _ _ _ _ q => neg_int q
theorem un_inv : UnR X (unaryOp .Invert) (rU fun i => .int (Builtin.bitNot i)) := unI fun _ _ _ _ _ q => invert_int q

/-! ### bools among ints: n += (a < b) -/
theorem op_add_ib : OpR X (binaryOp .Add) (fun x y H Q => ∃ i k, x = .int i ∧ y = .bl k ∧ Q (.int (i + b2i k)) H) := by
  intro pins s σ H x y v u Q I rx ry h
  obtain ⟨i, k, rfl, rfl, q⟩ := h
  obtain ⟨t, rfl⟩ := rx
  cases ry
  exact add_int_bool ⟨.int (i + b2i k), H, I.tok _, ⟨_, rfl⟩, q⟩
end

/-! ### comparisons -/
/-- the scalars that == tells apart as data does -/
def scal : V → V → Bool
  | .non, .non => true | .non, .int _ => true | .int _, .non => true | .non, .bl _ => true | .bl _, .non => true | .non, .str _ => true | .str _, .non => true
  | .int _, .int _ => true | .bl _, .bl _ => true | .str _, .str _ => true | .byt _, .byt _ => true
  | .int _, .str _ => true | .str _, .int _ => true | .bl _, .str _ => true | .str _, .bl _ => true
  | _, _ => false
def rEq : R2 := fun x y H Q => scal x y = true ∧ Q (.bl (decide (x = y))) H
def rNe : R2 := fun x y H Q => scal x y = true ∧ Q (.bl (!decide (x = y))) H

theorem dec_int {i j : Int} : decide (V.int i = V.int j) = (i == j) := by
  rw [Bool.eq_iff_iff]
  simp
theorem dec_bl {i j : Bool} : decide (V.bl i = V.bl j) = (i == j) := by
  rw [Bool.eq_iff_iff]
  simp
theorem dec_str {i j : Str} : decide (V.str i = V.str j) = (i == j) := by
  rw [Bool.eq_iff_iff]
  simp
theorem dec_byt {i j : Array UInt8} : decide (V.byt i = V.byt j) = (i.toList == j.toList) := by
  rw [Bool.eq_iff_iff]
  cases i
  cases j
  simp

section
variable {X : Cx} {a b c : Expr} {ta tb tc : TE} {pos : Pos}
theorem fin_bl {pins : List (Addr × Obj)} {σ : St} {H : Hp} {s : Shared} {Q : VK} {k k' : Bool} (I : Inv X pins σ H s) (q : Q (.bl k) H) (e : k = k') : EP X pins σ Q (.bool k') s := by
  subst e
  exact ⟨.bl k, H, I, rfl, q⟩
theorem op_eq : OpR X (compareOp .Eq) rEq := by
  intro pins s σ H x y v u Q I rx ry h
  obtain ⟨hs, q⟩ := h
  cases x with
  | non =>
    cases rx
    cases y with
    | non => cases ry; exact PySem.EqNone.eq_none_none (fin_bl I q (by simp))
    | bl j => cases ry; exact PySem.EqNone.eq_none_bool (fin_bl I q (by simp))
    | int j => obtain ⟨t', rfl⟩ := ry; exact PySem.EqNone.eq_none_int (fin_bl I q (by simp))
    | str j => obtain ⟨t', rfl⟩ := ry; exact PySem.EqNone.eq_none_str (fin_bl I q (by simp))
    | _ => exact absurd (show false = true from hs) Bool.false_ne_true
  | bl i =>
    cases rx
    cases y with
    | non => cases ry; exact PySem.EqNone.eq_bool_none (fin_bl I q (by simp))
    | bl j => cases ry; exact eq_bool (fin_bl I q dec_bl)
    | str j => obtain ⟨t', rfl⟩ := ry; exact PySem.EqMixed.eq_bool_str (fin_bl I q (by simp))
    | _ => exact absurd (show false = true from hs) Bool.false_ne_true
  | int i =>
    obtain ⟨t, rfl⟩ := rx
    cases y with
    | non => cases ry; exact PySem.EqNone.eq_int_none (fin_bl I q (by simp))
    | int j => obtain ⟨t', rfl⟩ := ry; exact eq_int (fin_bl I q dec_int)
    | str j => obtain ⟨t', rfl⟩ := ry; exact PySem.EqMixed.eq_int_str (fin_bl I q (by simp))
    | _ => exact absurd (show false = true from hs) Bool.false_ne_true
  | str i =>
    obtain ⟨t, rfl⟩ := rx
    cases y with
    | non => cases ry; exact PySem.EqNone.eq_str_none (fin_bl I q (by simp))
    | bl j => cases ry; exact PySem.EqMixed.eq_str_bool (fin_bl I q (by simp))
    | int j => obtain ⟨t', rfl⟩ := ry; exact PySem.EqMixed.eq_str_int (fin_bl I q (by simp))
    | str j => obtain ⟨t', rfl⟩ := ry; exact eq_str (fin_bl I q dec_str)
    | _ => exact absurd (show false = true from hs) Bool.false_ne_true
  | byt i =>
    obtain ⟨t, rfl⟩ := rx
    cases y with
    | byt j => obtain ⟨t', rfl⟩ := ry; exact PySem.W.eq_bytes (fin_bl I q dec_byt)
    | _ => exact absurd (show false = true from hs) Bool.false_ne_true
  | _ => cases y <;> exact absurd (show false = true from hs) Bool.false_ne_true
theorem op_ne : OpR X (compareOp .NotEq) rNe := by
  intro pins s σ H x y v u Q I rx ry h
  obtain ⟨hs, q⟩ := h
  cases x with
  | non =>
    cases rx
    cases y with
    | non => cases ry; exact PySem.EqNone.ne_none_none (fin_bl I q (by simp))
    | bl j => cases ry; exact PySem.EqNone.ne_none_bool (fin_bl I q (by simp))
    | int j => obtain ⟨t', rfl⟩ := ry; exact PySem.EqNone.ne_none_int (fin_bl I q (by simp))
    | str j => obtain ⟨t', rfl⟩ := ry; exact PySem.EqNone.ne_none_str (fin_bl I q (by simp))
    | _ => exact absurd (show false = true from hs) Bool.false_ne_true
  | bl i =>
    cases rx
    cases y with
    | non => cases ry; exact PySem.EqNone.ne_bool_none (fin_bl I q (by simp))
    | bl j => cases ry; exact ne_bool (fin_bl I q (congrArg not dec_bl))
    | str j => obtain ⟨t', rfl⟩ := ry; exact PySem.EqMixed.ne_bool_str (fin_bl I q (by simp))
    | _ => exact absurd (show false = true from hs) Bool.false_ne_true
  | int i =>
    obtain ⟨t, rfl⟩ := rx
    cases y with
    | non => cases ry; exact PySem.EqNone.ne_int_none (fin_bl I q (by simp))
    | int j => obtain ⟨t', rfl⟩ := ry; exact ne_int (fin_bl I q (congrArg not dec_int))
    | str j => obtain ⟨t', rfl⟩ := ry; exact PySem.EqMixed.ne_int_str (fin_bl I q (by simp))
    | _ => exact absurd (show false = true from hs) Bool.false_ne_true
  | str i =>
    obtain ⟨t, rfl⟩ := rx
    cases y with
    | non => cases ry; exact PySem.EqNone.ne_str_none (fin_bl I q (by simp))
    | bl j => cases ry; exact PySem.EqMixed.ne_str_bool (fin_bl I q (by simp))
    | int j => obtain ⟨t', rfl⟩ := ry; exact PySem.EqMixed.ne_str_int (fin_bl I q (by simp))
    | str j => obtain ⟨t', rfl⟩ := ry; exact ne_str (fin_bl I q (congrArg not dec_str))
    | _ => exact absurd (show false = true from hs) Bool.false_ne_true
  | byt i =>
    obtain ⟨t, rfl⟩ := rx
    cases y with
    | byt j => obtain ⟨t', rfl⟩ := ry; exact PySem.W.ne_bytes (fin_bl I q (congrArg not dec_byt))
    | _ => exact absurd (show false = true from hs) Bool.false_ne_true
  | _ => cases y <;> exact absurd (show false = true from hs) Bool.false_ne_true

theorem op_lt : OpR X (compareOp .Lt) (rI0 fun i j => .bl (decide (i < j))) := opB0 fun _ _ _ _ _ _ _ q => lt_int q
theorem op_le : OpR X (compareOp .LtE) (rI0 fun i j => .bl (decide (i ≤ j))) := opB0 fun _ _ _ _ _ _ _ q => le_int q
theorem op_gt : OpR X (compareOp .Gt) (rI0 fun i j => .bl (decide (j < i))) := opB0 fun _ _ _ _ _ _ _ q => gt_int q
theorem op_ge : OpR X (compareOp .GtE) (rI0 fun i j => .bl (decide (j ≤ i))) := opB0 fun _ _ _ _ _ _ _ q => ge_int q
theorem op_lt_str : OpR X (compareOp .Lt) (fun x y H Q => ∃ i j, x = .str i ∧ y = .str j ∧ Q (.bl (decide (i.cps.toList < j.cps.toList))) H) := by
  intro pins s σ H x y v u Q I rx ry h
  obtain ⟨i, j, rfl, rfl, q⟩ := h
  obtain ⟨t, rfl⟩ := rx
  obtain ⟨t', rfl⟩ := ry
  exact lt_str (fin_bl I q rfl)
/-- the one string within the other -/
theorem op_in_str : OpR X (compareOp .In) (fun x y H Q => ∃ i j, x = .str i ∧ y = .str j ∧ Q (.bl (!(Builtin.Str.occurrences j i 0 j.length 1).isEmpty)) H) := by
  intro pins s σ H x y v u Q I rx ry h
  obtain ⟨i, j, rfl, rfl, q⟩ := h
  obtain ⟨t, rfl⟩ := rx
  obtain ⟨t', rfl⟩ := ry
  exact in_str (fin_bl I q rfl)

/-- is None, is not None: the right side a value none -/
theorem op_isN : OpR X (compareOp .Is) (fun x y H Q => y = .non ∧ Q (.bl (decide (x = .non))) H) := by
  intro pins s σ H x y v u Q I rx ry h
  obtain ⟨rfl, q⟩ := h
  cases ry
  refine is_none_gen (fin_bl I q ?_)
  cases x <;> first
    | (cases rx; rfl)
    | (obtain ⟨t, rfl⟩ := rx; rfl)
theorem op_notN : OpR X (compareOp .IsNot) (fun x y H Q => y = .non ∧ Q (.bl (!decide (x = .non))) H) := by
  intro pins s σ H x y v u Q I rx ry h
  obtain ⟨rfl, q⟩ := h
  cases ry
  refine isnot_none_gen (fin_bl I q ?_)
  cases x <;> first
    | (cases rx; rfl)
    | (obtain ⟨t, rfl⟩ := rx; rfl)

theorem op_notin_str : OpR X (compareOp .NotIn) (fun x y H Q => ∃ i j, x = .str i ∧ y = .str j ∧ Q (.bl (!(!(Builtin.Str.occurrences j i 0 j.length 1).isEmpty))) H) := by
  intro pins s σ H x y v u Q I rx ry h
  obtain ⟨i, j, rfl, rfl, q⟩ := h
  obtain ⟨t, rfl⟩ := rx
  obtain ⟨t', rfl⟩ := ry
  exact notIn_str (fin_bl I q rfl)
/-- is, is not of two objects that are tracked lists or instances -/
def isObj : HO → Bool
  | .lst _ => true
  | .ins _ _ _ => true
  | _ => false
theorem obj_there {pins : List (Addr × Obj)} {s : Shared} {σ : St} {H : Hp} {a : Addr} {o : HO} (I : Inv X pins σ H s) (h : H a = some o) (p : isObj o = true) : ∃ ob, s.heap.get? a = some ob ∧ ob.cls ≠ .type "tuple" := by
  cases o with
  | lst xs =>
    obtain ⟨_, its, n, _, e⟩ : xs.length ≤ sizeLine ∧ ∃ (its : List Value) (n : Nat), Vals xs its ∧ s.heap.get? a = some { cls := .type "list", data := .seq its.toArray n } := I.hok a _ h
    exact ⟨_, e, (by show Value.type "list" ≠ .type "tuple"; decide +kernel)⟩
  | ins C dx fs =>
    have x := I.hok a _ h
    obtain ⟨_, _, _, e, _⟩ := x
    exact ⟨_, e, (by show Value.ref C ≠ .type "tuple"; exact fun z => by cases z)⟩
  | _ => exact absurd (show false = true from p) Bool.false_ne_true
theorem op_is_ref : OpR X (compareOp .Is) (fun x y H Q => ∃ a b oa ob, x = .ref a ∧ y = .ref b ∧ H a = some oa ∧ isObj oa = true ∧ H b = some ob ∧ isObj ob = true ∧ Q (.bl (decide (a = b))) H) := by
  intro pins s σ H x y v u Q I rx ry h
  obtain ⟨a, b, oa, ob, rfl, rfl, ha, pa, hb, pb, q⟩ := h
  cases rx
  cases ry
  obtain ⟨o1, e1, n1⟩ := obj_there I ha pa
  obtain ⟨o2, e2, _⟩ := obj_there I hb pb
  by_cases z : a = b
  · subst z
    exact wpAny_is_ref_self (fin_bl I q (by simp))
  · exact wpAny_is_ref_other z e1 e2 n1 (fin_bl I q (by simp [z]))
theorem op_isnot_ref : OpR X (compareOp .IsNot) (fun x y H Q => ∃ a b oa ob, x = .ref a ∧ y = .ref b ∧ H a = some oa ∧ isObj oa = true ∧ H b = some ob ∧ isObj ob = true ∧ Q (.bl (!decide (a = b))) H) := by
  intro pins s σ H x y v u Q I rx ry h
  obtain ⟨a, b, oa, ob, rfl, rfl, ha, pa, hb, pb, q⟩ := h
  cases rx
  cases ry
  obtain ⟨o1, e1, n1⟩ := obj_there I ha pa
  obtain ⟨o2, e2, _⟩ := obj_there I hb pb
  by_cases z : a = b
  · subst z
    exact wpAny_isNot_ref_self (fin_bl I q (by simp))
  · exact wpAny_isNot_ref_other z e1 e2 n1 (fin_bl I q (by simp [z]))

/-- two rules for one operation: by cases -/
theorem OpR.or {f : Value → Value → Sem Value} {r r' : R2} (h : OpR X f r) (h' : OpR X f r') : OpR X f (fun x y H Q => r x y H Q ∨ r' x y H Q) := by
  intro pins s σ H x y v u Q I rx ry q
  rcases q with q | q
  · exact h pins s σ H x y v u Q I rx ry q
  · exact h' pins s σ H x y v u Q I rx ry q

theorem nomark (b : Expr) {op : CmpOp} (h : op ≠ .In := by decide) (h2 : op ≠ .NotIn := by decide) : behindInMarks op b = false := by
  have e1 : (op == CmpOp.In) = false := by cases op <;> first | rfl | exact absurd rfl h
  have e2 : (op == CmpOp.NotIn) = false := by cases op <;> first | rfl | exact absurd rfl h2
  cases b <;> simp [behindInMarks, e1, e2]
/-- a comparison as a value; hm: nomark b, or (for in, not in) by with_unfolding_all rfl -/
theorem pe_cmpR {op : CmpOp} {r : R2} (ho : OpR X (compareOp op) r) (ha : PE X a ta) (hb : PE X b tb) (hm : behindInMarks op b = false) : PE X (.Compare a [op] [b] pos) (tOp r ta tb) := by
  intro pins s σ H Q I h
  exact wpAny_Compare1 (binT ha hb I h fun v u s2 x y H2 I2 rx ry q => ho pins s2 σ H2 x y v u Q I2 rx ry q) hm
/-- a reading of a value as a test -/
def tTest (t : TE) : TT := fun σ H Q => t σ H fun x H' => ∃ k, x = .bl k ∧ Q k H'
theorem pt_cmpR {op : CmpOp} {r : R2} (ho : OpR X (compareOp op) r) (ha : PE X a ta) (hb : PE X b tb) (hm : behindInMarks op b = false) : PT X (.Compare a [op] [b] pos) (tTest (tOp r ta tb)) := by
  intro pins s σ H Q I h
  refine wpAny_isTrue_Compare1 (thn (ha pins s σ H _ I h) fun v s1 ⟨x, H1, I1, r1, q1⟩ => thn (hb pins s1 σ H1 _ I1 q1) fun u s2 ⟨y, H2, I2, r2, q2⟩ =>
    thn (ho pins s2 σ H2 x y v u _ I2 r1 r2 q2) fun c s3 ⟨z, H3, I3, r3, k, e, q3⟩ => ?_) hm
  subst e
  cases r3
  exact wpAny_truthy_bool ⟨H3, I3, q3⟩
/-- a op1 b op2 c -/
def tChain (r r' : R2) (ta tb tc : TE) : TE := fun σ H Q => ta σ H fun x H1 => tb σ H1 fun y H2 => r x y H2 fun z H3 => ∃ k, z = .bl k ∧
  (if k = true then tc σ H3 fun w' H4 => r' y w' H4 Q else Q (.bl false) H3)
theorem pe_chain {op op' : CmpOp} {r r' : R2} (ho : OpR X (compareOp op) r) (ho' : OpR X (compareOp op') r') (ha : PE X a ta) (hb : PE X b tb) (hc : PE X c tc)
    (hm : lastMarks [op, op'] [b, c] = false := by with_unfolding_all rfl) : PE X (.Compare a [op, op'] [b, c] pos) (tChain r r' ta tb tc) := by
  intro pins s σ H Q I h
  refine Compare_chain (thn (ha pins s σ H _ I h) fun v s1 ⟨x, H1, I1, r1, q1⟩ => chain_link (thn (hb pins s1 σ H1 _ I1 q1) fun u s2 ⟨y, H2, I2, r2, q2⟩ =>
    thn (ho pins s2 σ H2 x y v u _ I2 r1 r2 q2) fun d s3 ⟨z, H3, I3, r3, k, e, q3⟩ => ?_)) hm
  subst e
  cases r3
  refine wpAny_truthy_bool ?_
  cases k with
  | false => exact ite_ff ⟨.bl false, H3, I3, rfl, q3⟩
  | true => exact ite_tt (chain_last (thn (hc pins s3 σ H3 _ I3 q3) fun w' s4 ⟨z', H4, I4, r4, q4⟩ => ho' pins s4 σ H4 y z' u w' Q I4 r2 r4 q4))
theorem pt_chain {op op' : CmpOp} {r r' : R2} (ho : OpR X (compareOp op) r) (ho' : OpR X (compareOp op') r') (ha : PE X a ta) (hb : PE X b tb) (hc : PE X c tc)
    (hm : lastMarks [op, op'] [b, c] = false := by with_unfolding_all rfl) : PT X (.Compare a [op, op'] [b, c] pos) (tTest (tChain r r' ta tb tc)) := by
  intro pins s σ H Q I h
  refine isTrue_chain (thn (ha pins s σ H _ I h) fun v s1 ⟨x, H1, I1, r1, q1⟩ => test_link (thn (hb pins s1 σ H1 _ I1 q1) fun u s2 ⟨y, H2, I2, r2, q2⟩ =>
    thn (ho pins s2 σ H2 x y v u _ I2 r1 r2 q2) fun d s3 ⟨z, H3, I3, r3, k, e, q3⟩ => ?_)) hm
  subst e
  cases r3
  refine wpAny_truthy_bool ?_
  cases k with
  | false =>
    obtain ⟨k', e', q'⟩ := q3
    cases e'
    exact ite_ff ⟨H3, I3, q'⟩
  | true =>
    refine ite_tt (test_last (thn (hc pins s3 σ H3 _ I3 q3) fun w' s4 ⟨z', H4, I4, r4, q4⟩ => thn (ho' pins s4 σ H4 y z' u w' _ I4 r2 r4 q4) fun d' s5 ⟨z2, H5, I5, r5, k2, e2, q5⟩ => ?_))
    subst e2
    cases r5
    exact wpAny_truthy_bool ⟨H5, I5, q5⟩

/-! ### truth -/
/-- a value's truth by the abstract heap -/
def TruV (K : PySem.W.Frag) (x : V) (H : Hp) (k : Bool) : Prop :=
  match x with
  | .non => k = false
  | .bl b => k = b
  | .int i => k = (i != 0)
  | .str y => y.length ≤ sizeLine ∧ k = ((y.length : Int) != 0)
  | .byt y => y.size ≤ sizeLine ∧ k = ((y.size : Int) != 0)
  | .ref p => (∃ xs, SqL K H p xs ∧ k = !xs.isEmpty) ∨ (∃ xs, SqT K H p xs ∧ k = !xs.isEmpty) ∨ ∃ kvs, H p = some (.dK kvs) ∧ k = !kvs.isEmpty
  | _ => False
theorem isEmpty_kv {κ : Type} {kvs : List (κ × V)} {vs : List (κ × Value)} (r : KV kvs vs) : (!vs.isEmpty) = !kvs.isEmpty := by
  cases r <;> rfl
theorem isEmpty_of {xs : List V} {its : List Value} (r : Vals xs its) : (!its.toArray.isEmpty) = !xs.isEmpty := by
  cases r <;> simp
theorem line63 : (sizeLine : Nat) < 2 ^ 63 := by rw [sizeLine_eq]; decide
theorem tru_ok : TruR X (fun x H Q => ∃ k, TruV X.K x H k ∧ Q k H) := by
  intro pins s σ H x v Q I rx h
  obtain ⟨k, e, q⟩ := h
  have hl := line63
  have hs : sizeLine = 16777216 := sizeLine_eq
  cases x with
  | non =>
    cases rx
    have e' : k = false := e
    subst e'
    exact truthy_none ⟨H, I, q⟩
  | bl b =>
    cases rx
    have e' : k = b := e
    subst e'
    exact wpAny_truthy_bool ⟨H, I, q⟩
  | int i =>
    obtain ⟨t, rfl⟩ := rx
    have e' : k = (i != 0) := e
    subst e'
    exact PySem.P.truthy_int ⟨H, I, q⟩
  | str y =>
    obtain ⟨t, rfl⟩ := rx
    obtain ⟨hy, e'⟩ : y.length ≤ sizeLine ∧ k = ((y.length : Int) != 0) := e
    subst e'
    exact PySem.P.truthy_str (by omega) ⟨H, I.tok _, q⟩
  | byt y =>
    obtain ⟨t, rfl⟩ := rx
    obtain ⟨hy, e'⟩ : y.size ≤ sizeLine ∧ k = ((y.size : Int) != 0) := e
    subst e'
    exact PySem.W.truthy_bytes (by omega) ⟨H, I.tok _, q⟩
  | ref p =>
    cases rx
    have e' : (∃ xs, SqL X.K H p xs ∧ k = !xs.isEmpty) ∨ (∃ xs, SqT X.K H p xs ∧ k = !xs.isEmpty) ∨ ∃ kvs, H p = some (.dK kvs) ∧ k = !kvs.isEmpty := e
    rcases e' with ⟨xs, hx, e'⟩ | ⟨xs, hx, e'⟩ | ⟨kvs, hx, e'⟩
    · subst e'
      obtain ⟨its, r, pl, hz⟩ := I.list hx
      have hlen := r.length
      exact wpAny_truthy_list pl.isList (by simp only [List.size_toArray]; omega) ⟨H, I.tok _, by rw [isEmpty_of r]; exact q⟩
    · subst e'
      obtain ⟨its, r, pl, hz⟩ := I.tuple hx
      have hlen := r.length
      exact truthy_tuple pl (by simp only [List.size_toArray]; omega) ⟨H, I.tok _, by rw [isEmpty_of r]; exact q⟩
    · subst e'
      obtain ⟨hz, hS, vs, r, m⟩ : kvs.length ≤ sizeLine ∧ (p == sysModules) = false ∧ ∃ vs, KV kvs vs ∧ s.heap.DictOf (mixKind X.prog X.w) p vs := I.hok p _ hx
      have hlen : kvs.length = vs.length := Paired.length r
      exact wpAny_truthy_dict hS m (by omega) ⟨H, I.tok _, by rw [isEmpty_kv r]; exact q⟩
  | _ => exact (show False from e).elim
/-- any expression whose test is its value's truth (a name, a call, a subscript, a field ..: he by fun _ => rfl) -/
theorem pt_truth (ha : PE X a ta) (he : ∀ whole, isTrue a X.env whole = (do let v ← whole; standAt a.pos; holding [v] (truthy v))) :
    PT X a (fun σ H Q => ta σ H fun x H' => ∃ k, TruV X.K x H' k ∧ Q k H') := by
  intro pins s σ H Q I h
  exact isTrue_plain (thn (ha pins s σ H _ I h) fun v s1 ⟨x, H1, I1, r1, q1⟩ => tru_ok pins s1 σ H1 x v Q I1 r1 q1) (he _)

/-! ### strs and bytes -/
theorem pe_byt {x : List UInt8} {k : Nat} : PE X (.Constant (.bytes x) k pos) (fun _ H Q => Q (.byt x.toArray) H) := fun _ _ _ H _ I h => PySem.W.Constant_bytes ⟨.byt x.toArray, H, I.tok _, ⟨_, rfl⟩, h⟩
theorem op_add_str : OpR X (binaryOp .Add) (fun x y H Q => ∃ i j, x = .str i ∧ y = .str j ∧ i.length + j.length ≤ sizeLine ∧ Q (.str (i ++ j)) H) := by
  intro pins s σ H x y v u Q I rx ry h
  obtain ⟨i, j, rfl, rfl, hz, q⟩ := h
  obtain ⟨t, rfl⟩ := rx
  obtain ⟨t', rfl⟩ := ry
  exact add_str (fun t' tk => ⟨.str (i ++ j), H, I.tok _, ⟨_, rfl⟩, q⟩) hz
theorem iop_add_str : OpR X (inplaceOp .Add) (fun x y H Q => ∃ i j, x = .str i ∧ y = .str j ∧ i.length + j.length ≤ sizeLine ∧ Q (.str (i ++ j)) H) := by
  intro pins s σ H x y v u Q I rx ry h
  obtain ⟨i, j, rfl, rfl, hz, q⟩ := h
  obtain ⟨t, rfl⟩ := rx
  obtain ⟨t', rfl⟩ := ry
  exact iadd_str (fun t' tk => ⟨.str (i ++ j), H, I.tok _, ⟨_, rfl⟩, q⟩) hz
theorem op_add_byt : OpR X (binaryOp .Add) (fun x y H Q => ∃ i j, x = .byt i ∧ y = .byt j ∧ i.size + j.size ≤ 16777216 ∧ Q (.byt (i ++ j)) H) := by
  intro pins s σ H x y v u Q I rx ry h
  obtain ⟨i, j, rfl, rfl, hz, q⟩ := h
  obtain ⟨t, rfl⟩ := rx
  obtain ⟨t', rfl⟩ := ry
  exact PySem.W.KBy.add_bytes hz (fun t' tk => ⟨.byt (i ++ j), H, I.tok _, ⟨_, rfl⟩, q⟩)

def PlainIxT (b : Expr) : Prop := ∀ o i, subscripted b false o i = operate [o, i] (getItem o i)
/-- s[i], 0 ≤ i < len -/
theorem pe_item_str (ha : PE X a ta) (hb : PE X b tb) (hs : PlainIxT b) :
    PE X (.Subscript a b pos) (tOp (fun x y H Q => ∃ z i c, x = .str z ∧ y = .int i ∧ 0 ≤ i ∧ i < 2 ^ 63 ∧ i < z.length ∧ z.cps[i.toNat]? = some c ∧ Q (.str ⟨#[c]⟩) H) ta tb) := by
  intro pins s σ H Q I h
  refine Subscript_ (binT ha hb I h fun v u s2 x y H2 I2 rx ry q => ?_)
  obtain ⟨z, i, c, rfl, rfl, h0, h63, h1, hc, q⟩ := q
  obtain ⟨t, rfl⟩ := rx
  obtain ⟨t', rfl⟩ := ry
  have e : seqIndex? i z.length = some i.toNat := PySem.StrLaws.seqIndex_nonneg h0 h1
  exact tail_any (typeIs_str s2 z t) slot_str_getitem.lookup (getItem_str (c := c) (by
    have e1 : decide (i < -(2 ^ 63 : Int)) = false := decide_eq_false (by omega)
    have e2 : decide (i ≥ 2 ^ 63) = false := decide_eq_false (by omega)
    rw [e1, e2] <;> rfl) (by rw [e]; exact hc) ⟨.str ⟨#[c]⟩, H2, I2.tok _, ⟨_, rfl⟩, q⟩) (hs _ _)
/-- b[i], 0 ≤ i < len -/
theorem pe_item_byt (ha : PE X a ta) (hb : PE X b tb) (hs : PlainIxT b) :
    PE X (.Subscript a b pos) (tOp (fun x y H Q => ∃ (z : List UInt8) (i : Int), x = .byt z.toArray ∧ y = .int i ∧ z.length ≤ sizeLine ∧ 0 ≤ i ∧ i < z.length ∧ Q (.int ((z.getD i.toNat 0).toNat : Nat)) H) ta tb) := by
  intro pins s σ H Q I h
  refine Subscript_ (binT ha hb I h fun v u s2 x y H2 I2 rx ry q => ?_)
  obtain ⟨z, i, rfl, rfl, hz, h0, h1, q⟩ := q
  obtain ⟨t, rfl⟩ := rx
  obtain ⟨t', rfl⟩ := ry
  have hl : sizeLine = 16777216 := sizeLine_eq
  exact tail_any (PySem.W.typeIs_bytes s2 z.toArray t) PySem.W.FB.slot_bytes_getitem.lookup (PySem.W.getItem_bytes (by omega) h0 h1 ⟨.int ((z.getD i.toNat 0).toNat : Nat), H2, I2.tok _, ⟨_, rfl⟩, q⟩) (hs _ _)

/-! ### scalar builtins, by CallR -/
theorem vals1 {x : V} {us : List Value} (r : Vals [x] us) : ∃ u, us = [u] ∧ RelV x u := by
  cases r with
  | cons r1 r2 => cases r2; exact ⟨_, rfl, r1⟩
theorem vals2 {x y : V} {us : List Value} (r : Vals [x, y] us) : ∃ u w', us = [u, w'] ∧ RelV x u ∧ RelV y w' := by
  cases r with
  | cons r1 r2 =>
    cases r2 with
    | cons r3 r4 => cases r4; exact ⟨_, _, rfl, r1, r3⟩
theorem call_abs : CallR X (.builtin "abs") (fun xs H Q => ∃ i, xs = [.int i] ∧ Q (.int (if i < 0 then -i else i)) H) := by
  intro pins s σ H xs us Q I r h
  obtain ⟨i, rfl, q⟩ := h
  obtain ⟨u, rfl, t, rfl⟩ := vals1 r
  exact call_abs_int fun u tk => ⟨.int (if i < 0 then -i else i), H, I.tok _, ⟨_, rfl⟩, q⟩
theorem call_max2 (hc : X.calm = true) : CallR X (.builtin "max") (fun xs H Q => ∃ i j, xs = [.int i, .int j] ∧ Q (.int (if j > i then j else i)) H) := by
  intro pins s σ H xs us Q I r h
  obtain ⟨i, j, rfl, q⟩ := h
  obtain ⟨u, w', rfl, ⟨t, rfl⟩, ⟨t', rfl⟩⟩ := vals2 r
  refine max_two_ints (I.ok.hd hc) fun h' tk k => ⟨_, H, I.kept k, ?_, q⟩
  by_cases hj : j > i
  · rw [if_pos hj, if_pos hj]; exact ⟨_, rfl⟩
  · rw [if_neg hj, if_neg hj]; exact ⟨_, rfl⟩
theorem call_min2 (hc : X.calm = true) : CallR X (.builtin "min") (fun xs H Q => ∃ i j, xs = [.int i, .int j] ∧ Q (.int (if j < i then j else i)) H) := by
  intro pins s σ H xs us Q I r h
  obtain ⟨i, j, rfl, q⟩ := h
  obtain ⟨u, w', rfl, ⟨t, rfl⟩, ⟨t', rfl⟩⟩ := vals2 r
  refine min_two_ints (I.ok.hd hc) fun h' tk k => ⟨_, H, I.kept k, ?_, q⟩
  by_cases hj : j < i
  · rw [if_pos hj, if_pos hj]; exact ⟨_, rfl⟩
  · rw [if_neg hj, if_neg hj]; exact ⟨_, rfl⟩
theorem call_int1 : CallR X (.type "int") (fun xs H Q => (∃ i, xs = [.int i] ∧ Q (.int i) H) ∨ ∃ k, xs = [.bl k] ∧ Q (.int (if k then 1 else 0)) H) := by
  intro pins s σ H xs us Q I r h
  rcases h with ⟨i, rfl, q⟩ | ⟨k, rfl, q⟩
  · obtain ⟨u, rfl, t, rfl⟩ := vals1 r
    exact call_int_int ⟨.int i, H, I, ⟨_, rfl⟩, q⟩
  · obtain ⟨u, rfl, r1⟩ := vals1 r
    cases r1
    exact call_int_bool ⟨.int (if k then 1 else 0), H, I.tok _, ⟨_, rfl⟩, q⟩
theorem call_bool1 : CallR X (.type "bool") (fun xs H Q => (∃ i, xs = [.int i] ∧ Q (.bl (i != 0)) H) ∨ ∃ k, xs = [.bl k] ∧ Q (.bl k) H) := by
  intro pins s σ H xs us Q I r h
  rcases h with ⟨i, rfl, q⟩ | ⟨k, rfl, q⟩
  · obtain ⟨u, rfl, t, rfl⟩ := vals1 r
    exact call_bool_int ⟨.bl (i != 0), H, I, rfl, q⟩
  · obtain ⟨u, rfl, r1⟩ := vals1 r
    cases r1
    exact call_bool_bool ⟨.bl k, H, I, rfl, q⟩
theorem call_str_int : CallR X (.type "str") (fun xs H Q => ∃ i, xs = [.int i] ∧ i.natAbs.log2 < 1920 ∧ Q (.str (toString i)) H) := by
  intro pins s σ H xs us Q I r h
  obtain ⟨i, rfl, hz, q⟩ := h
  obtain ⟨u, rfl, t, rfl⟩ := vals1 r
  exact PySem.P.str_of_int hz ⟨.str _, H, I.tok _, ⟨_, rfl⟩, q⟩
theorem call_ord : CallR X (.builtin "ord") (fun xs H Q => ∃ x, xs = [.str x] ∧ x.length = 1 ∧ Q (.int (x.cps.getD 0 0 : Nat)) H) := by
  intro pins s σ H xs us Q I r h
  obtain ⟨x, rfl, hz, q⟩ := h
  obtain ⟨u, rfl, t, rfl⟩ := vals1 r
  exact ord_of_one hz ⟨.int _, H, I.tok _, ⟨_, rfl⟩, q⟩
theorem call_chr : CallR X (.builtin "chr") (fun xs H Q => ∃ i, xs = [.int i] ∧ 0 ≤ i ∧ i ≤ 1114111 ∧ Q (.str ⟨#[i.toNat]⟩) H) := by
  intro pins s σ H xs us Q I r h
  obtain ⟨i, rfl, h0, h1, q⟩ := h
  obtain ⟨u, rfl, t, rfl⟩ := vals1 r
  exact chr_of_range h0 h1 ⟨.str _, H, I.tok _, ⟨_, rfl⟩, q⟩
/-- len of a str, a bytes, a list, a tuple -/
def LenV (K : PySem.W.Frag) (x : V) (H : Hp) (n : Nat) : Prop :=
  match x with
  | .str y => y.length ≤ sizeLine ∧ n = y.length
  | .byt y => y.size ≤ sizeLine ∧ n = y.size
  | .ref p => (∃ xs, SqL K H p xs ∧ n = xs.length) ∨ ∃ xs, SqT K H p xs ∧ n = xs.length
  | _ => False
theorem call_len : CallR X (.builtin "len") (fun xs H Q => ∃ x n, xs = [x] ∧ LenV X.K x H n ∧ Q (.int n) H) := by
  intro pins s σ H xs us Q I r h
  obtain ⟨x, n, rfl, e, q⟩ := h
  obtain ⟨u, rfl, rx⟩ := vals1 r
  have hl := line63
  have hs : sizeLine = 16777216 := sizeLine_eq
  cases x with
  | str y =>
    obtain ⟨t, rfl⟩ := rx
    obtain ⟨hy, e'⟩ : y.length ≤ sizeLine ∧ n = y.length := e
    subst e'
    exact len_str (by omega) ⟨.int _, H, I.tok _, ⟨_, rfl⟩, q⟩
  | byt y =>
    obtain ⟨t, rfl⟩ := rx
    obtain ⟨hy, e'⟩ : y.size ≤ sizeLine ∧ n = y.size := e
    subst e'
    exact PySem.W.len_bytes (by omega) ⟨.int _, H, I.tok _, ⟨_, rfl⟩, q⟩
  | ref p =>
    cases rx
    have e' : (∃ xs, SqL X.K H p xs ∧ n = xs.length) ∨ ∃ xs, SqT X.K H p xs ∧ n = xs.length := e
    rcases e' with ⟨xs, hx, e'⟩ | ⟨xs, hx, e'⟩
    · subst e'
      obtain ⟨its, r', pl, hz⟩ := I.list hx
      have hlen := r'.length
      exact Calls.call_len_list pl.isList (by simp only [List.size_toArray]; omega) ⟨.int xs.length, H, I.tok _, ⟨_, by simp only [List.size_toArray]; rw [hlen]⟩, q⟩
    · subst e'
      obtain ⟨its, r', pl, hz⟩ := I.tuple hx
      have hlen := r'.length
      exact len_tuple pl (by simp only [List.size_toArray]; omega) ⟨.int xs.length, H, I.tok _, ⟨_, by simp only [List.size_toArray]; rw [hlen]⟩, q⟩
  | _ => exact (show False from e).elim
/-- divmod: a new tuple -/
theorem call_divmod : CallR X (.builtin "divmod") (fun xs H Q => ∃ i j, xs = [.int i, .int j] ∧ CDiv i j ∧ ∀ p, H p = none → Q (.ref p) (upd H p (.tup [.int (i / j), .int (i % j)]))) := by
  intro pins s σ H xs us Q I r h
  obtain ⟨i, j, rfl, ⟨h1, h2⟩, q⟩ := h
  obtain ⟨u, w', rfl, ⟨t, rfl⟩, ⟨t', rfl⟩⟩ := vals2 r
  refine divmod_int (by omega) ?_ (.inl (PyProof.noPylong_small (by omega)))
  rw [Int.fdiv_eq_ediv_of_nonneg i (by omega), Int.fmod_eq_emod_of_nonneg i (by omega)]
  have hn : H s.heap.objs.size = none := I.hok.fresh (Nat.le_refl _)
  refine ⟨.ref s.heap.objs.size, _, ?_, rfl, q _ hn⟩
  refine I.laid (fun b o e => Heap.get?_push_of_some _ e) (Nat.le_refl _) ⟨by simp only [List.length_cons, List.length_nil]; rw [sizeLine_eq]; decide, [.int (i / j) s.toks, .int (i % j) (s.toks + 1)], .cons ⟨_, rfl⟩ (.cons ⟨_, rfl⟩ .nil), ?_⟩
  exact ⟨_, Heap.get?_push_size s.heap rfl, rfl, 0, rfl⟩
end
end L2

namespace L2
open PySem PySem.Spec PyProof.Rows

/-! ### an instance, its attributes a map -/
structure ObjM (h : Heap) (x dx C : Addr) (mA : Str → Option Value) : Prop where
  obj : h.get? x = some (PySem.W.instObj C dx)
  ns : h.Ns1 dx mA
  ne : dx ≠ x

theorem lookIn_ns {h : Heap} {dx : Addr} {mA : Str → Option Value} (n : h.Ns1 dx mA) : ∃ od, h.get? dx = some od ∧ ∀ name, PySem.W.lookIn name od = some (mA name) := by
  obtain ⟨o, es, ep, ho, hd, hk, _, hm⟩ := n
  refine ⟨o, ho, fun name => ?_⟩
  have e := hm name
  unfold nsFind findBy at e
  rw [← Array.find?_toList] at e
  unfold PySem.W.lookIn
  rw [hd]
  dsimp only
  split
  · rename_i y q
    rw [q] at e
    exact congrArg some e
  · rename_i q
    rw [q] at e
    have a : es.toList.any (·.refKey) = false := by
      rw [List.any_eq_false]
      intro y hy
      obtain ⟨z, t, hkey⟩ := hk y (Array.mem_toList_iff.mp hy)
      simp [DictEntry.refKey, hkey]
    have a' : ¬ es.toList.any (·.refKey) = true := by rw [a]; exact Bool.false_ne_true
    rw [if_neg a']
    exact congrArg some e

theorem ObjM.look {h : Heap} {x dx C : Addr} {mA : Str → Option Value} (I : ObjM h x dx C mA) : ∃ od, PySem.W.InstAt h x (PySem.W.instObj C dx) C (some od) ∧ ∀ name, PySem.W.lookIn name od = some (mA name) :=
  let ⟨od, ho, hl⟩ := lookIn_ns I.ns
  ⟨od, ⟨I.obj, rfl, rfl, ho⟩, hl⟩

section
variable {prog : Program} {w : World} {A : Around} {E : Value → Shared → Prop} {s : Shared} {K : PySem.W.Frag} {x dx C f : Addr} {mA : Str → Option Value} {name : Str} {v : Value}

theorem get_map {expr : Bool} {Q : Value → Shared → Prop} (X : K.In s.heap) (I : ObjM s.heap x dx C mA) (hg : PySem.W.plainGet K C name = true) (hh : PySem.W.hasDictIn K C = true)
    (ha : PySem.W.findIn K (.ref C) name = some none) (hv : mA name = some v) (hv' : PySem.W.handedIn v = true) (h : Q v { s with toks := s.toks + 1 }) :
    wpAny (model prog w) A (getAttr (.ref x) name expr) Q E s := by
  obtain ⟨od, J, hl⟩ := I.look
  exact PySem.W.get_value X J (PySem.W.plainGet_of hg).1 (PySem.W.findObj_own hh ha rfl (by rw [hl, hv])) hv' h

theorem get_const {expr : Bool} {a : Value} {Q : Value → Shared → Prop} (X : K.In s.heap) (I : ObjM s.heap x dx C mA) (hg : PySem.W.plainGet K C name = true) (hh : PySem.W.hasDictIn K C = true)
    (ha : PySem.W.findIn K (.ref C) name = some (some a)) (hn : PySem.W.specialIn K a "__get__" = some none) (hc : PySem.W.copiedNames.contains name = false) (hv : mA name = none) (hv' : PySem.W.handedIn a = true)
    (h : Q a { s with toks := s.toks + 1 }) : wpAny (model prog w) A (getAttr (.ref x) name expr) Q E s := by
  obtain ⟨od, J, hl⟩ := I.look
  exact PySem.W.get_value X J (PySem.W.plainGet_of hg).1 (PySem.W.findObj_cls hh ha hn hv' hc (by rw [hl, hv])) hv' h

theorem get_meth {pl : Sem Bool} {Q : Value × List Value → Shared → Prop} (X : K.In s.heap) (I : ObjM s.heap x dx C mA) (hg : PySem.W.plainGet K C name = true)
    (hf : PySem.W.findIn K (.ref C) name = some (some (.ref f))) (ht : PySem.W.isFn K (.ref f) = true) (hv : mA name = none) (h : Q (.ref f, [.ref x]) s) :
    wpAny (model prog w) A (getMethod (.ref x) name pl) Q E s := by
  obtain ⟨od, J, hl⟩ := I.look
  exact PySem.W.method_fn X J (PySem.W.plainGet_of hg).1 (PySem.W.plainGet_of hg).2 hf (beq_iff_eq.mp ht) (by show (PySem.W.lookIn name od).map (·.isSome) = some false; rw [hl, hv]; rfl) h

theorem set_map {ns : List Str} {Q : Unit → Shared → Prop} (X : K.In s.heap) (I : ObjM s.heap x dx C mA)
    (hs : PySem.W.findIn K (.ref C) "__setattr__" = some (some (.builtin "object.__setattr__"))) (hp : PySem.W.plainOver K C = true) (ht : PySem.W.takerIn K C name = some none) (hh : PySem.W.hasDictIn K C = true)
    (hw : PySem.Within mA ns) (hsz : ns.length ≤ sizeLine)
    (h : ∀ h', ObjM h' x dx C (fun y => if y = name then some v else mA y) → Heap.SameBut dx s.heap h' → Q () { s with heap := h', toks := s.toks + 2 }) :
    wpAny (model prog w) A (setAttr (.ref x) name v) Q E s := by
  obtain ⟨od, J, hl⟩ := I.look
  refine PySem.W.set_plain X J hs (PySem.W.osa_open (s := { s with toks := s.toks + 1 }) (r := none) X J hp ht fun b => ?_)
  obtain ⟨cd, hc, hd'⟩ := PySem.W.any_some hh
  have hx : s.heap.get? x = some ⟨.ref C, some dx, .plain, #[]⟩ := I.obj
  refine wpAny_bind (wpAny_pure (wpAny_bind (wpAny_bind (wpAny_loadPart hx (wpAny_bind (PySem.W.Looks.here (s := { s with toks := s.toks + 1 }) (PySem.W.looks_clsIn X hc) ?_))))))
  rw [hd']
  refine wpAny_pure (a := some dx) (wpAny_bind (wpAny_pure (wpAny_bind ?_)))
  refine wpAny_nsSet1 (s := { s with toks := s.toks + 1 }) I.ns fun h' hn2 hs2 => ?_
  obtain ⟨oD, esD, epD, hoD, hdD, hcD⟩ := hn2.count (PySem.Within.cons name v hw)
  refine wpAny_bind (wpAny_lookBehind hoD (by rw [hdD]; exact pastItsLine_dict (Nat.le_trans hcD (by rw [List.length_cons]; omega))) ?_)
  exact wpAny_pure (h _ ⟨(hs2.2 _ (Ne.symm I.ne)).trans I.obj, hn2, I.ne⟩ hs2)

/-- C(..): the dict at the heap's end, the instance behind it; then its __init__ -/
theorem make_map {R : Result → Shared → Prop} {vs : List Value} {kw : List (Str × Value)} (X : K.In s.heap) (hm : PySem.W.makesIn K C = true)
    (hi : PySem.W.findIn K (.ref C) "__init__" = some (some (.ref f))) (hf : PySem.W.typeIn K (.ref f) = some (.type "function"))
    (h : codeAny (model prog w) (A.under (.builtin "type.__call__" ⟨.ref C :: vs, kw⟩)) (.call (.ref f) ⟨.ref (s.heap.objs.size + 1) :: vs, kw⟩) (PySem.W.InitBack (s.heap.objs.size + 1) R)
      { s with heap := (s.heap.push PySem.W.emptyDict).push (PySem.W.instObj C s.heap.objs.size) }) :
    codeAny (model prog w) A (.call (.ref C) ⟨vs, kw⟩) R s := by
  obtain ⟨hh, g, d, t, os⟩ := s
  exact PySem.W.make_core (PySem.W.makes_of X hm) (PySem.W.looks_findIn X hi) (fun self => PySem.W.bind_fn X self hf) (.inl rfl) h
/-- C() where there is no __init__ but object's -/
theorem make_map0 {R : Result → Shared → Prop} (X : K.In s.heap) (hm : PySem.W.makesIn K C = true)
    (hi : PySem.W.findIn K (.ref C) "__init__" = some (some (.builtin "object.__init__")))
    (hb : ∀ self, PySem.W.Looks (model prog w) s.heap (bindSpecial (.builtin "object.__init__") self) (.builtin "object.__init__", [self]))
    (h : codeAny (model prog w) (A.under (.builtin "type.__call__" ⟨[.ref C], []⟩)) (.call (.builtin "object.__init__") ⟨[.ref (s.heap.objs.size + 1)], []⟩) (PySem.W.InitBack (s.heap.objs.size + 1) R)
      { s with heap := (s.heap.push PySem.W.emptyDict).push (PySem.W.instObj C s.heap.objs.size) }) :
    codeAny (model prog w) A (.call (.ref C) ⟨[], []⟩) R s := by
  obtain ⟨hh, g, d, t, os⟩ := s
  exact PySem.W.make_core (PySem.W.makes_of X hm) (PySem.W.looks_findIn X hi) hb (.inr ⟨rfl, rfl⟩) h
end

/-! ### the attributes as a list of pairs -/
def putF (f : Str) (v : V) : List (Str × V) → List (Str × V)
  | [] => [(f, v)]
  | (g, x) :: r => if g = f then (g, v) :: r else (g, x) :: putF f v r
theorem lookup_putF (f g : Str) (v : V) : ∀ fs : List (Str × V), (putF f v fs).lookup g = if g = f then some v else fs.lookup g
  | [] => by
    show List.lookup g [(f, v)] = _
    by_cases h : g = f
    · have hb : (g == f) = true := beq_iff_eq.mpr h
      simp only [List.lookup, hb, if_pos h]
    · have hb : (g == f) = false := beq_eq_false_iff_ne.mpr h
      simp only [List.lookup, hb, if_neg h]
  | (k, x) :: r => by
    have ih := lookup_putF f g v r
    rw [show putF f v ((k, x) :: r) = (if k = f then (k, v) :: r else (k, x) :: putF f v r) from rfl]
    by_cases hk : k = f
    · rw [if_pos hk]
      by_cases h : g = k
      · have hb : (g == k) = true := beq_iff_eq.mpr h
        simp only [List.lookup, hb, if_pos (h.trans hk)]
      · have hb : (g == k) = false := beq_eq_false_iff_ne.mpr h
        simp only [List.lookup, hb, if_neg (fun e : g = f => h (e.trans hk.symm))]
    · rw [if_neg hk]
      by_cases h : g = k
      · have hb : (g == k) = true := beq_iff_eq.mpr h
        simp only [List.lookup, hb, if_neg (fun e : g = f => hk (h.symm.trans e))]
      · have hb : (g == k) = false := beq_eq_false_iff_ne.mpr h
        simp only [List.lookup, hb]
        exact ih
theorem keys_putF (f : Str) (v : V) : ∀ fs : List (Str × V), f ∈ (putF f v fs).map (·.1) ∧ ∀ g, g ∈ fs.map (·.1) → g ∈ (putF f v fs).map (·.1)
  | [] => ⟨by simp [putF], fun g h => by simp at h⟩
  | (k, x) :: r => by
    obtain ⟨i1, i2⟩ := keys_putF f v r
    rw [show putF f v ((k, x) :: r) = (if k = f then (k, v) :: r else (k, x) :: putF f v r) from rfl]
    by_cases hk : k = f
    · rw [if_pos hk]
      subst hk
      exact ⟨by simp, fun g h => by simpa using h⟩
    · rw [if_neg hk]
      refine ⟨?_, fun g h => ?_⟩
      · rw [List.map_cons]
        exact List.mem_cons_of_mem _ i1
      · rw [List.map_cons] at h ⊢
        rcases List.mem_cons.mp h with e | e
        · exact List.mem_cons.mpr (.inl e)
        · exact List.mem_cons_of_mem _ (i2 g e)
theorem length_putF (f : Str) (v : V) : ∀ fs : List (Str × V), (putF f v fs).length ≤ fs.length + 1
  | [] => by simp [putF]
  | (k, x) :: r => by
    have ih := length_putF f v r
    rw [show putF f v ((k, x) :: r) = (if k = f then (k, v) :: r else (k, x) :: putF f v r) from rfl]
    by_cases hk : k = f
    · rw [if_pos hk, List.length_cons, List.length_cons]; omega
    · rw [if_neg hk, List.length_cons, List.length_cons]; omega

theorem RelO.some_of {v : V} {o : Option Value} (r : RelO (some v) o) : ∃ u, o = some u ∧ RelV v u := by
  cases o with
  | none => exact (show False from r).elim
  | some u => exact ⟨u, rfl, r⟩
theorem RelO.none_of {o : Option Value} (r : RelO none o) : o = none := by
  cases o with
  | none => rfl
  | some u => exact (show False from r).elim
theorem handed_of {v : V} {u : Value} (r : RelV v u) : PySem.W.handedIn u = true := by
  cases v with
  | non => cases (show u = Value.none from r); rfl
  | bl b => cases (show u = Value.bool b from r); rfl
  | int i => obtain ⟨t, e⟩ := (show ∃ t, u = Value.int i t from r); cases e; rfl
  | str x => obtain ⟨t, e⟩ := (show ∃ t, u = Value.str x t from r); cases e; rfl
  | byt b => obtain ⟨t, e⟩ := (show ∃ t, u = Value.bytes b t from r); cases e; rfl
  | flt b => obtain ⟨t, e⟩ := (show ∃ t, u = Value.float b t from r); cases e; rfl
  | ref a => cases (show u = Value.ref a from r); rfl
  | ty n => cases (show u = Value.type n from r); rfl

section
variable {P : Program} {w : World} {H H' : Hp} {h h' : Heap} {a C dx : Addr} {fs fs' : List (Str × V)}
theorem ins_get (hok : HOk P w H h) (e : H a = some (.ins C dx fs)) : ∃ mA, ObjM h a dx C mA ∧ (∀ f, RelO (fs.lookup f) (mA f)) ∧ PySem.Within mA (fs.map (·.1)) ∧ fs.length ≤ 1000 ∧ H dx = some (.own a) := by
  obtain ⟨d, z, ne, ob, mA, n, r, q⟩ := (show ObjOk P w H h a (.ins C dx fs) from hok a _ e)
  exact ⟨mA, ⟨ob, n, ne⟩, r, q, z, d⟩
end

/-! ### what of the text a class must have -/
structure Cls (K : PySem.W.Frag) (C : Addr) : Prop where
  pg : PySem.W.plainGet K C Str.empty = true
  hd : PySem.W.hasDictIn K C = true
  po : PySem.W.plainOver K C = true
  sa : PySem.W.findIn K (.ref C) "__setattr__" = some (some (.builtin "object.__setattr__"))
theorem Cls.get {K : PySem.W.Frag} {C : Addr} (c : Cls K C) (f : Str) : PySem.W.plainGet K C f = true := c.pg
/-- no class of it has the name -/
def NoAttr (K : PySem.W.Frag) (C : Addr) (f : Str) : Prop := PySem.W.findIn K (.ref C) f = some none
theorem NoAttr.taker {K : PySem.W.Frag} {C : Addr} {f : Str} (n : NoAttr K C f) : PySem.W.takerIn K C f = some none := by
  unfold PySem.W.takerIn
  rw [show PySem.W.findIn K (.ref C) f = some none from n]
  rfl
/-- a constant of the class -/
structure Con (K : PySem.W.Frag) (C : Addr) (f : Str) (v : V) (u : Value) : Prop where
  at_ : PySem.W.findIn K (.ref C) f = some (some u)
  rel : RelV v u
  get : PySem.W.specialIn K u "__get__" = some none
  cp : PySem.W.copiedNames.contains f = false
/-- a method: a plain def of the class or of one above it -/
structure Meth (K : PySem.W.Frag) (C : Addr) (m : Str) (f : Addr) : Prop where
  at_ : PySem.W.findIn K (.ref C) m = some (some (.ref f))
  fn : PySem.W.isFn K (.ref f) = true
  kp : PySem.W.keepIn K (.ref f) = true

section
variable {X : Cx} {pins : List (Addr × Obj)} {σ : St} {H : Hp} {s : Shared} {a C dx : Addr} {fs : List (Str × V)} {f : Str} {v : V} {A : Around} {E : Value → Shared → Prop}

theorem getattr_ok {b : Bool} {Q : Value → Shared → Prop} (I : Inv X pins σ H s) (e : H a = some (.ins C dx fs)) (c : Cls X.K C) (n : NoAttr X.K C f) (l : fs.lookup f = some v)
    (h : ∀ u s', Inv X pins σ H s' → RelV v u → Q u s') : wpAny (model X.prog X.w) A (getAttr (.ref a) f b) Q E s := by
  obtain ⟨mA, O, r, _, _, _⟩ := ins_get I.hok e
  obtain ⟨u, hu, ru⟩ := RelO.some_of (v := v) (o := mA f) (by rw [← l]; exact r f)
  exact get_map I.kIn O (c.get f) c.hd n hu (handed_of ru) (h u _ (I.tok _) ru)

theorem getcon_ok {b : Bool} {u : Value} {Q : Value → Shared → Prop} (I : Inv X pins σ H s) (e : H a = some (.ins C dx fs)) (c : Cls X.K C) (k : Con X.K C f v u) (l : fs.lookup f = none)
    (h : ∀ s', Inv X pins σ H s' → Q u s') : wpAny (model X.prog X.w) A (getAttr (.ref a) f b) Q E s := by
  obtain ⟨mA, O, r, _, _, _⟩ := ins_get I.hok e
  have hn : mA f = none := RelO.none_of (by rw [← l]; exact r f)
  exact get_const I.kIn O (c.get f) c.hd k.at_ k.get k.cp hn (handed_of k.rel) (h _ (I.tok _))

theorem getmeth_ok {m : Str} {g : Addr} {pl : Sem Bool} {Q : Value × List Value → Shared → Prop} (I : Inv X pins σ H s) (e : H a = some (.ins C dx fs)) (c : Cls X.K C) (k : Meth X.K C m g) (l : fs.lookup m = none)
    (h : Q (.ref g, [.ref a]) s) : wpAny (model X.prog X.w) A (getMethod (.ref a) m pl) Q E s := by
  obtain ⟨mA, O, r, _, _, _⟩ := ins_get I.hok e
  have hn : mA m = none := RelO.none_of (by rw [← l]; exact r m)
  exact get_meth I.kIn O (c.get m) k.at_ k.fn hn h

theorem setattr_ok {y : V} {u : Value} {Q : Unit → Shared → Prop} (I : Inv X pins σ H s) (e : H a = some (.ins C dx fs)) (c : Cls X.K C) (n : NoAttr X.K C f) (hl : fs.length < 1000) (ry : RelV y u)
    (h : ∀ s', Inv X pins σ (upd H a (.ins C dx (putF f y fs))) s' → Q () s') : wpAny (model X.prog X.w) A (setAttr (.ref a) f u) Q E s := by
  obtain ⟨mA, O, r, wi, _, ho⟩ := ins_get I.hok e
  have hz : (fs.map (·.1)).length ≤ sizeLine := by rw [List.length_map, sizeLine_eq]; omega
  refine set_map I.kIn O c.sa c.po n.taker c.hd wi hz fun h' O' sb => h _ ?_
  have hd : ∃ o, h'.get? dx = some o := let ⟨o, _, _, e', _⟩ := O'.ns; ⟨o, e'⟩
  refine I.write (x := a) (e := dx) (by rw [e]; exact True.intro) (.inr ho) (fun b q hb z => (sb.2 b hb).trans z) hd ?_
  refine ⟨by rw [upd_ne O.ne]; exact ho, ?_, O.ne, O'.obj, _, O'.ns, fun g => ?_, fun g hg => ?_⟩
  · have := length_putF f y fs; omega
  · show RelO ((putF f y fs).lookup g) (if g = f then some u else mA g)
    rw [lookup_putF]
    by_cases q : g = f
    · rw [if_pos q, if_pos q]; exact ry
    · rw [if_neg q, if_neg q]; exact r g
  · by_cases q : g = f
    · rw [q]; exact (keys_putF f y fs).1
    · refine (keys_putF f y fs).2 g (wi g fun z => hg ?_)
      show (if g = f then some u else mA g) = none
      rw [if_neg q]; exact z

/-- a new instance, tracked, without attributes -/
theorem Inv.made (I : Inv X pins σ H s) : Inv X pins σ (upd (upd H s.heap.objs.size (.own (s.heap.objs.size + 1))) (s.heap.objs.size + 1) (.ins C s.heap.objs.size []))
    { s with heap := (s.heap.push PySem.W.emptyDict).push (PySem.W.instObj C s.heap.objs.size) } := by
  have e1 : (s.heap.push PySem.W.emptyDict).get? s.heap.objs.size = some PySem.W.emptyDict := Heap.get?_push_size s.heap rfl
  have e2 : ((s.heap.push PySem.W.emptyDict).push (PySem.W.instObj C s.heap.objs.size)).get? (s.heap.objs.size + 1) = some (PySem.W.instObj C s.heap.objs.size) := by
    have := Heap.get?_push_size (s.heap.push PySem.W.emptyDict) (o := PySem.W.instObj C s.heap.objs.size) rfl
    rwa [Heap.size_push] at this
  have e3 : (s.heap.push PySem.W.emptyDict).Ns s.heap.objs.size (fun _ => none) := ⟨PySem.W.emptyDict, #[], _, e1, rfl, (fun e he => absurd he (by simp)), fun _ => rfl⟩
  have I1 := I.laid (a := s.heap.objs.size) (o := .own (s.heap.objs.size + 1)) (h' := s.heap.push PySem.W.emptyDict) (t' := s.toks) (fun b u q => Heap.get?_push_of_some _ q) (Nat.le_refl _) ⟨_, e1⟩
  refine I1.laid (a := s.heap.objs.size + 1) (o := .ins C s.heap.objs.size []) (t' := s.toks) (fun b u q => Heap.get?_push_of_some _ q) (Nat.le_of_eq (Heap.size_push _ _)) ?_
  have ne : s.heap.objs.size ≠ s.heap.objs.size + 1 := Nat.ne_of_lt (Nat.lt_succ_self _)
  refine ⟨by rw [upd_ne ne, upd_same], Nat.zero_le _, ne, e2, fun _ => none, (Heap.Ns1.of_empty e3).at fun o q => Heap.get?_push_of_some _ q, fun _ => True.intro, fun y hy => absurd rfl hy⟩

/-- e.f where nothing but the object is asked: through attributeBase (super) and the last hold -/
theorem attr_of {prog : Program} {w : World} {env : Env} {e : Expr} {f : Str} {pos : Pos} {s : Shared} {Q : Value → Shared → Prop} (hb : attributeBase e f env (eval e env) = eval e env)
    (h : wpAny (model prog w) A (eval e env) (fun o s₁ => wpAny (model prog w) A (getAttr o f true) Q E s₁) E s) : wpAny (model prog w) A (eval (.Attribute e f pos) env) Q E s :=
  Attribute_any_ h (by rw [arm_eval_Attribute, hb])
end

/-! ### readings and rules -/
/-- e.f, an attribute of the instance -/
def tFld (K : PySem.W.Frag) (ta : TE) (f : Str) : TE := fun σ H Q => ta σ H fun x H1 => ∃ a C dx fs v, x = .ref a ∧ H1 a = some (.ins C dx fs) ∧ Cls K C ∧ NoAttr K C f ∧ fs.lookup f = some v ∧ Q v H1
/-- e.f, a constant of the class -/
def tCon (K : PySem.W.Frag) (ta : TE) (f : Str) : TE := fun σ H Q => ta σ H fun x H1 => ∃ a C dx fs v u, x = .ref a ∧ H1 a = some (.ins C dx fs) ∧ Cls K C ∧ Con K C f v u ∧ fs.lookup f = none ∧ Q v H1
/-- e.f = value -/
def sFld (K : PySem.W.Frag) (ta tv : TE) (f : Str) : TS := fun D σ H => tv σ H fun y H1 => ta σ H1 fun x H2 => ∃ a C dx fs, x = .ref a ∧ H2 a = some (.ins C dx fs) ∧ Cls K C ∧ NoAttr K C f ∧ fs.length < 1000 ∧
  D.nx σ (upd H2 a (.ins C dx (putF f y fs)))
/-- an augmented operator on two values -/
def InOp (X : Cx) (op : Operator) (rd : V → V → Hp → VK → Prop) : Prop :=
  ∀ (pins : List (Addr × Obj)) (s : Shared) (σ : St) (H : Hp) (x y : V) (u v : Value) (Q : VK), Inv X pins σ H s → RelV x u → RelV y v → rd x y H Q → wpAny (model X.prog X.w) X.A (inplaceOp op u v) (EP X pins σ Q) X.xe s
/-- e.f op= value -/
def sFldAug (K : PySem.W.Frag) (ta tv : TE) (rd : V → V → Hp → VK → Prop) (f : Str) : TS := fun D σ H => ta σ H fun x H1 => ∃ a C dx fs v, x = .ref a ∧ H1 a = some (.ins C dx fs) ∧ Cls K C ∧ NoAttr K C f ∧ fs.lookup f = some v ∧
  tv σ H1 fun y H2 => rd v y H2 fun z H3 => ∃ dx' fs', H3 a = some (.ins C dx' fs') ∧ fs'.length < 1000 ∧ D.nx σ (upd H3 a (.ins C dx' (putF f z fs')))

section
variable {X : Cx} {o e value : Expr} {f : Str} {pos pos' tpos : Pos} {ta tv : TE}
theorem pe_fld (he : PE X e ta) (hb : attributeBase e f X.env (eval e X.env) = eval e X.env) : PE X (.Attribute e f pos) (tFld X.K ta f) := by
  intro pins s σ H Q I h
  refine attr_of hb (thn (he pins s σ H _ I h) fun u s1 ⟨x, H1, I1, rx, a, C, dx, fs, v, ex, ea, c, n, l, q⟩ => ?_)
  subst ex
  obtain rfl : u = Value.ref a := rx
  exact getattr_ok I1 ea c n l fun u' s2 I2 ru => ⟨v, H1, I2, ru, q⟩
theorem pe_con (he : PE X e ta) (hb : attributeBase e f X.env (eval e X.env) = eval e X.env) : PE X (.Attribute e f pos) (tCon X.K ta f) := by
  intro pins s σ H Q I h
  refine attr_of hb (thn (he pins s σ H _ I h) fun u s1 ⟨x, H1, I1, rx, a, C, dx, fs, v, u0, ex, ea, c, k, l, q⟩ => ?_)
  subst ex
  obtain rfl : u = Value.ref a := rx
  exact getcon_ok I1 ea c k l fun s2 I2 => ⟨v, H1, I2, k.rel, q⟩
theorem ps_fld (ha : PE X o ta) (hv : PE X value tv) (hs : swapsWith value (some (.Attribute o f pos')) pos.line X.env = pure false) : PS X (.Assign [.Attribute o f pos'] value pos) (sFld X.K ta tv f) := by
  intro pins s σ H D I h
  refine plainObj_wpAny_Assign_Attribute (thn (hv pins s σ H _ I h) fun u s1 ⟨y, H1, I1, ry, q⟩ => thn (ha pins s1 σ H1 _ I1 q) fun ov s2 ⟨x, H2, I2, rx, a, C, dx, fs, ex, ea, c, n, l, q2⟩ => ?_) hs
  subst ex
  obtain rfl : ov = Value.ref a := rx
  exact setattr_ok I2 ea c n l ry fun s3 I3 => ⟨σ, _, I3, q2⟩
theorem ps_fldaug {op : Operator} {rd : V → V → Hp → VK → Prop} (ha : PE X o ta) (hv : PE X value tv) (hop : InOp X op rd) : PS X (.AugAssign (.Attribute o f tpos) op value pos) (sFldAug X.K ta tv rd f) := by
  intro pins s σ H D I h
  refine wpAny_AugAssign_AttributeAny (thn (ha pins s σ H _ I h) fun ov s1 ⟨x, H1, I1, rx, a, C, dx, fs, v, ex, ea, c, n, l, q⟩ => ?_)
  subst ex
  obtain rfl : ov = Value.ref a := rx
  refine getattr_ok I1 ea c n l fun u s2 I2 ru => thn (hv pins s2 σ H1 _ I2 q) fun w3 s3 ⟨y, H2, I3, ry, q3⟩ => thn (hop pins s3 σ H2 v y u w3 _ I3 ru ry q3) fun w4 s4 ⟨z, H3, I4, rz, dx', fs', ea', l', q4⟩ => ?_
  exact setattr_ok I4 ea' c n l' rz fun s5 I5 => ⟨σ, _, I5, q4⟩
def rAdd : V → V → Hp → VK → Prop := fun x y H Q => ∃ i j, x = .int i ∧ y = .int j ∧ Q (.int (i + j)) H
def rSub : V → V → Hp → VK → Prop := fun x y H Q => ∃ i j, x = .int i ∧ y = .int j ∧ Q (.int (i - j)) H
theorem in_add : InOp X .Add rAdd := by
  rintro pins s σ H x y u v Q I rx ry ⟨i, j, rfl, rfl, q⟩
  obtain ⟨t, rfl⟩ := (show ∃ t, u = Value.int i t from rx)
  obtain ⟨t', rfl⟩ := (show ∃ t', v = Value.int j t' from ry)
  exact PyProof.Rows.iadd_int ⟨.int (i + j), H, I.tok _, ⟨_, rfl⟩, q⟩
theorem in_sub : InOp X .Sub rSub := by
  rintro pins s σ H x y u v Q I rx ry ⟨i, j, rfl, rfl, q⟩
  obtain ⟨t, rfl⟩ := (show ∃ t, u = Value.int i t from rx)
  obtain ⟨t', rfl⟩ := (show ∃ t', v = Value.int j t' from ry)
  exact PyProof.Rows.isub_int ⟨.int (i - j), H, I.tok _, ⟨_, rfl⟩, q⟩

/-- what is between an instance and its method: the tree of a method call -/
theorem methcall_of {pl : Sem Bool} {m : Str} {apos : Pos} {args : List Expr} {pins : List (Addr × Obj)} {s : Shared} {σ : St} {H : Hp} {Q : Value → Shared → Prop} {te : TE} (he : PE X e te) (I : Inv X pins σ H s)
    (h : te σ H fun x H1 => ∃ a C dx fs g, x = .ref a ∧ H1 a = some (.ins C dx fs) ∧ Cls X.K C ∧ Meth X.K C m g ∧ fs.lookup m = none ∧
      ∀ s1, Inv X pins σ H1 s1 → wpAny (model X.prog X.w) X.A (callWith pos (.ref g) [.ref a] (backTo pos (starEach args X.env)) (backToKw pos (keywordEach [] X.env))) Q X.xe s1)
    (ht : eval (.Call (.Attribute e m apos) args [] pos) X.env = (do
      let ov ← eval e X.env
      standAt apos.atName
      let (f, first) ← holding [ov] (getMethod ov m pl)
      callWith pos f first (backTo pos (starEach args X.env)) (backToKw pos (keywordEach [] X.env)))) :
    wpAny (model X.prog X.w) X.A (eval (.Call (.Attribute e m apos) args [] pos) X.env) Q X.xe s := by
  refine PySem.W.methodCall_KW (pl := pl) (thn (he pins s σ H _ I h) fun u s1 ⟨x, H1, I1, rx, a, C, dx, fs, g, ex, ea, c, k, l, q⟩ => ?_) ht
  subst ex
  obtain rfl : u = Value.ref a := rx
  exact getmeth_ok I1 ea c k l (q s1 I1)
end

/-! ### isinstance -/
section
variable {X : Cx} {pins : List (Addr × Obj)} {σ : St} {H : Hp} {s : Shared} {A : Around} {E : Value → Shared → Prop} {Q : Value → Shared → Prop} {c : Value} {b : Bool}
/-- the type of a value, as the fragment's deciders take it; for an instance its class -/
inductive TyOf (K : PySem.W.Frag) (H : Hp) : V → Value → Prop where
  | non : TyOf K H .non (.type "NoneType")
  | bl (x : Bool) : TyOf K H (.bl x) (.type "bool")
  | int (i : Int) : TyOf K H (.int i) (.type "int")
  | str (x : Str) : TyOf K H (.str x) (.type "str")
  | flt (x : UInt64) : TyOf K H (.flt x) (.type "float")
  | lst {a : Addr} {xs : List V} (e : H a = some (.lst xs)) : TyOf K H (.ref a) (.type "list")
  | frz {a : Addr} {o : Obj} {xs : List V} (e : H a = some (.frz o (.lst xs))) : TyOf K H (.ref a) (.type "list")
  | tup {a : Addr} {xs : List V} (e : H a = some (.tup xs)) : TyOf K H (.ref a) (.type "tuple")
  | dK {a : Addr} {kvs : List (Key × V)} (e : H a = some (.dK kvs)) : TyOf K H (.ref a) (.type "dict")
  | dT {a : Addr} {kvs : List (List Key × V)} (e : H a = some (.dT kvs)) : TyOf K H (.ref a) (.type "dict")
  | ins {a C dx : Addr} {fs : List (Str × V)} (e : H a = some (.ins C dx fs)) (cl : Cls K C) (ha : PySem.W.findIn K (.ref C) "__class__" = some (some (.builtin "object.__class__")))
      (hn : PySem.W.specialIn K (.builtin "object.__class__") "__get__" = some (some (.builtin "getset_descriptor.__get__"))) (htk : PySem.W.takesIn K (.builtin "object.__class__") = some true)
      (hm : PySem.W.mroIn K C (.type "object") = some true) : TyOf K H (.ref a) (.ref C)
/-- isinstance(x, c) for one class c, a built-in or an own one: kitOne's answer -/
theorem isinst_ok {x : V} {u t : Value} (I : Inv X pins σ H s) (rx : RelV x u) (ty : TyOf X.K H x t) (e : PySem.W.kitOne X.K t c = some b) (h : ∀ tk, Q (.bool b) { s with toks := tk }) :
    wpAny (model X.prog X.w) A (call (.builtin "isinstance") [u, c]) Q E s := by
  cases ty with
  | non => cases (show u = Value.none from rx); exact PySem.W.kia_one PySem.W.kitx_none I.kIn True.intro e (fun z => nomatch z) h
  | bl y => cases (show u = Value.bool y from rx); exact PySem.W.kia_one PySem.W.kitx_bool I.kIn True.intro e (fun z => nomatch z) h
  | int i => obtain ⟨t, q⟩ := (show ∃ t, u = Value.int i t from rx); cases q; exact PySem.W.kia_one PySem.W.kitx_int I.kIn True.intro e (fun z => nomatch z) h
  | str y => obtain ⟨t, q⟩ := (show ∃ t, u = Value.str y t from rx); cases q; exact PySem.W.kia_one PySem.W.kitx_str I.kIn True.intro e (fun z => nomatch z) h
  | flt y => obtain ⟨t, q⟩ := (show ∃ t, u = Value.float y t from rx); cases q; exact PySem.W.kia_one PySem.W.kitx_float I.kIn True.intro e (fun z => nomatch z) h
  | @lst a xs ea =>
    cases (show u = Value.ref a from rx)
    obtain ⟨_, _, n, _, h1⟩ := (show ObjOk X.prog X.w H s.heap a (.lst xs) from I.hok a _ ea)
    exact PySem.W.kia_one PySem.W.kitx_list I.kIn ⟨_, h1, rfl⟩ e (fun z => nomatch z) h
  | @frz a ob xs ea =>
    cases (show u = Value.ref a from rx)
    obtain ⟨_, _, _, n, _, h1⟩ := (show ObjOk X.prog X.w H s.heap a (.frz ob (.lst xs)) from I.hok a _ ea)
    exact PySem.W.kia_one PySem.W.kitx_list I.kIn ⟨_, h1, rfl⟩ e (fun z => nomatch z) h
  | @tup a xs ea =>
    cases (show u = Value.ref a from rx)
    obtain ⟨_, _, _, p⟩ := (show ObjOk X.prog X.w H s.heap a (.tup xs) from I.hok a _ ea)
    obtain ⟨o, h1, h2, _⟩ := p
    exact PySem.W.kia_one PySem.W.kitx_tuple I.kIn ⟨o, h1, h2⟩ e (fun z => nomatch z) h
  | @dK a kvs ea =>
    cases (show u = Value.ref a from rx)
    obtain ⟨_, _, vs, _, p⟩ := (show ObjOk X.prog X.w H s.heap a (.dK kvs) from I.hok a _ ea)
    obtain ⟨o, es, ep, h1, h2, _⟩ := p
    exact PySem.W.kia_one PySem.W.kitx_dict I.kIn ⟨o, h1, h2.1⟩ e (fun z => nomatch z) h
  | @dT a kvs ea =>
    cases (show u = Value.ref a from rx)
    obtain ⟨_, _, xs, _, o, es, ep, h1, h2, _⟩ := (show ObjOk X.prog X.w H s.heap a (.dT kvs) from I.hok a _ ea)
    exact PySem.W.kia_one PySem.W.kitx_dict I.kIn ⟨o, h1, h2.1⟩ e (fun z => nomatch z) h
  | @ins a C dx fs ea cl ha hn htk hm =>
    cases (show u = Value.ref a from rx)
    obtain ⟨mA, O, _⟩ := ins_get I.hok ea
    obtain ⟨od, J, _⟩ := O.look
    exact PySem.W.kia_one (PySem.W.kitx_own (cl.get _) cl.hd ha hn htk hm) I.kIn J e (fun z => nomatch z) h
end
end L2

namespace L2
open PySem PySem.Spec PyProof.Rows

/-! ### room -/
structure Room (k : Nat) (A : Around) : Prop where
  hd : A.handled = none
  dp : A.depth + 3 * k + 5 < recursionLimit
  un : A.units + 16 * k + 200 < cLine
theorem Room.mono {j k : Nat} {A : Around} (r : Room k A) (h : j ≤ k) : Room j A := ⟨r.hd, by have := r.dp; omega, by have := r.un; omega⟩
theorem Room.deeper {k : Nat} {A : Around} (r : Room (k + 1) A) (env : Env) : Room k (A.deeper env) :=
  ⟨r.hd, by have := r.dp; show A.depth + 1 + 3 * k + 5 < _; omega, by have := r.un; show A.units + 3 + 16 * k + 200 < _; omega⟩
theorem Room.in1 {k : Nat} {A : Around} (r : Room (k + 1) A) : Room k A.in1 :=
  ⟨r.hd, by have := r.dp; show A.depth + 3 * k + 5 < _; omega, by have := r.un; show A.units + 1 + 16 * k + 200 < _; omega⟩
theorem make_depth {A : Around} {C : Addr} {us : List Value} {kw : List (Str × Value)} : (A.under (.builtin "type.__call__" ⟨.ref C :: us, kw⟩)).depth = A.depth + 1 := by
  first | rfl | simp [Around.under, Code.weight, Code.isCreation, Code.isGuard, Code.isCaller, Code.frames, Code.isFrame, guardIds]
theorem make_units {A : Around} {C : Addr} {us : List Value} {kw : List (Str × Value)} : (A.under (.builtin "type.__call__" ⟨.ref C :: us, kw⟩)).units = A.units + 1 := by
  first | rfl | simp [Around.under, Code.cUnits, Code.frames, Code.isFrame]
theorem Room.make {k : Nat} {A : Around} (r : Room (k + 1) A) (C : Addr) (us : List Value) (kw : List (Str × Value)) : Room k (A.under (.builtin "type.__call__" ⟨.ref C :: us, kw⟩)) :=
  ⟨r.hd, by have := r.dp; rw [make_depth]; omega, by have := r.un; rw [make_units]; omega⟩
theorem Room.depth {k : Nat} {A : Around} (r : Room k A) : A.depth < recursionLimit := by have := r.dp; omega
theorem Room.units {k : Nat} {A : Around} (r : Room k A) : A.units + 64 < cLine := by have := r.un; omega
theorem Room.units0 {k : Nat} {A : Around} (r : Room k A) : A.units < cLine := by have := r.un; omega

/-! ### argument lists and displays -/
def tNil : TA := fun _ H Q => Q [] H
def tCons (ta : TE) (tr : TA) : TA := fun σ H Q => ta σ H fun x H1 => tr σ H1 fun xs H2 => Q (x :: xs) H2
section
variable {X : Cx} {e : Expr} {es : List Expr} {te : TE} {t : TA} {pos : Pos}
theorem pa_nil : PA X [] tNil := fun _ _ _ _ H Q I h => Calls.spliced_nil ⟨[], H, I, .nil, h⟩
theorem pa_cons (ha : PE X e te) (hr : PA X es t) (hs : starEach (e :: es) X.env = (false, eval e X.env) :: starEach es X.env := by rfl) : PA X (e :: es) (tCons te t) := by
  intro pos pins s σ H Q I h
  rw [hs]
  show wpAny _ _ (spliced ((false, eval e X.env) :: backTo pos (starEach es X.env))) _ _ s
  refine Calls.spliced_cons (thn (ha pins s σ H _ I h) fun u s1 ⟨x, H1, I1, r1, q1⟩ => ?_)
  exact thn (hr pos pins s1 σ H1 _ I1 q1) fun us s2 ⟨xs, H2, I2, r2, q2⟩ => ⟨x :: xs, H2, I2, .cons r1 r2, q2⟩

/-- a tuple, a list of written items -/
def tTup (t : TA) : TE := fun σ H Q => t σ H fun xs H1 => xs.length ≤ sizeLine ∧ ∀ p, H1 p = none → Q (.ref p) (upd H1 p (.tup xs))
def tLst (t : TA) : TE := fun σ H Q => t σ H fun xs H1 => xs.length ≤ sizeLine ∧ ∀ p, H1 p = none → Q (.ref p) (upd H1 p (.lst xs))
theorem pe_tup {x1} (h : PA X es t) : PE X (.Tuple es x1 pos) (tTup t) := by
  intro pins s σ H Q I hq
  refine wpAny_Tuple_spliced (thn (h pos pins s σ H _ I hq) fun us s1 ⟨xs, H1, I1, r, z, q⟩ => ⟨by rw [← r.length]; exact z, ?_⟩)
  have hf : H1 s1.heap.objs.size = none := I1.hok.fresh (Nat.le_refl _)
  refine ⟨.ref s1.heap.objs.size, upd H1 s1.heap.objs.size (.tup xs), I1.laid (t' := s1.toks) (fun b u e => Heap.get?_push_of_some _ e) (Nat.le_refl _) ?_, rfl, q _ hf⟩
  exact ⟨z, us, r, ⟨_, Heap.get?_push_size _ rfl, rfl, _, rfl⟩⟩
theorem pe_lst (h : PA X es t) : PE X (.List es pos) (tLst t) := by
  intro pins s σ H Q I hq
  refine wpAny_List_spliced (thn (h pos pins s σ H _ I hq) fun us s1 ⟨xs, H1, I1, r, z, q⟩ => ⟨by rw [← r.length]; exact z, ?_⟩)
  have hf : H1 s1.heap.objs.size = none := I1.hok.fresh (Nat.le_refl _)
  refine ⟨.ref s1.heap.objs.size, upd H1 s1.heap.objs.size (.lst xs), I1.laid (t' := s1.toks) (fun b u e => Heap.get?_push_of_some _ e) (Nat.le_refl _) ?_, rfl, q _ hf⟩
  exact ⟨z, us, 0, r, Heap.get?_push_size _ rfl⟩
end

/-! ### what a def promises -/
/-- a def's promise: the bound arguments in the parameters' order, the heap, the wanted end, the wanted exception -/
abbrev Sp := List V → Hp → VK → XK → Prop
/-- how an exception lies behind a call (file 08 gives it): the callers' frames, abstract heap and state ahead of the call, the wish, the exception, the state -/
abbrev CXT := List Env → Hp → Shared → XK → Value → Shared → Prop

/-- the state at a call -/
structure Env0 (P : Program) (w : World) (K : PySem.W.Frag) (mg : Str → Option Value) (base : Heap) (A : Around) (outer : List Env) (s : Shared) (H : Hp) : Prop where
  frames : A.frames = some outer
  mod : Mod K mg base
  bs : ∀ b o, base.get? b = some o → s.heap.get? b = some o ∧ H b = none
  bsz : base.objs.size ≤ s.heap.objs.size
  funs : s.heap.FunFrames base outer
  frf : ∀ b ∈ frs outer, H b = none
  hok : HOk P w H s.heap
  bare : AllBare s.gens
/-- a call's end -/
def CE (outer : List Env) (P : Program) (w : World) (H : Hp) (s : Shared) (Q : VK) (u : Value) (s' : Shared) : Prop :=
  ∃ v H', s'.os = s.os ∧ AllBare s'.gens ∧ Un (frs outer) [] H H' s.heap s'.heap ∧ HOk P w H' s'.heap ∧ RelV v u ∧ Q v H'
def CR (CX : CXT) (outer : List Env) (P : Program) (w : World) (H : Hp) (s : Shared) (Q : VK) (E : XK) (r : Result) (s' : Shared) : Prop :=
  match r with
  | .ok (.ret u) => CE outer P w H s Q u s'
  | .ok _ => False
  | .error e => CX outer H s E e s'
structure FnOk (P : Program) (w : World) (K : PySem.W.Frag) (mg : Str → Option Value) (base : Heap) (CX : CXT) (k : Nat) (f : Addr) (fd : FuncData) (ps : List Str) (sp : Sp) : Prop where
  len : ∀ vs H Q E, sp vs H Q E → vs.length = ps.length
  run : ∀ (A : Around) (outer : List Env) (s : Shared) (H : Hp) (args : Args) (us : List Value) (vs : List V) (Q : VK) (E : XK), Room k A → Env0 P w K mg base A outer s H → BindsTo s fd args (ps.zip us) → Vals vs us → sp vs H Q E →
    codeAny (model P w) A (.call (.ref f) args) (CR CX outer P w H s Q E) s
theorem FnOk.mono {P : Program} {w : World} {K : PySem.W.Frag} {mg : Str → Option Value} {base : Heap} {CX : CXT} {j k : Nat} {f : Addr} {fd : FuncData} {ps : List Str} {sp : Sp} (F : FnOk P w K mg base CX j f fd ps sp) (h : j ≤ k) :
    FnOk P w K mg base CX k f fd ps sp := ⟨F.len, fun A outer s H args us vs Q E hr => F.run A outer s H args us vs Q E (hr.mono h)⟩
/-- a weaker promise -/
theorem FnOk.imp {P : Program} {w : World} {K : PySem.W.Frag} {mg : Str → Option Value} {base : Heap} {CX : CXT} {k : Nat} {f : Addr} {fd : FuncData} {ps : List Str} {sp sp' : Sp} (F : FnOk P w K mg base CX k f fd ps sp)
    (h : ∀ vs H Q E, sp' vs H Q E → sp vs H Q E) : FnOk P w K mg base CX k f fd ps sp' :=
  ⟨fun vs H Q E q => F.len vs H Q E (h _ _ _ _ q), fun A outer s H args us vs Q E hr he hb hv hs => F.run A outer s H args us vs Q E hr he hb hv (h _ _ _ _ hs)⟩

theorem Env0.make {P : Program} {w : World} {K : PySem.W.Frag} {mg : Str → Option Value} {base : Heap} {A : Around} {outer : List Env} {s : Shared} {H : Hp} (e : Env0 P w K mg base A outer s H) (C : Addr) (us : List Value) (kw : List (Str × Value)) :
    Env0 P w K mg base (A.under (.builtin "type.__call__" ⟨.ref C :: us, kw⟩)) outer s H := ⟨by first | exact e.frames | (simpa [Around.under, Code.envs, Code.isFrame, pushEnvs] using e.frames), e.mod, e.bs, e.bsz, e.funs, e.frf, e.hok, e.bare⟩
theorem Env0.in1 {P : Program} {w : World} {K : PySem.W.Frag} {mg : Str → Option Value} {base : Heap} {A : Around} {outer : List Env} {s : Shared} {H : Hp} (e : Env0 P w K mg base A outer s H) :
    Env0 P w K mg base A.in1 outer s H := ⟨e.frames, e.mod, e.bs, e.bsz, e.funs, e.frf, e.hok, e.bare⟩

section
variable {X : Cx} {pins : List (Addr × Obj)} {σ : St} {H : Hp} {s s' : Shared}
/-- from a body: what a callee wants -/
theorem Inv.env0 (I : Inv X pins σ H s) : Env0 X.prog X.w X.K X.mg X.base X.A X.stack s H :=
  ⟨I.ok.frames, I.ok.mod, I.bs, Nat.le_trans I.ok.bsz I.sz, I.stack, I.stkFree, I.hok, I.bare⟩
/-- behind a call -/
theorem Inv.after {Q : VK} {u : Value} (I : Inv X pins σ H s) (h : CE X.stack X.prog X.w H s Q u s') : EP X pins σ Q u s' := by
  obtain ⟨v, H', os, bare, un, hok, r, q⟩ := h
  obtain ⟨hh, g, d, t, os'⟩ := s'
  obtain rfl : os' = s.os := os
  exact ⟨v, H', I.call (h' := hh) (g' := g) (d' := d) (t' := t) (ch := []) un hok bare (fun b z => absurd z (by simp)), r, q⟩
end

/-! ### calls -/
/-- f(..): the written arguments, then the defaults dvs; E: what is wanted of an exception -/
def tCall (sp : Sp) (dvs : List V) (E : XK) (t : TA) : TE := fun σ H Q => t σ H fun vs H1 => sp (vs ++ dvs) H1 Q E
/-- o.m(..) of an instance of the class at C -/
def tMeth (C : Addr) (m : Str) (sp : Sp) (dvs : List V) (E : XK) (ta : TE) (t : TA) : TE := fun σ H Q => ta σ H fun x H1 => ∃ a dx fs, x = .ref a ∧ H1 a = some (.ins C dx fs) ∧ fs.lookup m = none ∧
  t σ H1 fun vs H2 => sp (x :: (vs ++ dvs)) H2 Q E
/-- C(..): a new instance and its dict, then __init__ -/
def tMake (C : Addr) (sp : Sp) (dvs : List V) (E : XK) (t : TA) : TE := fun σ H Q => t σ H fun vs H1 => ∀ x dx, H1 x = none → H1 dx = none → dx ≠ x →
  sp (.ref x :: (vs ++ dvs)) (upd (upd H1 dx (.own x)) x (.ins C dx [])) (fun v H2 => v = .non ∧ Q (.ref x) H2) E

/-- how the parameters are bound: us the positional arguments, kw the keywords' values by name, ds the defaults that fill up -/
def Binds (K : PySem.W.Frag) (fd : FuncData) (ps : List Str) (ds : List Value) : Prop :=
  ∀ (s : Shared) (us : List Value), K.In s.heap → (us ++ ds).length = ps.length → BindsTo s fd ⟨us, []⟩ (ps.zip (us ++ ds))
/-- every parameter is given -/
theorem Binds.all {K : PySem.W.Frag} {fd : FuncData} {ps : List Str} (h : ∀ us : List Value, us.length = ps.length → bindArgs fd ⟨us, []⟩ = pure (ps.zip us)) : Binds K fd ps [] := fun s us _ hl => by
  rw [List.append_nil] at hl ⊢
  exact .of_eq (h us hl)

/-- an exception of a callee reaches what this body wants of exceptions -/
def Passes (CX : CXT) (X : Cx) (E : XK) : Prop := ∀ (pins : List (Addr × Obj)) (σ : St) (H : Hp) (s : Shared) (e : Value) (s' : Shared), Inv X pins σ H s → CX X.stack H s E e s' → X.xe e s'

section
variable {X : Cx} {CX : CXT} {k : Nat} {f C : Addr} {fd : FuncData} {ps : List Str} {sp : Sp} {dvs : List V} {ds : List Value} {E : XK} {x m : Str} {p pos apos : Pos} {e o : Expr} {es : List Expr} {ta : TE} {t : TA}

/-- the callee runs -/
theorem run_fn {pins : List (Addr × Obj)} {σ : St} {H : Hp} {s : Shared} {Q : VK} {us : List Value} {vs : List V} (F : FnOk X.prog X.w X.K X.mg X.base CX k f fd ps sp) (hr : Room k X.A) (hb : Binds X.K fd ps ds) (hd : Vals dvs ds) (hx : Passes CX X E)
    (I : Inv X pins σ H s) (r : Vals vs us) (h : sp (vs ++ dvs) H Q E) : wpAny (model X.prog X.w) X.A (call (.ref f) us) (EP X pins σ Q) X.xe s := by
  have r2 : Vals (vs ++ dvs) (us ++ ds) := r.append hd
  have hl : (us ++ ds).length = ps.length := by rw [← r2.length]; exact F.len _ _ _ _ h
  refine wpAny_call (codeAny_mono (F.run X.A X.stack s H ⟨us, []⟩ (us ++ ds) (vs ++ dvs) Q E hr I.env0 (hb s us I.kIn hl) r2 h) fun r s' hq => ?_)
  cases r with
  | error e => exact hx pins σ H s e s' I hq
  | ok fl =>
    cases fl with
    | ret u => exact I.after hq
    | next => exact False.elim hq
    | brk => exact False.elim hq
    | cont => exact False.elim hq

theorem pe_call (F : FnOk X.prog X.w X.K X.mg X.base CX k f fd ps sp) (hr : Room k X.A) (hg : Gl X x) (hm : X.mg x = some (.ref f)) (hk : PySem.W.keepIn X.K (.ref f) = true) (hb : Binds X.K fd ps ds) (hd : Vals dvs ds) (hx : Passes CX X E)
    (ha : PA X (e :: es) t) (hdb : (x == ("__debug__" : Str)) = false := by decide) (he : starEach (e :: es) X.env = (false, eval e X.env) :: starEach es X.env := by rfl) (hpl : (backTo pos (starEach es X.env)).any (·.1) = false := by rfl) :
    PE X (.Call (.Name x p) (e :: es) [] pos) (tCall sp dvs E t) := by
  intro pins s σ H Q I h
  refine wpAny_Call_Name_kw (ld_glob I hg hm ?_ hdb)
  refine PySem.W.callWith_K (h₀ := X.base) I.ok.mod.kin hk (thn (ha pos pins s σ H _ I h) fun us s1 ⟨vs, H1, I1, r, q⟩ => ⟨I1.kIn, ?_⟩) he hpl
  exact run_fn F hr hb hd hx I1 r q
theorem pe_call0 (F : FnOk X.prog X.w X.K X.mg X.base CX k f fd ps sp) (hr : Room k X.A) (hg : Gl X x) (hm : X.mg x = some (.ref f)) (hk : PySem.W.keepIn X.K (.ref f) = true) (hb : Binds X.K fd ps ds) (hd : Vals dvs ds) (hx : Passes CX X E)
    (hdb : (x == ("__debug__" : Str)) = false := by decide) : PE X (.Call (.Name x p) [] [] pos) (tCall sp dvs E tNil) := by
  intro pins s σ H Q I h
  refine wpAny_Call_Name_kw (ld_glob I hg hm ?_ hdb)
  exact PySem.W.callWith_K0 I.kIn hk (run_fn (us := []) F hr hb hd hx I .nil h)

/-- o.m(e, ..) -/
theorem pe_meth {pl : Sem Bool} (he : PE X o ta) (c : Cls X.K C) (hm : Meth X.K C m f) (F : FnOk X.prog X.w X.K X.mg X.base CX k f fd ps sp) (hr : Room k X.A) (hb : Binds X.K fd ps ds) (hd : Vals dvs ds) (hx : Passes CX X E) (ha : PA X (e :: es) t)
    (hst : starEach (e :: es) X.env = (false, eval e X.env) :: starEach es X.env := by rfl) (hpl : (backTo pos (starEach es X.env)).any (·.1) = false := by rfl)
    (ht : eval (.Call (.Attribute o m apos) (e :: es) [] pos) X.env = (do
      let ov ← eval o X.env
      standAt apos.atName
      let (f, first) ← holding [ov] (getMethod ov m pl)
      callWith pos f first (backTo pos (starEach (e :: es) X.env)) (backToKw pos (keywordEach [] X.env))) := by rfl) :
    PE X (.Call (.Attribute o m apos) (e :: es) [] pos) (tMeth C m sp dvs E ta t) := by
  intro pins s σ H Q I h
  refine PySem.W.methodCall_KW (pl := pl) (thn (he pins s σ H _ I h) fun u s1 ⟨x, H1, I1, rx, a, dx, fs, ex, ea, l, q⟩ => ?_) ht
  subst ex
  obtain rfl : u = Value.ref a := rx
  refine getmeth_ok I1 ea c hm l ?_
  refine PySem.W.callWith_K (first := [.ref a]) (h₀ := X.base) I.ok.mod.kin hm.kp (thn (ha pos pins s1 σ H1 _ I1 q) fun us s2 ⟨vs, H2, I2, r, q2⟩ => ⟨I2.kIn, ?_⟩) hst hpl
  exact run_fn (us := .ref a :: us) (vs := .ref a :: vs) F hr hb hd hx I2 (.cons rfl r) q2
/-- o.m() -/
theorem pe_meth0 {pl : Sem Bool} (he : PE X o ta) (c : Cls X.K C) (hm : Meth X.K C m f) (F : FnOk X.prog X.w X.K X.mg X.base CX k f fd ps sp) (hr : Room k X.A) (hb : Binds X.K fd ps ds) (hd : Vals dvs ds) (hx : Passes CX X E)
    (ht : eval (.Call (.Attribute o m apos) [] [] pos) X.env = (do
      let ov ← eval o X.env
      standAt apos.atName
      let (f, first) ← holding [ov] (getMethod ov m pl)
      callWith pos f first (backTo pos (starEach [] X.env)) (backToKw pos (keywordEach [] X.env))) := by rfl) :
    PE X (.Call (.Attribute o m apos) [] [] pos) (tMeth C m sp dvs E ta tNil) := by
  intro pins s σ H Q I h
  refine PySem.W.methodCall_KW (pl := pl) (thn (he pins s σ H _ I h) fun u s1 ⟨x, H1, I1, rx, a, dx, fs, ex, ea, l, q⟩ => ?_) ht
  subst ex
  obtain rfl : u = Value.ref a := rx
  refine getmeth_ok I1 ea c hm l ?_
  exact PySem.W.callWith_K0 (first := [.ref a]) I1.kIn hm.kp (run_fn (us := [.ref a]) (vs := [.ref a]) F hr hb hd hx I1 (.cons rfl .nil) q)

/-- what a class must have to be made -/
structure Mk (K : PySem.W.Frag) (C f : Addr) : Prop where
  makes : PySem.W.makesIn K C = true
  init : PySem.W.findIn K (.ref C) "__init__" = some (some (.ref f))
  fn : PySem.W.isFn K (.ref f) = true
  kp : PySem.W.keepIn K (.ref C) = true

theorem run_make {pins : List (Addr × Obj)} {σ : St} {H : Hp} {s : Shared} {Q : VK} {us : List Value} {vs : List V} (M : Mk X.K C f) (F : FnOk X.prog X.w X.K X.mg X.base CX k f fd ps sp) (hr : Room (k + 1) X.A) (hb : Binds X.K fd ps ds) (hd : Vals dvs ds)
    (hx : Passes CX X E) (I : Inv X pins σ H s) (r : Vals vs us)
    (h : ∀ x dx, H x = none → H dx = none → dx ≠ x → sp (.ref x :: (vs ++ dvs)) (upd (upd H dx (.own x)) x (.ins C dx [])) (fun v H2 => v = .non ∧ Q (.ref x) H2) E) :
    wpAny (model X.prog X.w) X.A (call (.ref C) us) (EP X pins σ Q) X.xe s := by
  have hq := h (s.heap.objs.size + 1) s.heap.objs.size (I.hok.fresh (Nat.le_succ _)) (I.hok.fresh (Nat.le_refl _)) (Nat.ne_of_lt (Nat.lt_succ_self _))
  have I2 := Inv.made (C := C) I
  have r2 : Vals (V.ref (s.heap.objs.size + 1) :: (vs ++ dvs)) (Value.ref (s.heap.objs.size + 1) :: (us ++ ds)) := .cons rfl (r.append hd)
  have hl : (Value.ref (s.heap.objs.size + 1) :: us ++ ds).length = ps.length := by
    have e := r2.length
    rw [F.len _ _ _ _ hq] at e
    exact e.symm
  refine wpAny_call (make_map (f := f) I.kIn M.makes M.init (beq_iff_eq.mp M.fn) (codeAny_mono (F.run _ X.stack _ _ ⟨Value.ref (s.heap.objs.size + 1) :: us, []⟩ (Value.ref (s.heap.objs.size + 1) :: (us ++ ds)) _ _ E (hr.make C us [])
    (I2.env0.make C us []) (hb _ (Value.ref (s.heap.objs.size + 1) :: us) I2.kIn hl) r2 hq) fun r s' hq' => ?_))
  cases r with
  | error e => exact hx pins σ _ _ e s' I2 hq'
  | ok fl =>
    cases fl with
    | ret u =>
      obtain ⟨v, H', I3, rv, ev, q3⟩ := I2.after hq'
      subst ev
      exact ⟨rv, ⟨V.ref (s.heap.objs.size + 1), H', I3, rfl, q3⟩⟩
    | next => exact False.elim hq'
    | brk => exact False.elim hq'
    | cont => exact False.elim hq'
theorem pe_make (M : Mk X.K C f) (F : FnOk X.prog X.w X.K X.mg X.base CX k f fd ps sp) (hr : Room (k + 1) X.A) (hg : Gl X x) (hm : X.mg x = some (.ref C)) (hb : Binds X.K fd ps ds) (hd : Vals dvs ds) (hx : Passes CX X E)
    (ha : PA X (e :: es) t) (hdb : (x == ("__debug__" : Str)) = false := by decide) (he : starEach (e :: es) X.env = (false, eval e X.env) :: starEach es X.env := by rfl) (hpl : (backTo pos (starEach es X.env)).any (·.1) = false := by rfl) :
    PE X (.Call (.Name x p) (e :: es) [] pos) (tMake C sp dvs E t) := by
  intro pins s σ H Q I h
  refine wpAny_Call_Name_kw (ld_glob I hg hm ?_ hdb)
  refine PySem.W.callWith_K (h₀ := X.base) I.ok.mod.kin M.kp (thn (ha pos pins s σ H _ I h) fun us s1 ⟨vs, H1, I1, r, q⟩ => ⟨I1.kIn, ?_⟩) he hpl
  exact run_make M F hr hb hd hx I1 r q
theorem pe_make0 (M : Mk X.K C f) (F : FnOk X.prog X.w X.K X.mg X.base CX k f fd ps sp) (hr : Room (k + 1) X.A) (hg : Gl X x) (hm : X.mg x = some (.ref C)) (hb : Binds X.K fd ps ds) (hd : Vals dvs ds) (hx : Passes CX X E)
    (hdb : (x == ("__debug__" : Str)) = false := by decide) : PE X (.Call (.Name x p) [] [] pos) (tMake C sp dvs E tNil) := by
  intro pins s σ H Q I h
  refine wpAny_Call_Name_kw (ld_glob I hg hm ?_ hdb)
  exact PySem.W.callWith_K0 I.kIn M.kp (run_make (us := []) M F hr hb hd hx I .nil h)
end

/-! ### keywords -/
/-- the values of the keywords, from the left -/
def PK (X : Cx) (kws : List Keyword) (t : TA) : Prop :=
  ∀ (pos : Pos) (pins : List (Addr × Obj)) (s : Shared) (σ : St) (H : Hp) (Q : List V → Hp → Prop), Inv X pins σ H s → t σ H Q → wpAny (model X.prog X.w) X.A (evalAll ((backToKw pos (keywordEach kws X.env)).map (·.2))) (AP X pins σ Q) X.xe s
section
variable {X : Cx} {CX : CXT} {k : Nat} {f C : Addr} {fd : FuncData} {ps ks : List Str} {sp : Sp} {E : XK} {x m : Str} {p pos apos kpos : Pos} {e o : Expr} {es : List Expr} {kws : List Keyword} {te ta : TE} {t tk : TA} {nm : Option Str}
theorem pk_nil : PK X [] tNil := fun _ _ _ _ H Q I h => wpAny_evalAll_nil ⟨[], H, I, .nil, h⟩
theorem pk_cons (ha : PE X e te) (hr : PK X kws t) : PK X (⟨nm, e, kpos⟩ :: kws) (tCons te t) := by
  intro pos pins s σ H Q I h
  show wpAny _ _ (evalAll ((do let v ← eval e X.env; standAt pos; pure v) :: (backToKw pos (keywordEach kws X.env)).map (·.2))) _ _ s
  refine wpAny_evalAll_cons (wpAny_bind (thn (ha pins s σ H _ I h) fun u s1 ⟨x, H1, I1, r1, q1⟩ => wpAny_bind (wpAny_standAt (wpAny_pure ?_))))
  exact thn (hr pos pins s1 σ H1 _ I1 q1) fun us s2 ⟨xs, H2, I2, r2, q2⟩ => ⟨x :: xs, H2, I2, .cons r1 r2, q2⟩

/-- how a call with keywords binds: g puts the positional values us and the keywords' values ws (names ks) in the parameters' order, defaults among them -/
structure KBinds (K : PySem.W.Frag) (fd : FuncData) (ps ks : List Str) (g : List Value → List Value → List Value) (gV : List V → List V → List V) : Prop where
  to : ∀ (s : Shared) (us ws : List Value), K.In s.heap → (g us ws).length = ps.length → BindsTo s fd ⟨us, ks.zip ws⟩ (ps.zip (g us ws))
  rel : ∀ {vs : List V} {us : List Value} {zs : List V} {ws : List Value}, Vals vs us → Vals zs ws → Vals (gV vs zs) (g us ws)
def tCallK (sp : Sp) (gV : List V → List V → List V) (E : XK) (t tk : TA) : TE := fun σ H Q => t σ H fun vs H1 => tk σ H1 fun zs H2 => sp (gV vs zs) H2 Q E
variable {g : List Value → List Value → List Value} {gV : List V → List V → List V}
theorem run_fnk {pins : List (Addr × Obj)} {σ : St} {H : Hp} {s : Shared} {Q : VK} {us ws : List Value} {vs zs : List V} (F : FnOk X.prog X.w X.K X.mg X.base CX k f fd ps sp) (hr : Room k X.A) (hb : KBinds X.K fd ps ks g gV) (hx : Passes CX X E)
    (I : Inv X pins σ H s) (r : Vals vs us) (rz : Vals zs ws) (h : sp (gV vs zs) H Q E) : wpAny (model X.prog X.w) X.A (call (.ref f) us (ks.zip ws)) (EP X pins σ Q) X.xe s := by
  have r2 := hb.rel r rz
  have hl : (g us ws).length = ps.length := by rw [← r2.length]; exact F.len _ _ _ _ h
  refine wpAny_call (codeAny_mono (F.run X.A X.stack s H ⟨us, ks.zip ws⟩ (g us ws) (gV vs zs) Q E hr I.env0 (hb.to s us ws I.kIn hl) r2 h) fun r s' hq => ?_)
  cases r with
  | error e => exact hx pins σ H s e s' I hq
  | ok fl =>
    cases fl with
    | ret u => exact I.after hq
    | next => exact False.elim hq
    | brk => exact False.elim hq
    | cont => exact False.elim hq
/-- f(e, .., k = v, ..) -/
theorem pe_callK (F : FnOk X.prog X.w X.K X.mg X.base CX k f fd ps sp) (hr : Room k X.A) (hg : Gl X x) (hm : X.mg x = some (.ref f)) (hk : PySem.W.keepIn X.K (.ref f) = true) (hb : KBinds X.K fd ps ks g gV) (hx : Passes CX X E)
    (ha : PA X (e :: es) t) (hkw : PK X kws tk) (hall : (backToKw pos (keywordEach kws X.env)).all (·.1.isSome) = true := by rfl) (hks : (backToKw pos (keywordEach kws X.env)).filterMap (·.1) = ks := by rfl)
    (hdb : (x == ("__debug__" : Str)) = false := by decide) (he : starEach (e :: es) X.env = (false, eval e X.env) :: starEach es X.env := by rfl)
    (hpl : ((backTo pos (starEach (e :: es) X.env)).any (·.1) || (backToKw pos (keywordEach kws X.env)).any (·.1.isNone)) = false := by rfl) :
    PE X (.Call (.Name x p) (e :: es) kws pos) (tCallK sp gV E t tk) := by
  intro pins s σ H Q I h
  refine wpAny_Call_Name_kw (ld_glob I hg hm ?_ hdb)
  refine PySem.W.callWith_KW (h₀ := X.base) I.ok.mod.kin hk hall (thn (ha pos pins s σ H _ I h) fun us s1 ⟨vs, H1, I1, r, q⟩ => ?_) hpl he
  refine thn (hkw pos pins s1 σ H1 _ I1 q) fun ws s2 ⟨zs, H2, I2, rz, q2⟩ => ⟨I2.kIn, ?_⟩
  rw [hks]
  exact run_fnk F hr hb hx I2 r rz q2
end

/-! ### a def's body keeps its promise -/
/-- names: the parameters first -/
structure FnScope (N P : List Str) (sc : Scope) : Prop where
  kind : sc.kind = .function
  co : sc.isCoroutine = false
  gen : sc.isGenerator = false
  nd : N.Nodup
  pre : N.take P.length = P
  par : ∀ x ∈ P, sc.names.lookup x = some .local ∨ sc.names.lookup x = some .cell
  nofree : ∀ y ∈ sc.names, y.2 ≠ .free

theorem bindL_out {kindOf : Str → Option NameKind} {x : Str} : ∀ {binds : List (Str × Value)} {m : Str → Option Value}, (∀ v, (x, v) ∉ binds) → bindL kindOf binds m x = m x
  | [], _, _ => rfl
  | (n, v) :: r, m, h => by
    unfold bindL
    rw [bindL_out fun w hw => h w (List.mem_cons_of_mem _ hw)]
    split
    · have : x ≠ n := by rintro rfl; exact h v List.mem_cons_self
      simp [this]
    · rfl
theorem bindC_out {kindOf : Str → Option NameKind} {x : Str} : ∀ {binds : List (Str × Value)} {m : Str → Option Value}, (∀ v, (x, v) ∉ binds) → bindC kindOf binds m x = m x
  | [], _, _ => rfl
  | (n, v) :: r, m, h => by
    unfold bindC
    rw [bindC_out fun w hw => h w (List.mem_cons_of_mem _ hw)]
    split
    · rfl
    · have : x ≠ n := by rintro rfl; exact h v List.mem_cons_self
      simp [this]
theorem bindL_get {kindOf : Str → Option NameKind} {x : Str} {v : Value} : ∀ {P : List Str} {vs : List Value} {i : Nat} {m : Str → Option Value}, P.Nodup → P[i]? = some x → vs[i]? = some v → kindOf x = some .local →
    bindL kindOf (P.zip vs) m x = some v
  | [], _, _, _, _, h, _, _ => by simp at h
  | _ :: _, [], _, _, _, _, h, _ => by simp at h
  | p :: P, w :: vs, 0, m, nd, h1, h2, hk => by
    simp at h1 h2; subst h1; subst h2
    show bindL kindOf ((p, w) :: P.zip vs) m p = _
    unfold bindL
    rw [bindL_out fun v hv => (List.nodup_cons.mp nd).1 (List.of_mem_zip hv).1, if_pos hk]
    simp
  | p :: P, w :: vs, i + 1, m, nd, h1, h2, hk => by
    show bindL kindOf ((p, w) :: P.zip vs) m x = _
    unfold bindL
    exact bindL_get (i := i) (List.nodup_cons.mp nd).2 (by simpa using h1) (by simpa using h2) hk
theorem bindC_get {kindOf : Str → Option NameKind} {x : Str} {v : Value} : ∀ {P : List Str} {vs : List Value} {i : Nat} {m : Str → Option Value}, P.Nodup → P[i]? = some x → vs[i]? = some v → kindOf x ≠ some .local →
    bindC kindOf (P.zip vs) m x = some v
  | [], _, _, _, _, h, _, _ => by simp at h
  | _ :: _, [], _, _, _, _, h, _ => by simp at h
  | p :: P, w :: vs, 0, m, nd, h1, h2, hk => by
    simp at h1 h2; subst h1; subst h2
    show bindC kindOf ((p, w) :: P.zip vs) m p = _
    unfold bindC
    rw [bindC_out fun v hv => (List.nodup_cons.mp nd).1 (List.of_mem_zip hv).1, if_neg hk]
    simp
  | p :: P, w :: vs, i + 1, m, nd, h1, h2, hk => by
    show bindC kindOf ((p, w) :: P.zip vs) m x = _
    unfold bindC
    exact bindC_get (i := i) (List.nodup_cons.mp nd).2 (by simpa using h1) (by simpa using h2) hk

/-- the names' values at the entry -/
def start (N : List Str) (vs : List V) : St := vs.map some ++ List.replicate (N.length - vs.length) none

/-- the context of a def's body, at its entry; an exception leaves the frame, then lies as CX says -/
def cxOf (CX : CXT) (P : Program) (w : World) (K : PySem.W.Frag) (mg : Str → Option Value) (base : Heap) (N : List Str) (qual : Str) (scope : Scope) (f : Addr) (cd : Value) (A : Around) (outer : List Env) (s : Shared) (H : Hp) (E : XK) : Cx where
  prog := P
  w := w
  K := K
  mg := mg
  base := base
  A := A.deeper (envOfC qual scope s.heap.objs.size f cd)
  N := N
  s₀ := s
  H₀ := H
  env := envOfC qual scope s.heap.objs.size f cd
  outer := outer
  stack := envOfC qual scope s.heap.objs.size f cd :: outer
  ex := []
  calm := true
  fn := fun _ => true
  pn := []
  xe := fun e s' => wpAny (model P w) (A.deeper (envOfC qual scope s.heap.objs.size f cd)) (leaving (envOfC qual scope s.heap.objs.size f cd) e) (fun _ s'' => CX outer H s E e s'') (fun e' s'' => CX outer H s E e' s'') s'

theorem cell_has {sc : Scope} {n : Nat} {x : Str} (h : sc.names.lookup x = some .cell) : ∃ c, (cellsFrom n sc.names []).lookup x = some c := by
  have q := PySem.W.cellsFrom_some sc.names n [] (.inl h)
  exact Option.isSome_iff_exists.mp q

theorem inv_start {CX : CXT} {P : Program} {w : World} {K : PySem.W.Frag} {mg : Str → Option Value} {base : Heap} {N ps : List Str} {qual : Str} {scope : Scope} {f : Addr} {cd : Value} {A : Around} {outer : List Env} {s s1 : Shared} {H : Hp} {E : XK} {us : List Value} {vs : List V}
    (S : FnScope N ps scope) (hd : A.handled = none) (e0 : Env0 P w K mg base A outer s H) (hl : vs.length = ps.length) (r : Vals vs us)
    (x : InCallC s s.heap.objs.size (bindL (envOfC qual scope s.heap.objs.size f cd).kindOf (ps.zip us) fun _ => none) (cellsFrom (s.heap.objs.size + 1) scope.names []) (bindC (envOfC qual scope s.heap.objs.size f cd).kindOf (ps.zip us) fun _ => none) s1) :
    Inv (cxOf CX P w K mg base N qual scope f cd A outer s H E) [] (start N vs) H s1 := by
  have hpl : ps.length ≤ N.length := by have := congrArg List.length S.pre; rw [List.length_take] at this; omega
  obtain ⟨h1, tk, rfl, hk⟩ := x.done
  have noA : ∀ b : Addr, b ∉ (cxOf CX P w K mg base N qual scope f cd A outer s H E).ex := fun b z => absurd (show b ∈ ([] : List Addr) from z) (by simp)
  refine ⟨⟨e0.mod, S.kind, rfl, rfl, Nat.le_refl _, fun y z c h1 h2 => ?_, fun y hy => ?_, fun y c _ h => ?_, fun _ => hd, Around.frames_deeper e0.frames, .inr ⟨rfl, rfl⟩, fun b z => absurd z (noA b), e0.bs, e0.bsz, fun b _ _ => noA b, fun b z => absurd z (noA b), e0.funs, e0.frf⟩,
    rfl, e0.bare, Un.kept hk, ⟨_, x.toInCall.ns, fun i y v h1 h2 h3 => ?_⟩, fun y c h => ⟨_, x.cell y c h⟩, e0.hok.fresh (Nat.le_refl _), fun y c h => ?_, fun p hp => absurd (show p ∈ ([] : List (Addr × Obj)) from hp) (by simp), e0.hok.kept hk, ?_⟩
  · exact name_of_addr x.apart (PySem.mem_of_lookup h1) (PySem.mem_of_lookup h2)
  · have hy : scope.names.lookup y = some .cell ∨ scope.names.lookup y = some .free := hy
    rcases hy with hy | hy
    · exact cell_has hy
    · exact absurd rfl (S.nofree _ (PySem.mem_of_lookup hy))
  · exact Nat.le_of_lt (x.above y c (PySem.mem_of_lookup h))
  · have hi : i < vs.length := by
      unfold start at h2
      by_cases hi : i < vs.length
      · exact hi
      · rw [List.getElem?_append_right (by simpa using hi)] at h2
        rw [List.getElem?_replicate] at h2
        split at h2 <;> cases h2
    have ha : vs[i]? = some v := by
      unfold start at h2
      rw [List.getElem?_append_left (by simpa using hi), List.getElem?_map] at h2
      cases e : vs[i]? with
      | none => rw [e] at h2; cases h2
      | some a => rw [e] at h2; cases h2; rfl
    obtain ⟨u, hu, rv⟩ := r.get ha
    have hp : ps[i]? = some y := by
      rw [← S.pre, List.getElem?_take_of_lt (by omega)]; exact h1
    have ndP : ps.Nodup := by rw [← S.pre]; exact S.nd.sublist (List.take_sublist _ _)
    refine ⟨u, rv, ?_⟩
    rcases S.par y (List.mem_of_getElem? hp) with k | k
    · exact .inl ⟨k, bindL_get ndP hp hu k⟩
    · obtain ⟨c, e⟩ := cell_has (n := s.heap.objs.size + 1) k
      refine .inr ⟨.inl k, c, e, ?_⟩
      have q := x.cell y c e
      rw [bindC_get ndP hp hu (by show scope.names.lookup y ≠ _; rw [k]; decide)] at q
      exact q
  · exact e0.hok.fresh (Nat.le_of_lt (x.above y c (PySem.mem_of_lookup h)))
  · unfold start
    show _ = N.length
    rw [List.length_append, List.length_map, List.length_replicate]
    omega

/-- THE RULE: a def (or a method) of the text, by its body. The body's reading t is chosen for each entry; it is run at the parameters' values -/
theorem fn_of {CX : CXT} {P : Program} {w : World} {K : PySem.W.Frag} {mg : Str → Option Value} {base : Heap} {k : Nat} {f : Addr} {name qual : Str} {params : Arguments} {body : List Stmt} {scope : Scope} {dV kV doc pm cdv ct oc : Value} {an od : Option Addr}
    {osl : Array (Option Value)} {N ps : List Str} {sp : Sp} (lk : K.lookup f = some ⟨oc, od, .func (PySem.W.fnOf name qual params body scope dV kV doc pm an cdv ct), osl⟩) (hcd : PySem.W.codeIn K cdv qual = true) (S : FnScope N ps scope)
    (len : ∀ vs H Q E, sp vs H Q E → vs.length = ps.length)
    (hbody : ∀ (A : Around) (outer : List Env) (s : Shared) (H : Hp) (vs : List V) (Q : VK) (E : XK), Room k (A.deeper (envOfC qual scope s.heap.objs.size f cdv)) → sp vs H Q E →
      ∃ t, PSs (cxOf CX P w K mg base N qual scope f cdv A outer s H E) body t ∧ t { nx := fun _ H' => Q .non H', rt := Q } (start N vs) H) :
    FnOk P w K mg base CX (k + 1) f (PySem.W.fnOf name qual params body scope dV kV doc pm an cdv ct) ps sp := by
  refine ⟨len, fun A outer s H args us vs Q E hr e0 hb r hsp => ?_⟩
  have hl := len _ _ _ _ hsp
  have KX : K.In s.heap := e0.mod.kin.keeps fun b o e => (e0.bs b o e).1
  have lim : s.heap.NoLimit := e0.mod.nolimit.keeps fun b o e => (e0.bs b o e).1
  have hkind : ∀ y ∈ ps.zip us, scope.names.lookup y.1 = some .local ∨ (scope.names.lookup y.1 = some .cell ∧ ((cellsFrom (s.heap.objs.size + 1) scope.names []).lookup y.1).isSome = true) := fun ⟨n, v⟩ hy => by
    rcases S.par n (List.of_mem_zip hy).1 with q | q
    · exact .inl q
    · exact .inr ⟨q, PySem.W.cellsFrom_some _ _ _ (.inl q)⟩
  refine codeAny_call_function hr.depth (KX _ _ lk) rfl S.co S.gen rfl (PySem.W.codeRec_of KX hcd) (hb _ _ _ _ ?_)
  refine wpAny_newFunctionEnv_cells S.kind hkind fun env he s1 x => ?_
  subst he
  refine ⟨lim.keeps x.toInCall.keep, codeAny_func ?_⟩
  obtain ⟨t, ht, hq⟩ := hbody A outer s H vs Q E (hr.deeper _) hsp
  have I : Inv (cxOf CX P w K mg base N qual scope f cdv A outer s H E) [] (start N vs) H s1 := inv_start S hr.hd e0 hl r x
  refine wpAny_mono (ht [] s1 (start N vs) H _ I hq) (fun fl s' hs => ?_) fun e s' hs => hs
  have fin : ∀ {σ' : St} {H' : Hp} {v : V} {u : Value}, Inv (cxOf CX P w K mg base N qual scope f cdv A outer s H E) [] σ' H' s' → RelV v u → Q v H' → CE outer P w H s Q u s' :=
    fun {σ' H' v u} J rv q => ⟨v, H', J.os, J.bare, J.base, J.hok, rv, q⟩
  cases fl with
  | ret u =>
    obtain ⟨v, σ', H', J, rv, q⟩ := hs
    exact fin J rv q
  | next =>
    obtain ⟨σ', H', J, q⟩ := hs
    exact fin (v := V.non) (u := Value.none) J rfl q
  | brk =>
    obtain ⟨_, _, _, q⟩ := hs
    exact False.elim q
  | cont =>
    obtain ⟨_, _, _, q⟩ := hs
    exact False.elim q
end L2

namespace L2
open PySem PySem.Spec PyProof.Rows
section
variable {X : Cx} {x : Str} {p pos : Pos} {e : Expr} {es : List Expr} {t : TA} {id T : String} {r : List V → Hp → VK → Prop}

def tCB (r : List V → Hp → VK → Prop) (t : TA) : TE := fun σ H Q => t σ H fun vs H1 => r vs H1 Q
/-- f(e, ..), f a built-in function -/
theorem pe_callB (hc : CallR X (.builtin id) r) (hg : Gl X x) (hm : X.mg x = none) (hv : bootBuiltins x = some (.builtin id)) (ha : PA X (e :: es) t) (hn : x ≠ "__name__" := by decide) (hdb : (x == ("__debug__" : Str)) = false := by decide)
    (he : starEach (e :: es) X.env = (false, eval e X.env) :: starEach es X.env := by rfl) (hpl : (backTo pos (starEach es X.env)).any (·.1) = false := by rfl) : PE X (.Call (.Name x p) (e :: es) [] pos) (tCB r t) := by
  intro pins s σ H Q I h
  refine wpAny_Call_Name_kw (ld_blt I hg hm hv ?_ hn hdb)
  exact PyProof.Rows.callWith_builtin1 (thn (ha pos pins s σ H _ I h) fun us s1 ⟨vs, H1, I1, r1, q1⟩ => hc pins s1 σ H1 vs us Q I1 r1 q1) he hpl
/-- T(e, ..), T a built-in type -/
theorem pe_callTy (hc : CallR X (.type T) r) (hg : Gl X x) (hm : X.mg x = none) (hv : bootBuiltins x = some (.type T)) (ha : PA X (e :: es) t) (hn : x ≠ "__name__" := by decide) (hdb : (x == ("__debug__" : Str)) = false := by decide)
    (he : starEach (e :: es) X.env = (false, eval e X.env) :: starEach es X.env := by rfl) (hpl : (backTo pos (starEach es X.env)).any (·.1) = false := by rfl) : PE X (.Call (.Name x p) (e :: es) [] pos) (tCB r t) := by
  intro pins s σ H Q I h
  refine wpAny_Call_Name_kw (ld_blt I hg hm hv ?_ hn hdb)
  exact PyProof.Rows.callWith_type1 (thn (ha pos pins s σ H _ I h) fun us s1 ⟨vs, H1, I1, r1, q1⟩ => hc pins s1 σ H1 vs us Q I1 r1 q1) he hpl
/-- T() -/
theorem pe_callTy0 (hc : CallR X (.type T) r) (hg : Gl X x) (hm : X.mg x = none) (hv : bootBuiltins x = some (.type T)) (hn : x ≠ "__name__" := by decide) (hdb : (x == ("__debug__" : Str)) = false := by decide) :
    PE X (.Call (.Name x p) [] [] pos) (tCB r tNil) := by
  intro pins s σ H Q I h
  refine wpAny_Call_Name_kw (ld_blt I hg hm hv ?_ hn hdb)
  exact PyProof.Rows.callWith_type0 (hc pins s σ H [] [] Q I .nil h)
end
end L2

namespace HT
open PySem PyProof.Rows

/-- t < u of tuples of ints -/
def lexLt : List Int → List Int → Bool
  | [], [] => false
  | [], _ :: _ => true
  | _ :: _, [] => false
  | x :: xs, y :: ys => if x = y then lexLt xs ys else decide (x < y)
theorem lexLt_cons (x y : Int) (xs ys : List Int) : lexLt (x :: xs) (y :: ys) = if x = y then lexLt xs ys else decide (x < y) := rfl
theorem lexLt_nil_nil : lexLt [] [] = false := rfl
theorem lexLt_nil_cons (y : Int) (ys : List Int) : lexLt [] (y :: ys) = true := rfl
theorem lexLt_cons_nil (x : Int) (xs : List Int) : lexLt (x :: xs) [] = false := rfl

theorem eqAt_int (A : Around) (s : Shared) (a : Int) (t : Tok) (c : Int) (u : Tok) : ∃ e, SeqAt.EqAt A s (.int a t) (.int c u) e ∧ (e = true ↔ a = c) :=
  ⟨(a == c), SeqAt.EqAt.int_int a t c u, by simp⟩
theorem rcLt_int (A : Around) (s : Shared) (a : Int) (t : Tok) (c : Int) (u : Tok) (prog : Program) (w : World) (E : Value → Shared → Prop) (Q : Value → Shared → Prop) (h : Q (.bool (decide (a < c))) s) :
    wpAny (model prog w) A (richCompare .Lt (.int a t) (.int c u)) Q E s :=
  (PyProof.Rows.lt_int h : wpAny (model prog w) A (compareOp .Lt (.int a t) (.int c u)) Q E s)

section
open PySem.SeqAt
open PySem.AutoSeq1 (wpAny_loadPart')
open PySem.MeetsSeq PySem.MeetsSeq2 PySem.MeetsSeq3

theorem tuple_lt_ints (l b : Addr) (items items2 : Array Value) (n n2 : Nat) (dd dd2 : Option Addr) (sl sl2 : Array (Option Value)) (ns ms : List Int) (hi : IntsAre items.toList ns) (hj : IntsAre items2.toList ms) :
    Meets (Builtin.«tuple.__lt__» ⟨[.ref l, .ref b], []⟩)
      (fun _ R s => s.heap.get? l = some { cls := .type "tuple", dict := dd, data := .seq items n, slots := sl } ∧ s.heap.get? b = some { cls := .type "tuple", dict := dd2, data := .seq items2 n2, slots := sl2 } ∧
        R (.ok (.ret (.bool (lexLt ns ms)))) s) :=
  .of_wp fun prog w A R s h => by
    obtain ⟨hp, g, d, tk, os⟩ := s; obtain ⟨hl, hb, h⟩ := h
    have f2 := AutoSeq1.sub_tuple_tuple
    have z1 : items.size = ns.length := by rw [← hi.length]; simp
    have z2 : items2.size = ms.length := by rw [← hj.length]; simp
    wp_walk using wpAny_loadPart' hl, wpAny_loadPart' hb, wpAny_forIn_list _ (fun rest b s' => b.1 = none ∧ s' = ⟨hp, g, d, tk, os⟩ ∧ ∃ (vs ws : List Value) (ns' ms' : List Int), rest = vs.zip ws ∧
      IntsAre vs ns' ∧ IntsAre ws ms' ∧ ns'.length + items2.size = ms'.length + items.size ∧ R (.ok (.ret (.bool (lexLt ns' ms')))) ⟨hp, g, d, tk, os⟩) _
    case turn =>
      rintro ⟨y, x⟩ rest b s' ⟨hb', rfl, vs, ws, ns', ms', hz, hvi, hwi, hlen, hR⟩
      cases hvi with
      | nil => rw [List.zip_nil_left] at hz; cases hz
      | cons a t hvi' =>
        cases hwi with
        | nil => rw [List.zip_nil_right] at hz; cases hz
        | cons c u hwi' =>
          rw [List.zip_cons_cons] at hz
          injection hz with hyx hrest
          injection hyx with hy hx
          subst hy hx
          rw [lexLt_cons] at hR
          simp only [List.length_cons] at hlen
          obtain ⟨e, he, hiff⟩ := eqAt_int A.in1 ⟨hp, g, d, tk, os⟩ a t c u
          refine wpAny_bind (he prog w _ _ ?_)
          cases e with
          | true =>
            rw [if_pos (hiff.mp rfl)] at hR
            wp_walk
            exact ⟨rfl, rfl, _, _, _, _, hrest, hvi', hwi', by omega, hR⟩
          | false =>
            rw [if_neg (fun q => absurd (hiff.mpr q) Bool.false_ne_true)] at hR
            have hri := rcLt_int A.in1 ⟨hp, g, d, tk, os⟩ a t c u prog w
            wp_walk using hri
            exact ⟨_, rfl, by simpa using hR⟩
    case fin =>
      rintro ⟨b1, b2⟩ s' ⟨hb', rfl, vs, ws, ns', ms', hz, hvi, hwi, hlen, hR⟩
      simp only at hb'
      subst hb'
      have hv : lexLt ns' ms' = decide (items.size < items2.size) := by
        cases hvi with
        | nil =>
          cases hwi with
          | nil =>
            simp only [List.length_nil] at hlen
            rw [lexLt_nil_nil]
            exact (decide_eq_false (by omega)).symm
          | cons c u hw =>
            simp only [List.length_nil, List.length_cons] at hlen
            rw [lexLt_nil_cons]
            exact (decide_eq_true (by omega)).symm
        | cons a t hv =>
          cases hwi with
          | nil =>
            simp only [List.length_nil, List.length_cons] at hlen
            rw [lexLt_cons_nil]
            exact (decide_eq_false (by omega)).symm
          | cons c u hw =>
            rw [List.zip_cons_cons] at hz
            cases hz
      rw [hv] at hR
      wp_walk
      exact ⟨_, rfl, by simpa [Builtin.Tuple.tupleCompareSizes] using hR⟩
    case h =>
      exact ⟨rfl, rfl, items.toList, items2.toList, ns, ms, rfl, hi, hj, by omega, h⟩
end

section
variable {prog : Program} {w : World} {A : Around} {E : Value → Shared → Prop} {s : Shared}

theorem lt_tupInts {l b : Addr} {items items2 : Array Value} {ns ms : List Int} {Q : Value → Shared → Prop} (hl : IsTup s.heap l items) (hb : IsTup s.heap b items2) (hi : IntsAre items.toList ns) (hj : IntsAre items2.toList ms)
    (hu : A.units < cLine) (h : Q (.bool (lexLt ns ms)) s) : wpAny (model prog w) A (compareOp .Lt (.ref l) (.ref b)) Q E s := by
  obtain ⟨⟨cls, dd, data, sl⟩, ho, hc, n, hd⟩ := id hl
  obtain ⟨⟨cls2, dd2, data2, sl2⟩, ho2, hc2, n2, hd2⟩ := id hb
  simp only at hc hd hc2 hd2
  subst hc hd hc2 hd2
  exact richCompare_meets_room (op := .Lt) ⟨_, ho, rfl⟩ ⟨_, ho2, rfl⟩ PySem.F.slot_tuple_lt PySem.F.entry_tuple_lt (PySem.F.args_tuple_lt_2 _ _) (tuple_lt_ints l b items items2 n n2 dd dd2 sl sl2 ns ms hi hj)
    ⟨ho, ho2, show Value.bool (lexLt ns ms) ≠ Value.notImplemented ∧ Q (.bool (lexLt ns ms)) s from ⟨(fun x => nomatch x), h⟩⟩ hu

/-- t + u, t not empty -/
theorem cat_tup {t b : Addr} {vs ws : List Value} {Q : Value → Shared → Prop} (ht : IsTup s.heap t vs.toArray) (hb : IsTup s.heap b ws.toArray) (hv : vs ≠ [])
    (h1 : ws = [] → Q (.ref t) s) (h2 : ws ≠ [] → Q (.ref s.heap.objs.size) { s with heap := s.heap.push { cls := .type "tuple", data := .seq (vs ++ ws).toArray } })
    (hsz : vs.length + ws.length ≤ sizeLine) : wpAny (model prog w) A (binaryOp .Add (.ref t) (.ref b)) Q E s := by
  obtain ⟨⟨cls, dd, data, sl⟩, ho, hc, n, hd⟩ := id ht
  obtain ⟨⟨cls2, dd2, data2, sl2⟩, ho2, hc2, n2, hd2⟩ := id hb
  simp only at hc hd hc2 hd2
  subst hc hd hc2 hd2
  have e : vs.toArray ++ ws.toArray = (vs ++ ws).toArray := by simp
  by_cases hw : ws = []
  · exact concat_meets ⟨_, ho, rfl⟩ ⟨_, ho2, rfl⟩ noFill_tuple_add seq_tuple_add PySem.F.slot_tuple_add PySem.F.entry_tuple_add (PySem.F.args_tuple_add_2 _ _)
      (tuple_addW1 t b vs.toArray ws.toArray n n2 dd dd2 sl sl2 (by simpa using hv) (by simp [hw])) ⟨ho, ho2, h1 hw⟩
  · refine concat_meets ⟨_, ho, rfl⟩ ⟨_, ho2, rfl⟩ noFill_tuple_add seq_tuple_add PySem.F.slot_tuple_add PySem.F.entry_tuple_add (PySem.F.args_tuple_add_2 _ _)
      (tuple_addW2 t b vs.toArray ws.toArray n n2 dd dd2 sl sl2 (by simpa using hv) (by simpa using hw) (by rw [List.size_toArray, List.size_toArray]; exact hsz)) ⟨ho, ho2, ?_⟩
    rw [e]
    exact h2 hw

/-! ### t[a:b], not the whole -/
/-- a slice's bound as a place among n (d where it is left out) -/
def sIx (n d : Nat) : Option Int → Nat
  | none => d
  | some v => if v < 0 then (v + (n : Int)).toNat else min v.toNat n
theorem sIx_none (n d : Nat) : sIx n d none = d := rfl
theorem sIx_nat (n d k : Nat) : sIx n d (some (k : Int)) = min k n := by
  show (if (k : Int) < 0 then ((k : Int) + (n : Int)).toNat else min (k : Int).toNat n) = min k n
  rw [if_neg (by omega), Int.toNat_natCast]
theorem sIx_le (n d : Nat) (hd : d ≤ n) (o : Option Int) : sIx n d o ≤ n := by
  cases o with
  | none => exact hd
  | some v =>
    show (if v < 0 then (v + (n : Int)).toNat else min v.toNat n) ≤ n
    by_cases hv : v < 0
    · rw [if_pos hv]; omega
    · rw [if_neg hv]; exact Nat.min_le_right _ _
theorem clip_eq (v : Int) (n d : Nat) : (if v < 0 then max (v + (n : Int)) 0 else min v (n : Int)) = ((sIx n d (some v) : Nat) : Int) := by
  show (if v < 0 then max (v + (n : Int)) 0 else min v (n : Int)) = (((if v < 0 then (v + (n : Int)).toNat else min v.toNat n) : Nat) : Int)
  by_cases hv : v < 0
  · simp only [if_pos hv]; omega
  · simp only [if_neg hv]; omega
theorem adjust_gen (lo hi : Option Int) (n : Nat) : Builtin.Slice.sliceAdjust lo hi 1 (n : Int) = (((sIx n 0 lo : Nat) : Int), ((sIx n n hi : Nat) : Int)) := by
  have h1 : ¬ ((1 : Int) < 0) := by omega
  unfold Builtin.Slice.sliceAdjust
  simp only [h1, if_false]
  refine Prod.ext ?_ ?_
  · cases lo with
    | none => rfl
    | some v => exact clip_eq v n 0
  · cases hi with
    | none => rfl
    | some v => exact clip_eq v n n
theorem places_gen (i j : Nat) : Builtin.Slice.slicePlaces (i : Int) (j : Int) 1 = j - i := by
  unfold Builtin.Slice.slicePlaces
  have h1 : (1 : Int) > 0 := by omega
  simp only [h1, if_true, Int.ediv_one]
  split <;> omega
theorem slicePart_ {v : Value} {o : Option Int} {Q : Option Int → Shared → Prop} (p : IsPart v o) (h : Q o s) : wpAny (model prog w) A (Builtin.Slice.slicePartIndex v) Q E s := by
  cases p with
  | none => exact slicePart_none h
  | int i t => exact slicePart_int h
theorem sliceApplied_gen {sl : Addr} {vl vu : Value} {lo hi : Option Int} {n : Nat} {Q : Int × Int × Nat → Shared → Prop} (hs : s.heap.IsSliceOf sl vl vu .none) (pl : IsPart vl lo) (pu : IsPart vu hi)
    (h : Q (((sIx n 0 lo : Nat) : Int), 1, sIx n n hi - sIx n 0 lo) s) : wpAny (model prog w) A (Builtin.Slice.sliceApplied (.ref sl) (pure (n : Int))) Q E s := by
  obtain ⟨os, hos, hcs, hds⟩ := id hs
  unfold Builtin.Slice.sliceApplied Builtin.Slice.sliceFields
  refine wpAny_bind (wpAny_bind (wpAny_field hos hds (x := vl) rfl (wpAny_bind (wpAny_field hos hds (x := vu) rfl (wpAny_bind (wpAny_field hos hds (x := .none) rfl (wpAny_pure ?_)))))))
  refine wpAny_bind (slicePart_none ?_)
  show wpAny _ _ (if ((1 : Int) == 0) = true then _ else _) _ _ s
  rw [if_neg (by decide)]
  refine wpAny_bind (slicePart_ pl (wpAny_bind (slicePart_ pu (wpAny_bind (wpAny_pure ?_)))))
  show wpAny _ _ (match Builtin.Slice.sliceAdjust lo hi 1 (n : Int) with | (lo, hi) => pure (lo, (1 : Int), Builtin.Slice.slicePlaces lo hi 1)) _ _ s
  rw [adjust_gen lo hi n]
  show wpAny _ _ (pure (((sIx n 0 lo : Nat) : Int), (1 : Int), Builtin.Slice.slicePlaces ((sIx n 0 lo : Nat) : Int) ((sIx n n hi : Nat) : Int) 1)) _ _ s
  rw [places_gen]
  exact wpAny_pure h
theorem pick_gen (xs : Array Value) (i k : Nat) : ((List.range k).filterMap fun (m : Nat) => xs[((i : Int) + (m : Int) * 1).toNat]?).toArray = ((xs.toList.drop i).take k).toArray := by
  have e : (fun (m : Nat) => xs[((i : Int) + (m : Int) * 1).toNat]?) = fun m => xs[i + m]? := by
    funext m
    have : ((i : Int) + (m : Int) * 1).toNat = i + m := by omega
    rw [this]
  rw [e]
  have := pick_run xs i k
  rw [List.filterMap_map] at this
  have e2 : ((fun x => xs[x]?) ∘ fun x => i + x) = fun m => xs[i + m]? := rfl
  rw [e2] at this
  rw [this]

theorem getItem_tuple_cut {t sl : Addr} {items : Array Value} {vl vu : Value} {lo hi : Option Int} {Q : Value → Shared → Prop} (ht : IsTup s.heap t items) (hs : s.heap.IsSliceOf sl vl vu .none) (pl : IsPart vl lo) (pu : IsPart vu hi)
    (hw : ¬ (sIx items.size 0 lo = 0 ∧ sIx items.size items.size hi = items.size))
    (h : Q (.ref s.heap.objs.size) { s with heap := s.heap.push { cls := .type "tuple", data := .seq ((items.toList.drop (sIx items.size 0 lo)).take (sIx items.size items.size hi - sIx items.size 0 lo)).toArray } })
    (hsz : items.size ≤ sizeLine) : wpAny (model prog w) A (getItem (.ref t) (.ref sl)) Q E s := by
  have htake : sizeOk (.seq ((items.toList.drop (sIx items.size 0 lo)).take (sIx items.size items.size hi - sIx items.size 0 lo)).toArray) := by
    show ((items.toList.drop (sIx items.size 0 lo)).take (sIx items.size items.size hi - sIx items.size 0 lo)).toArray.size ≤ sizeLine
    rw [List.size_toArray, List.length_take, List.length_drop, Array.length_toList]
    omega
  have hj : sIx items.size items.size hi ≤ items.size := sIx_le _ _ (Nat.le_refl _) hi
  obtain ⟨os, hos, hcs, hds⟩ := id hs
  have hTs : s.TypeIs (.ref sl) "slice" := ⟨os, hos, hcs⟩
  unfold getItem
  try with_reducible refine wpAny_holding ?_
  first | refine wpAny_bind (wpAny_pure ?_) | skip
  refine wpAny_bind (wpAny_sequenceKey ht.typeIs (by decide) ?_)
  refine wpAny_bind (wpAny_callSpecial?_slot (name := Str.ofString "__getitem__") ht.typeIs PyProof.Rows.slot_tuple_getitem
    (wpAny_call_entry PyProof.Rows.slot_tuple_getitem ht.typeIs entry_tuple_getitem ?_ (args_tuple_getitem _ _)))
  show wpAny _ _ (Builtin.Tuple.tupleItemsOf (.ref t) >>= _) _ _ s
  refine wpAny_bind (tupleItemsOf_ ht ?_)
  refine wpAny_bind (wpAny_typeOf hTs ?_)
  rw [if_pos (by decide)]
  refine wpAny_bind (sliceApplied_gen hs pl pu ?_)
  have hno : ¬ ((((sIx items.size 0 lo : Nat) : Int) == 0 && (1 : Int) == 1 && (sIx items.size items.size hi - sIx items.size 0 lo) == items.size) = true) := by
    intro q
    rw [Bool.and_eq_true, Bool.and_eq_true] at q
    have q1 : ((sIx items.size 0 lo : Nat) : Int) = 0 := eq_of_beq q.1.1
    have q2 : sIx items.size items.size hi - sIx items.size 0 lo = items.size := eq_of_beq q.2
    exact hw ⟨by omega, by omega⟩
  show wpAny _ _ (if (((sIx items.size 0 lo : Nat) : Int) == 0 && (1 : Int) == 1 && (sIx items.size items.size hi - sIx items.size 0 lo) == items.size) = true then _ else _) _ _ s
  rw [if_neg hno, pick_gen]
  first
    | exact wpAny_bind (m := Builtin.Tuple.tupleExact _) (wpAny_newObj_type (wpAny_pure ⟨_, rfl, wpAny_pure h⟩) htake)
    | exact wpAny_bind (m := Builtin.Tuple.tupleExact _) (wpAny_newObj_type (wpAny_bind (wpAny_pure (wpAny_pure ⟨_, rfl, wpAny_pure h⟩))) htake)
    | exact wpAny_bind (wpAny_bind (m := Builtin.Tuple.tupleExact _) (wpAny_newObj_type (wpAny_pure (wpAny_pure ⟨_, rfl, wpAny_pure h⟩)) htake))
    | exact wpAny_bind (wpAny_bind (m := Builtin.Tuple.tupleExact _) (wpAny_newObj_type (wpAny_pure ⟨_, rfl, wpAny_pure h⟩) htake))
end
end HT

namespace L2
open PySem PySem.Spec PyProof.Rows

/-! ### the parts of a slice -/
abbrev TO := St → Hp → (Option Int → Hp → Prop) → Prop
/-- a slice's part (left out, or an int) -/
def PO (X : Cx) (e : Option Expr) (t : TO) : Prop :=
  ∀ (pins : List (Addr × Obj)) (s : Shared) (σ : St) (H : Hp) (Q : Option Int → Hp → Prop), Inv X pins σ H s → t σ H Q →
    wpAny (model X.prog X.w) X.A (evalPart e X.env) (fun u s' => ∃ o H', Inv X pins σ H' s' ∧ IsPart u o ∧ Q o H') X.xe s
def tNoPart : TO := fun _ H Q => Q none H
def tPart (t : TE) : TO := fun σ H Q => t σ H fun x H1 => ∃ i, x = .int i ∧ Q (some i) H1

theorem intsAre_of {ns : List Int} : ∀ {us : List Value}, Vals (ns.map V.int) us → IntsAre us ns := by
  induction ns with
  | nil => intro us r; rw [List.map_nil] at r; cases r; exact .nil
  | cons n ns ih =>
    intro us r
    rw [List.map_cons] at r
    cases r with
    | cons r1 r2 =>
      obtain ⟨t, e⟩ := r1
      subst e
      exact .cons n t (ih r2)

section
variable {X : Cx} {e : Expr} {te : TE} {lo hi : Option Expr} {tl th : TO} {pos p2 : Pos}

theorem po_none : PO X none tNoPart := by
  intro pins s σ H Q I h
  rw [evalPart_none]
  exact wpAny_pure ⟨none, H, I, .none, h⟩
theorem po_some (h : PE X e te) : PO X (some e) (tPart te) := by
  intro pins s σ H Q I hw
  rw [evalPart_some]
  refine thn (h pins s σ H _ I hw) fun u s1 ⟨x, H1, I1, r1, q1⟩ => ?_
  obtain ⟨i, rfl, q⟩ := q1
  obtain ⟨t, rfl⟩ := r1
  exact ⟨some i, H1, I1, .int i t, q⟩

/-- what a slice of a value is, by values: the slice object stands at sl -/
def SlR (X : Cx) (r : V → Option Int → Option Int → Hp → VK → Prop) : Prop :=
  ∀ (pins : List (Addr × Obj)) (s : Shared) (σ : St) (H : Hp) (x : V) (v vl vu : Value) (lo hi : Option Int) (sl : Addr) (Q : VK), Inv X pins σ H s → RelV x v → s.heap.IsSliceOf sl vl vu .none → IsPart vl lo → IsPart vu hi → r x lo hi H Q →
    ∃ T id, typeLookup (.type T) "__getitem__" = pure (some (.builtin id)) ∧ s.TypeIs v T ∧ wpAny (model X.prog X.w) X.A (getItem v (.ref sl)) (EP X pins σ Q) X.xe s
theorem SlR.or {r r' : V → Option Int → Option Int → Hp → VK → Prop} (h : SlR X r) (h' : SlR X r') : SlR X (fun x lo hi H Q => r x lo hi H Q ∨ r' x lo hi H Q) := by
  intro pins s σ H x v vl vu lo hi sl Q I rx hs pl pu q
  rcases q with q | q
  · exact h pins s σ H x v vl vu lo hi sl Q I rx hs pl pu q
  · exact h' pins s σ H x v vl vu lo hi sl Q I rx hs pl pu q
def tSl (r : V → Option Int → Option Int → Hp → VK → Prop) (te : TE) (tl th : TO) : TE := fun σ H Q => te σ H fun x H1 => tl σ H1 fun l H2 => th σ H2 fun u H3 => r x l u H3 Q
/-- a[lo:hi], any a -/
theorem pe_slice {r : V → Option Int → Option Int → Hp → VK → Prop} (hr : SlR X r) (he : PE X e te) (hl : PO X lo tl) (hu : PO X hi th) : PE X (.Subscript e (.Slice lo hi none p2) pos) (tSl r te tl th) := by
  intro pins s σ H Q I h
  refine Subscript_ (thn (he pins s σ H _ I h) fun v s1 ⟨x, H1, I1, r1, q1⟩ => ?_)
  refine wpAny_Slice (thn (hl pins s1 σ H1 _ I1 q1) fun vl s2 ⟨l, H2, I2, pl, q2⟩ => thn (hu pins s2 σ H2 _ I2 q2) fun vu s3 ⟨u, H3, I3, pu, q3⟩ => ?_)
  rw [evalPart_none]
  refine wpAny_pure ?_
  have I4 : Inv X pins σ H3 { s3 with heap := s3.heap.push { cls := .type "slice", data := .fields #[vl, vu, .none] } } := I3.kept (t' := s3.toks) fun b ob q => Heap.get?_push_of_some _ q
  obtain ⟨T, id, hT, ht, hg⟩ := hr pins { s3 with heap := s3.heap.push { cls := .type "slice", data := .fields #[vl, vu, .none] } } σ H3 x v vl vu l u s3.heap.objs.size Q I4 r1 (Heap.IsSliceOf.new ..) pl pu q3
  show wpAny (model X.prog X.w) X.A (subscriptTail e (.Slice lo hi none p2) v (.ref s3.heap.objs.size)) (EP X pins σ Q) X.xe { s3 with heap := s3.heap.push { cls := .type "slice", data := .fields #[vl, vu, .none] } }
  exact tail_any (ops := [.ref s3.heap.objs.size, v]) ht hT hg (by with_unfolding_all rfl)

/-- the items of xs[lo:hi] -/
def cutV (xs : List V) (lo hi : Option Int) : List V := (xs.drop (HT.sIx xs.length 0 lo)).take (HT.sIx xs.length xs.length hi - HT.sIx xs.length 0 lo)
theorem cutV_length (xs : List V) (lo hi : Option Int) : (cutV xs lo hi).length ≤ xs.length := by
  unfold cutV
  rw [List.length_take, List.length_drop]
  omega
/-- t[lo:hi], not the whole of it (the whole would be t itself) -/
def rSlT (K : PySem.W.Frag) : V → Option Int → Option Int → Hp → VK → Prop := fun x lo hi H Q => ∃ a xs, x = .ref a ∧ SqT K H a xs ∧
  ¬ (HT.sIx xs.length 0 lo = 0 ∧ HT.sIx xs.length xs.length hi = xs.length) ∧ ∀ p, H p = none → Q (.ref p) (upd H p (.tup (cutV xs lo hi)))
theorem sl_tup : SlR X (rSlT X.K) := by
  intro pins s σ H x v vl vu lo hi sl Q I rx hs pl pu h
  obtain ⟨a, xs, rfl, hx, hw, q⟩ := h
  cases rx
  obtain ⟨its, r, ht, hz⟩ := I.tuple hx
  have hlen : its.toArray.size = xs.length := by rw [List.size_toArray]; exact r.length.symm
  refine ⟨"tuple", _, PyProof.Rows.slot_tuple_getitem.lookup, ht.typeIs, ?_⟩
  refine HT.getItem_tuple_cut ht hs pl pu (by rw [hlen]; exact hw) ?_ (by rw [hlen]; exact hz)
  rw [hlen]
  refine ⟨.ref s.heap.objs.size, _, I.laid (t' := s.toks) (o := .tup (cutV xs lo hi)) (fun b ob q => Heap.get?_push_of_some _ q) (Nat.le_refl _) ?_, rfl, q _ (I.hok.fresh (Nat.le_refl _))⟩
  exact ⟨Nat.le_trans (cutV_length xs lo hi) hz, _, (r.drop (HT.sIx xs.length 0 lo)).take (HT.sIx xs.length xs.length hi - HT.sIx xs.length 0 lo), IsTup.new _ _⟩

/-! ### t < u, t + u -/
def rLtT (K : PySem.W.Frag) : R2 := fun x y H Q => ∃ a b ns ms, x = .ref a ∧ y = .ref b ∧ SqT K H a (ns.map V.int) ∧ SqT K H b (ms.map V.int) ∧ Q (.bl (HT.lexLt ns ms)) H
theorem op_ltT (hu : X.A.units < cLine) : OpR X (compareOp .Lt) (rLtT X.K) := by
  intro pins s σ H x y v u Q I rx ry h
  obtain ⟨a, b, ns, ms, rfl, rfl, ha, hb, q⟩ := h
  cases rx
  cases ry
  obtain ⟨its, r1, p1, _⟩ := I.tuple ha
  obtain ⟨its2, r2, p2, _⟩ := I.tuple hb
  have i1 : IntsAre its.toArray.toList ns := intsAre_of r1
  have i2 : IntsAre its2.toArray.toList ms := intsAre_of r2
  exact HT.lt_tupInts p1 p2 i1 i2 hu ⟨.bl (HT.lexLt ns ms), H, I, rfl, q⟩
/-- t + u, t not empty: u empty gives t itself -/
def rCatT (K : PySem.W.Frag) : R2 := fun x y H Q => ∃ a b xs ys, x = .ref a ∧ y = .ref b ∧ SqT K H a xs ∧ SqT K H b ys ∧ xs ≠ [] ∧ xs.length + ys.length ≤ sizeLine ∧
  (ys = [] → Q (.ref a) H) ∧ (ys ≠ [] → ∀ p, H p = none → Q (.ref p) (upd H p (.tup (xs ++ ys))))
theorem Vals.nil_iff {xs : List V} {us : List Value} (r : Vals xs us) : us = [] ↔ xs = [] := by
  cases r with
  | nil => simp
  | cons _ _ => simp
theorem op_catT : OpR X (binaryOp .Add) (rCatT X.K) := by
  intro pins s σ H x y v u Q I rx ry h
  obtain ⟨a, b, xs, ys, rfl, rfl, ha, hb, hx, hz, q1, q2⟩ := h
  cases rx
  cases ry
  obtain ⟨its, r1, p1, _⟩ := I.tuple ha
  obtain ⟨its2, r2, p2, _⟩ := I.tuple hb
  refine HT.cat_tup p1 p2 (fun z => hx (r1.nil_iff.mp z)) (fun z => ⟨.ref a, H, I, rfl, q1 (r2.nil_iff.mp z)⟩) (fun z => ?_) (by rw [← r1.length, ← r2.length]; exact hz)
  refine ⟨.ref s.heap.objs.size, _, I.laid (t' := s.toks) (o := .tup (xs ++ ys)) (fun b ob q => Heap.get?_push_of_some _ q) (Nat.le_refl _) ?_, rfl, q2 (fun w => z (r2.nil_iff.mpr w)) _ (I.hok.fresh (Nat.le_refl _))⟩
  exact ⟨by rw [List.length_append]; exact hz, _, r1.append r2, IsTup.new _ _⟩
/-- tuple(t) -/
theorem call_tupleT : CallR X (.type "tuple") (fun xs H Q => ∃ a ys, xs = [.ref a] ∧ SqT X.K H a ys ∧ Q (.ref a) H) := by
  intro pins s σ H xs us Q I r h
  obtain ⟨a, ys, rfl, ha, q⟩ := h
  obtain ⟨u, rfl, ru⟩ := vals1 r
  cases ru
  obtain ⟨its, _, p1, _⟩ := I.tuple ha
  exact call_tuple_same (items := its.toArray) p1 ⟨.ref a, H, I, rfl, q⟩
end
end L2

namespace L2
open PySem PySem.Spec PyProof.Rows

/-! ### places -/
/-- the place that an index of any sign means -/
def ixN (n : Nat) (i : Int) : Option Nat := if 0 ≤ i then (if i < n then some i.toNat else none) else if -(n : Int) ≤ i then some (i + n).toNat else none
def atI {α : Type} (xs : List α) (i : Int) : Option α := (ixN xs.length i).bind fun j => xs[j]?
theorem ixN_seq {n : Nat} {i : Int} {j : Nat} (h : ixN n i = some j) : seqIndex? i n = some j ∧ j < n ∧ -(n : Int) ≤ i ∧ i < n := by
  unfold ixN at h
  by_cases h0 : 0 ≤ i
  · rw [if_pos h0] at h
    by_cases h1 : i < n
    · rw [if_pos h1] at h
      have e : i.toNat = j := Option.some.inj h
      exact ⟨by rw [seqIndex_of h0 h1, e], by omega, by omega, h1⟩
    · rw [if_neg h1] at h; cases h
  · rw [if_neg h0] at h
    by_cases h1 : -(n : Int) ≤ i
    · rw [if_pos h1] at h
      have e : (i + n).toNat = j := Option.some.inj h
      exact ⟨by rw [seqIndex_neg (by omega) h1, e], by omega, h1, by omega⟩
    · rw [if_neg h1] at h; cases h
theorem atI_get {α : Type} {xs : List α} {i : Int} {v : α} (h : atI xs i = some v) : ∃ j, seqIndex? i xs.length = some j ∧ xs[j]? = some v ∧ j < xs.length ∧ -(xs.length : Int) ≤ i ∧ i < xs.length := by
  unfold atI at h
  cases e : ixN xs.length i with
  | none => rw [e] at h; cases h
  | some j =>
    rw [e] at h
    obtain ⟨h1, h2, h3, h4⟩ := ixN_seq e
    exact ⟨j, h1, h, h2, h3, h4⟩
theorem atI_nat {α : Type} {xs : List α} {j : Nat} {v : α} (h : xs[j]? = some v) : atI xs (j : Int) = some v := by
  have hj : j < xs.length := (List.getElem?_eq_some_iff.mp h).1
  have e : ixN xs.length (j : Int) = some j := by
    unfold ixN
    rw [if_pos (by omega), if_pos (by omega)]; simp
  unfold atI; rw [e]; exact h
theorem atI_last {α : Type} (xs : List α) (v : α) : atI (xs ++ [v]) (-1) = some v := by
  have hl : (xs ++ [v]).length = xs.length + 1 := by simp
  have e : ixN (xs ++ [v]).length (-1) = some xs.length := by
    unfold ixN
    rw [hl, if_neg (by decide), if_pos (by omega)]
    congr 1
    omega
  unfold atI
  rw [e]
  show (xs ++ [v])[xs.length]? = some v
  simp

/-! ### what may be subscripted -/
/-- what stands as an index of a plain subscript -/
def PlainIx (b : Expr) : Prop := ∀ o i, subscripted b false o i = operate [o, i] (getItem o i)
/-- a subscript by values -/
def IxR (X : Cx) (r : R2) : Prop :=
  ∀ (value slice : Expr) (pins : List (Addr × Obj)) (s : Shared) (σ : St) (H : Hp) (x y : V) (v u : Value) (Q : VK), Inv X pins σ H s → RelV x v → RelV y u → r x y H Q →
    subscripted slice false v u = operate [v, u] (getItem v u) → wpAny (model X.prog X.w) X.A (subscriptTail value slice v u) (EP X pins σ Q) X.xe s
/-- a call of a builtin's method by values: the receiver, the arguments -/
def MtR (X : Cx) (id : String) (r : V → List V → Hp → VK → Prop) : Prop :=
  ∀ (pins : List (Addr × Obj)) (s : Shared) (σ : St) (H : Hp) (x : V) (xs : List V) (v : Value) (us : List Value) (Q : VK), Inv X pins σ H s → RelV x v → Vals xs us → r x xs H Q →
    wpAny (model X.prog X.w) X.A (call (.builtin id) (v :: us)) (EP X pins σ Q) X.xe s
section
variable {X : Cx} {a b : Expr} {ta tb : TE} {pos : Pos}
theorem IxR.or {r r' : R2} (h : IxR X r) (h' : IxR X r') : IxR X (fun x y H Q => r x y H Q ∨ r' x y H Q) := by
  intro value slice pins s σ H x y v u Q I rx ry q hs
  rcases q with q | q
  · exact h value slice pins s σ H x y v u Q I rx ry q hs
  · exact h' value slice pins s σ H x y v u Q I rx ry q hs
theorem MtR.or {id : String} {r r' : V → List V → Hp → VK → Prop} (h : MtR X id r) (h' : MtR X id r') : MtR X id (fun x xs H Q => r x xs H Q ∨ r' x xs H Q) := by
  intro pins s σ H x xs v us Q I rx rs q
  rcases q with q | q
  · exact h pins s σ H x xs v us Q I rx rs q
  · exact h' pins s σ H x xs v us Q I rx rs q
/-- a[b] -/
theorem pe_ix {r : R2} (hr : IxR X r) (ha : PE X a ta) (hb : PE X b tb) (hs : PlainIx b) : PE X (.Subscript a b pos) (tOp r ta tb) := by
  intro pins s σ H Q I h
  exact Subscript_ (binT ha hb I h fun v u s2 x y H2 I2 rx ry q => hr a b pins s2 σ H2 x y v u Q I2 rx ry q (hs _ _))

def rIxL (K : PySem.W.Frag) : R2 := fun x y H Q => ∃ p xs i v, x = .ref p ∧ y = .int i ∧ SqL K H p xs ∧ atI xs i = some v ∧ Q v H
def rIxT (K : PySem.W.Frag) : R2 := fun x y H Q => ∃ p xs i v, x = .ref p ∧ y = .int i ∧ SqT K H p xs ∧ atI xs i = some v ∧ Q v H
def rIxS : R2 := fun x y H Q => ∃ z i c, x = .str z ∧ y = .int i ∧ z.length ≤ sizeLine ∧ atI z.cps.toList i = some c ∧ Q (.str ⟨#[c]⟩) H
theorem ix_list : IxR X (rIxL X.K) := by
  intro value slice pins s σ H x y v u Q I rx ry h hs
  obtain ⟨p, xs, i, z, rfl, rfl, hq, he, q⟩ := h
  cases rx
  obtain ⟨t, rfl⟩ := ry
  obtain ⟨its, r, pl, hz⟩ := I.list hq
  obtain ⟨j, h1, h2, h3, h4, h5⟩ := atI_get he
  obtain ⟨w, ew, rw'⟩ := r.get h2
  have hl := r.length
  have hn := line63
  have fin : EP X pins σ Q w s := ⟨z, H, I, rw', q⟩
  by_cases h0 : 0 ≤ i
  · have hj : i.toNat = j := by
      rw [seqIndex_of h0 h5] at h1
      exact Option.some.inj h1
    exact item_listR pl.isList h0 (by omega) (by rw [hj]; simpa using ew) fin hs
  · have hj : (i + (its.toArray.size : Int)).toNat = j := by
      rw [seqIndex_neg (by omega) h4] at h1
      rw [List.size_toArray, ← hl]
      exact Option.some.inj h1
    exact subscriptTail_builtinR (x := w) pl.isList.typeIs slot_list_getitem.lookup
      (wpAny_getItem_list_neg (Q := fun r s' => r = w ∧ EP X pins σ Q r s') pl.isList (by omega) (by rw [List.size_toArray] <;> omega) (by omega) (by rw [hj]; simpa using ew) ⟨rfl, fin⟩) hs
theorem ix_tup : IxR X (rIxT X.K) := by
  intro value slice pins s σ H x y v u Q I rx ry h hs
  obtain ⟨p, xs, i, z, rfl, rfl, hq, he, q⟩ := h
  cases rx
  obtain ⟨t, rfl⟩ := ry
  obtain ⟨its, r, pl, hz⟩ := I.tuple hq
  obtain ⟨j, h1, h2, h3, h4, h5⟩ := atI_get he
  obtain ⟨w, ew, rw'⟩ := r.get h2
  have hl := r.length
  have hn := line63
  have fin : EP X pins σ Q w s := ⟨z, H, I, rw', q⟩
  exact subscriptTail_builtinR (x := w) pl.typeIs slot_tuple_getitem.lookup
    (getItem_tuple (j := j) (Q := fun r s' => r = w ∧ EP X pins σ Q r s') pl (by omega) (by omega) (by rw [List.size_toArray, ← hl]; exact h1) (by simpa using ew) ⟨rfl, fin⟩) hs
theorem ix_str : IxR X rIxS := by
  intro value slice pins s σ H x y v u Q I rx ry h hs
  obtain ⟨z, i, c, rfl, rfl, hz, he, q⟩ := h
  obtain ⟨t, rfl⟩ := rx
  obtain ⟨t', rfl⟩ := ry
  obtain ⟨j, h1, h2, h3, h4, h5⟩ := atI_get he
  have hl : z.cps.toList.length = z.length := by simp [Str.length]
  rw [hl] at h1 h4 h5
  have hn := line63
  exact tail_any (typeIs_str s z t) slot_str_getitem.lookup (getItem_str (c := c) (by
    have e1 : decide (i < -(2 ^ 63 : Int)) = false := decide_eq_false (by omega)
    have e2 : decide (i ≥ 2 ^ 63) = false := decide_eq_false (by omega)
    rw [e1, e2, Bool.or_false]) (by rw [h1]; simpa using h2) ⟨.str ⟨#[c]⟩, H, I.tok _, ⟨_, rfl⟩, q⟩) hs
/-- list, tuple or str -/
def rIx (K : PySem.W.Frag) : R2 := fun x y H Q => rIxL K x y H Q ∨ rIxT K x y H Q ∨ rIxS x y H Q
theorem ix_seq : IxR X (rIx X.K) := ix_list.or (ix_tup.or ix_str)

/-! ### xs[i] = v, any sign -/
/-- the list's object behind a store -/
theorem mapSeq_set (its : List Value) (n j : Nat) (u : Value) : Obj.mapSeq (·.setIfInBounds j u) { cls := .type "list", data := .seq its.toArray n } = { cls := .type "list", data := .seq (its.set j u).toArray n } := by
  simp [Obj.mapSeq]
theorem Inv.lst {pins : List (Addr × Obj)} {σ : St} {H : Hp} {s : Shared} {p : Addr} {xs : List V} (I : Inv X pins σ H s) (h : H p = some (.lst xs)) :
    ∃ (its : List Value) (n : Nat), Vals xs its ∧ s.heap.get? p = some { cls := .type "list", data := .seq its.toArray n } ∧ xs.length ≤ sizeLine := by
  obtain ⟨z, its, n, r, e⟩ := I.hok p _ h
  exact ⟨its, n, r, e, z⟩
/-- the list at p is written by an update of its object -/
theorem Inv.lstUpd {pins : List (Addr × Obj)} {σ : St} {H : Hp} {s : Shared} {p : Addr} {xs ys : List V} {its its' : List Value} {n n' : Nat} {f : Obj → Obj} (I : Inv X pins σ H s) (h : H p = some (.lst xs))
    (ho : s.heap.get? p = some { cls := .type "list", data := .seq its.toArray n }) (hf : f { cls := .type "list", data := .seq its.toArray n } = { cls := .type "list", data := .seq its'.toArray n' }) (r : Vals ys its') (hz : ys.length ≤ sizeLine) (t : Nat) :
    Inv X pins σ (upd H p (.lst ys)) { s with heap := s.heap.update p f, toks := t } := by
  have e : (s.heap.update p f).get? p = some { cls := .type "list", data := .seq its'.toArray n' } := by
    rw [Heap.get?_update_self f ho (by rw [hf] <;> rfl), hf]
  refine I.write (x := p) (e := p) (by rw [h]; trivial) (.inl rfl) (fun b u hb q => (Heap.get?_update_other _ _ (Ne.symm hb)).trans q) ⟨_, e⟩ ?_
  exact ⟨hz, its', n', r, e⟩
def rSetL : V → V → V → Hp → (Hp → Prop) → Prop := fun o i v H Q => ∃ p xs k j, o = .ref p ∧ i = .int k ∧ H p = some (.lst xs) ∧ ixN xs.length k = some j ∧ Q (upd H p (.lst (xs.set j v)))
theorem set_list : PSet X rSetL := by
  intro pins s σ H o i v ov iv u Q I ro ri rv h
  obtain ⟨p, xs, k, j, rfl, rfl, hp, hj, q⟩ := h
  cases ro
  obtain ⟨t, rfl⟩ := ri
  obtain ⟨its, n, r, ho, hz⟩ := I.lst hp
  obtain ⟨h1, h2, h3, h4⟩ := ixN_seq hj
  have hl := r.length
  have hn := line63
  have I' : Inv X pins σ (upd H p (.lst (xs.set j v))) { s with heap := s.heap.update p (Obj.mapSeq (·.setIfInBounds j u)) } :=
    I.lstUpd hp ho (mapSeq_set its n j u) (r.set rv j) (by rw [List.length_set]; exact hz) s.toks
  by_cases h0 : 0 ≤ k
  · have hk : k.toNat = j := by
      rw [seqIndex_of h0 h4] at h1
      exact Option.some.inj h1
    exact PySem.W.ki_setAt ho h0 (by omega) (by rw [List.size_toArray, ← hl]; exact h4) (by rw [hk]; exact ⟨_, I', q⟩)
  · have hk : (k + (its.toArray.size : Int)).toNat = j := by
      rw [seqIndex_neg (by omega) h3] at h1
      rw [List.size_toArray, ← hl]
      exact Option.some.inj h1
    exact PySem.W.ki_setBack ho (by omega) (by rw [List.size_toArray, ← hl]; exact h3) (by omega) (by rw [hk]; exact ⟨_, I', q⟩)

/-! ### slices -/
theorem slice_bounds (lo hi : Option Int) (n : Nat) : (sliceBounds lo hi none n).1 = ((HT.sIx n 0 lo : Nat) : Int) ∧ (sliceBounds lo hi none n).2.1 = ((HT.sIx n n hi : Nat) : Int) ∧ (sliceBounds lo hi none n).2.2 = 1 := by
  refine ⟨?_, ?_, rfl⟩
  · cases lo with
    | none => simp [sliceBounds, HT.sIx]
    | some i =>
      simp only [sliceBounds, HT.sIx, Option.getD_none, show (1 : Int) > 0 by decide, if_true]
      by_cases h : i < 0
      · simp only [h, if_true] <;> omega
      · simp only [h, if_false] <;> omega
  · cases hi with
    | none => simp [sliceBounds, HT.sIx]
    | some i =>
      simp only [sliceBounds, HT.sIx, Option.getD_none, show (1 : Int) > 0 by decide, if_true]
      by_cases h : i < 0
      · simp only [h, if_true] <;> omega
      · simp only [h, if_false] <;> omega
theorem slicePick_cut (its : List Value) (lo hi : Option Int) : slicePick its.toArray lo hi none = ((its.drop (HT.sIx its.length 0 lo)).take (HT.sIx its.length its.length hi - HT.sIx its.length 0 lo)).toArray := by
  obtain ⟨h1, h2, h3⟩ := slice_bounds lo hi its.toArray.size
  unfold slicePick
  rw [h1, h2, h3]
  simp only [sliceRange_one, pick_run, List.size_toArray] <;> rfl
/-- xs[lo:hi] of a list: a new list -/
def rSlL (K : PySem.W.Frag) : V → Option Int → Option Int → Hp → VK → Prop := fun x lo hi H Q => ∃ a xs, x = .ref a ∧ SqL K H a xs ∧ ∀ p, H p = none → Q (.ref p) (upd H p (.lst (cutV xs lo hi)))
theorem sl_list : SlR X (rSlL X.K) := by
  intro pins s σ H x v vl vu lo hi sl Q I rx hs pl pu h
  obtain ⟨a, xs, rfl, hx, q⟩ := h
  cases rx
  obtain ⟨its, r, ht, hz⟩ := I.list hx
  have hlen := r.length
  refine ⟨"list", _, slot_list_getitem.lookup, ht.isList.typeIs, ?_⟩
  refine wpAny_getItem_list_slice ht.isList hs pl pu .none (by simp) ?_ (by rw [List.size_toArray] <;> omega)
  rw [slicePick_cut, ← hlen]
  refine ⟨.ref s.heap.objs.size, _, I.laid (t' := s.toks) (o := .lst (cutV xs lo hi)) (fun b ob q => Heap.get?_push_of_some _ q) (Nat.le_refl _) ?_, rfl, q _ (I.hok.fresh (Nat.le_refl _))⟩
  exact ⟨Nat.le_trans (cutV_length xs lo hi) hz, _, 0, (r.drop (HT.sIx xs.length 0 lo)).take (HT.sIx xs.length xs.length hi - HT.sIx xs.length 0 lo), Heap.get?_push_size _ rfl⟩

/-! ### in, not in: flat items -/
def flatV : V → Bool
  | .non => true
  | .bl _ => true
  | .int _ => true
  | .str _ => true
  | _ => false
/-- == of flat values -/
def eqV : V → V → Bool
  | .non, .non => true
  | .bl a, .bl b => a == b
  | .bl a, .int b => (if a then 1 else 0) == b
  | .int a, .bl b => a == (if b then 1 else 0)
  | .int a, .int b => a == b
  | .str a, .str b => a == b
  | _, _ => false
theorem eqAt_V {A : Around} {s : Shared} {y x : V} {u v : Value} (ry : RelV y u) (rx : RelV x v) (fy : flatV y = true) (fx : flatV x = true) : SeqAt.EqAt A s u v (eqV y x) := by
  cases y with
  | non =>
    cases ry
    cases x with
    | non => cases rx; exact SeqAt.EqAt.same _
    | bl b => cases rx; exact SeqAt.EqAt.none_bool b
    | int b => obtain ⟨t, rfl⟩ := rx; exact SeqAt.EqAt.none_int b t
    | str b => obtain ⟨t, rfl⟩ := rx; exact SeqAt.EqAt.none_str b t
    | _ => exact absurd (show false = true from fx) Bool.false_ne_true
  | bl a =>
    cases ry
    cases x with
    | non => cases rx; exact SeqAt.EqAt.bool_none a
    | bl b => cases rx; exact SeqAt.EqAt.bool_bool a b
    | int b => obtain ⟨t, rfl⟩ := rx; exact SeqAt.EqAt.bool_int a b t
    | str b => obtain ⟨t, rfl⟩ := rx; exact SeqAt.EqAt.bool_str a b t
    | _ => exact absurd (show false = true from fx) Bool.false_ne_true
  | int a =>
    obtain ⟨t', rfl⟩ := ry
    cases x with
    | non => cases rx; exact SeqAt.EqAt.int_none a t'
    | bl b => cases rx; exact SeqAt.EqAt.int_bool a t' b
    | int b => obtain ⟨t, rfl⟩ := rx; exact SeqAt.EqAt.int_int a t' b t
    | str b => obtain ⟨t, rfl⟩ := rx; exact SeqAt.EqAt.int_str a t' b t
    | _ => exact absurd (show false = true from fx) Bool.false_ne_true
  | str a =>
    obtain ⟨t', rfl⟩ := ry
    cases x with
    | non => cases rx; exact SeqAt.EqAt.str_none a t'
    | bl b => cases rx; exact SeqAt.EqAt.str_bool a t' b
    | int b => obtain ⟨t, rfl⟩ := rx; exact SeqAt.EqAt.str_int a t' b t
    | str b => obtain ⟨t, rfl⟩ := rx; exact SeqAt.EqAt.str_str a t' b t
    | _ => exact absurd (show false = true from fx) Bool.false_ne_true
  | _ => exact absurd (show false = true from fy) Bool.false_ne_true
/-- the items' answers, read off the values (a value's own answer does not lean on its token) -/
def eqU (x : V) (u : Value) : Bool := match u with
  | .none => eqV .non x
  | .bool b => eqV (.bl b) x
  | .int i _ => eqV (.int i) x
  | .str z _ => eqV (.str z) x
  | _ => false
theorem eqU_of {x y : V} {u : Value} (r : RelV y u) (f : flatV y = true) : eqU x u = eqV y x := by
  cases y with
  | non => cases r; rfl
  | bl b => cases r; rfl
  | int i => obtain ⟨t, rfl⟩ := r; rfl
  | str z => obtain ⟨t, rfl⟩ := r; rfl
  | _ => exact absurd (show false = true from f) Bool.false_ne_true
theorem any_eqU {x : V} : ∀ {xs : List V} {us : List Value}, Vals xs us → xs.all flatV = true → us.any (eqU x) = xs.any fun y => eqV y x
  | _, _, .nil, _ => rfl
  | y :: xs, u :: us, .cons r t, f => by
    rw [List.all_cons, Bool.and_eq_true] at f
    rw [List.any_cons, List.any_cons, eqU_of r f.1, any_eqU t f.2]
theorem mem_eqAt {A : Around} {s : Shared} {x : V} {v : Value} (rx : RelV x v) (fx : flatV x = true) : ∀ {xs : List V} {us : List Value}, Vals xs us → xs.all flatV = true → ∀ u ∈ us, SeqAt.EqAt A s u v (eqU x u)
  | _, _, .nil, _ => fun u hu => by cases hu
  | y :: xs, u :: us, .cons r t, f => fun u' hu => by
    rw [List.all_cons, Bool.and_eq_true] at f
    rcases List.mem_cons.mp hu with rfl | hu
    · rw [eqU_of r f.1]; exact eqAt_V r rx f.1 fx
    · exact mem_eqAt rx fx t f.2 u' hu
def inV (x : V) (xs : List V) : Bool := xs.any fun y => eqV y x
/-- x in a list or tuple of flat items -/
def rIn (K : PySem.W.Frag) (neg : Bool) : R2 := fun x y H Q => ∃ p xs, y = .ref p ∧ (SqL K H p xs ∨ SqT K H p xs) ∧ flatV x = true ∧ xs.all flatV = true ∧ Q (.bl (if neg then !inV x xs else inV x xs)) H
theorem op_in_seq : OpR X (compareOp .In) (rIn X.K false) := by
  intro pins s σ H x y v u Q I rx ry h
  obtain ⟨p, xs, rfl, hq, fx, fs, q⟩ := h
  cases ry
  rcases hq with hq | hq
  · obtain ⟨its, r, pl, hz⟩ := I.list hq
    refine SeqAt.in_listAt (eqU x) pl.isList (fun w hw => mem_eqAt rx fx r fs w (by simpa using hw)) ⟨.bl _, H, I, rfl, ?_⟩
    rw [show its.toArray.any (eqU x) = its.any (eqU x) by simp, any_eqU r fs]
    exact q
  · obtain ⟨its, r, pl, hz⟩ := I.tuple hq
    refine SeqAt.in_tupleAt (eqU x) pl (fun w hw => mem_eqAt rx fx r fs w (by simpa using hw)) ⟨.bl _, H, I, rfl, ?_⟩
    rw [show its.toArray.any (eqU x) = its.any (eqU x) by simp, any_eqU r fs]
    exact q
theorem op_notIn_seq : OpR X (compareOp .NotIn) (rIn X.K true) := by
  intro pins s σ H x y v u Q I rx ry h
  obtain ⟨p, xs, rfl, hq, fx, fs, q⟩ := h
  cases ry
  rcases hq with hq | hq
  · obtain ⟨its, r, pl, hz⟩ := I.list hq
    refine SeqAt.notIn_listAt (eqU x) pl.isList (fun w hw => mem_eqAt rx fx r fs w (by simpa using hw)) ⟨.bl _, H, I, rfl, ?_⟩
    rw [show its.toArray.any (eqU x) = its.any (eqU x) by simp, any_eqU r fs]
    exact q
  · obtain ⟨its, r, pl, hz⟩ := I.tuple hq
    refine SeqAt.notIn_tupleAt (eqU x) pl (fun w hw => mem_eqAt rx fx r fs w (by simpa using hw)) ⟨.bl _, H, I, rfl, ?_⟩
    rw [show its.toArray.any (eqU x) = its.any (eqU x) by simp, any_eqU r fs]
    exact q
theorem op_notIn_str : OpR X (compareOp .NotIn) (fun x y H Q => ∃ i j, x = .str i ∧ y = .str j ∧ Q (.bl (!(!(Builtin.Str.occurrences j i 0 j.length 1).isEmpty))) H) := by
  intro pins s σ H x y v u Q I rx ry h
  obtain ⟨i, j, rfl, rfl, q⟩ := h
  obtain ⟨t, rfl⟩ := rx
  obtain ⟨t', rfl⟩ := ry
  exact notIn_str ⟨.bl _, H, I, rfl, q⟩

/-! ### len, list(x), tuple(x) of any list or tuple that is read -/
theorem call_len_seq : CallR X (.builtin "len") (fun xs H Q => ∃ p ys, xs = [.ref p] ∧ (SqL X.K H p ys ∨ SqT X.K H p ys) ∧ Q (.int ys.length) H) := by
  intro pins s σ H xs us Q I r h
  obtain ⟨p, ys, rfl, hq, q⟩ := h
  obtain ⟨u, rfl, rx⟩ := vals1 r
  cases rx
  have hn := line63
  rcases hq with hq | hq
  · obtain ⟨its, r', pl, hz⟩ := I.list hq
    have hlen := r'.length
    exact Calls.call_len_list pl.isList (by simp only [List.size_toArray] <;> omega) ⟨.int ys.length, H, I.tok _, ⟨s.toks + 1, by rw [List.size_toArray, hlen]⟩, q⟩
  · obtain ⟨its, r', pl, hz⟩ := I.tuple hq
    have hlen := r'.length
    exact len_tuple pl (by simp only [List.size_toArray] <;> omega) ⟨.int ys.length, H, I.tok _, ⟨s.toks + 1, by rw [List.size_toArray, hlen]⟩, q⟩
theorem call_len_str : CallR X (.builtin "len") (fun xs H Q => ∃ z, xs = [.str z] ∧ z.length ≤ sizeLine ∧ Q (.int z.length) H) := by
  intro pins s σ H xs us Q I r h
  obtain ⟨z, rfl, hz, q⟩ := h
  obtain ⟨u, rfl, t, rfl⟩ := vals1 r
  have hn := line63
  exact len_str (by omega) ⟨.int z.length, H, I.tok _, ⟨_, rfl⟩, q⟩
theorem CallR.or {f : Value} {r r' : List V → Hp → VK → Prop} (h : CallR X f r) (h' : CallR X f r') : CallR X f (fun xs H Q => r xs H Q ∨ r' xs H Q) := by
  intro pins s σ H xs us Q I rs q
  rcases q with q | q
  · exact h pins s σ H xs us Q I rs q
  · exact h' pins s σ H xs us Q I rs q
theorem call_list_of : CallR X (.type "list") (fun xs H Q => ∃ p ys, xs = [.ref p] ∧ (SqL X.K H p ys ∨ SqT X.K H p ys) ∧ ∀ l, H l = none → Q (.ref l) (upd H l (.lst ys))) := by
  intro pins s σ H xs us Q I r h
  obtain ⟨p, ys, rfl, hq, q⟩ := h
  obtain ⟨u, rfl, rx⟩ := vals1 r
  cases rx
  have fin : ∀ (its : List Value), Vals ys its → ys.length ≤ sizeLine → ∀ (h' : Heap) (c' : Nat), (∀ b o', s.heap.get? b = some o' → h'.get? b = some o') →
      h'.get? s.heap.objs.size = some { cls := .type "list", dict := none, data := .seq its.toArray c', slots := #[] } → EP X pins σ Q (.ref s.heap.objs.size) { s with heap := h' } := fun its r' hz h' c' kp e =>
    ⟨.ref s.heap.objs.size, _, I.laid (t' := s.toks) kp (Nat.le_refl _) (show ObjOk X.prog X.w _ h' _ (.lst ys) from ⟨hz, its, c', r', e⟩), rfl, q _ (I.hok.fresh (Nat.le_refl _))⟩
  rcases hq with hq | hq
  · obtain ⟨its, r', pl, hz⟩ := I.list hq
    have hlen := r'.length
    obtain ⟨o, ho, hc, n, hd⟩ := pl.isList
    exact call_list_seq p (.inl rfl) ho hc hd (fun h' c' kp e => fin its r' hz h' c' kp e) (by simp only [List.size_toArray] <;> omega)
  · obtain ⟨its, r', pl, hz⟩ := I.tuple hq
    have hlen := r'.length
    obtain ⟨o, ho, hc, n, hd⟩ := pl
    exact call_list_seq p (.inr rfl) ho hc hd (fun h' c' kp e => fin its r' hz h' c' kp e) (by simp only [List.size_toArray] <;> omega)
theorem call_tuple_of : CallR X (.type "tuple") (fun xs H Q => ∃ p ys, xs = [.ref p] ∧ ((SqL X.K H p ys ∧ ∀ l, H l = none → Q (.ref l) (upd H l (.tup ys))) ∨ (SqT X.K H p ys ∧ Q (.ref p) H))) := by
  intro pins s σ H xs us Q I r h
  obtain ⟨p, ys, rfl, h⟩ := h
  obtain ⟨u, rfl, rx⟩ := vals1 r
  cases rx
  rcases h with ⟨hq, q⟩ | ⟨hq, q⟩
  · obtain ⟨its, r', pl, hz⟩ := I.list hq
    have hlen := r'.length
    refine call_tuple_list pl.isList (fun h' kp => ?_) (by simp only [List.size_toArray] <;> omega)
    have I1 : Inv X pins σ H { s with heap := h' } := I.kept (t' := s.toks) kp
    have I2 : Inv X pins σ (upd H h'.objs.size (.tup ys)) { s with heap := h'.push { cls := .type "tuple", data := .seq its.toArray } } :=
      I1.laid (t' := s.toks) (fun b o e => Heap.get?_push_of_some _ e) (Nat.le_refl _) (show ObjOk X.prog X.w _ _ _ (.tup ys) from ⟨hz, its, r', IsTup.new _ _⟩)
    exact ⟨.ref h'.objs.size, _, I2, rfl, q _ (I1.hok.fresh (Nat.le_refl _))⟩
  · obtain ⟨its, r', pl, hz⟩ := I.tuple hq
    exact call_tuple_same pl ⟨.ref p, H, I, rfl, q⟩

/-! ### the call of a builtin's method: o.m(..) -/
/-- the value is of that builtin type -/
def tyV (K : PySem.W.Frag) (T : String) (x : V) (H : Hp) : Prop := match x with
  | .str _ => T = "str"
  | .int _ => T = "int"
  | .ref p => (T = "list" ∧ ∃ xs, SqL K H p xs) ∨ (T = "tuple" ∧ ∃ o, K.lookup p = some o ∧ o.cls = .type "tuple" ∧ o.dict = none) ∨
      (T = "dict" ∧ ((∃ kvs, H p = some (.dK kvs)) ∨ ∃ kvs, H p = some (.dT kvs))) ∨ (T = "set" ∧ ∃ S n, H p = some (.set S n))
  | _ => False
theorem tyV_is {pins : List (Addr × Obj)} {σ : St} {H : Hp} {s : Shared} {T : String} {x : V} {v : Value} (I : Inv X pins σ H s) (r : RelV x v) (ty : tyV X.K T x H) :
    s.TypeIs v T ∧ ∀ a, v = .ref a → ∃ ob, s.heap.get? a = some ob ∧ ob.dict = none := by
  cases x with
  | str z =>
    obtain ⟨t, rfl⟩ := r
    cases (show T = "str" from ty)
    exact ⟨typeIs_str s z t, fun _ e => nomatch e⟩
  | int i =>
    obtain ⟨t, rfl⟩ := r
    cases (show T = "int" from ty)
    exact ⟨typeIs_int s i t, fun _ e => nomatch e⟩
  | ref p =>
    cases r
    rcases ty with ⟨rfl, xs, hq⟩ | ⟨rfl, o, hk, hc, hd⟩ | ⟨rfl, hk⟩ | ⟨rfl, S, n, hk⟩
    · obtain ⟨its, _, pl, _⟩ := I.list hq
      refine ⟨pl.isList.typeIs, fun a e => ?_⟩
      cases e
      obtain ⟨o, n, e, c, hd, _⟩ := pl
      exact ⟨o, e, hd⟩
    · refine ⟨⟨o, I.kIn p o hk, hc⟩, fun a e => ?_⟩
      cases e
      exact ⟨o, I.kIn _ o hk, hd⟩
    · have z : ∃ o, s.heap.get? p = some o ∧ o.ExactDict := by
        rcases hk with ⟨kvs, hk⟩ | ⟨kvs, hk⟩
        · obtain ⟨_, _, _, _, o, _, _, e, ex, _⟩ := I.hok p _ hk
          exact ⟨o, e, ex⟩
        · obtain ⟨_, _, _, _, o, _, _, e, ex, _⟩ := I.hok p _ hk
          exact ⟨o, e, ex⟩
      obtain ⟨o, e, ex⟩ := z
      refine ⟨⟨o, e, ex.1⟩, fun a e2 => ?_⟩
      cases e2
      exact ⟨o, e, ex.2.1⟩
    · obtain ⟨o, _, _, _, e, ex, _⟩ := I.hok p _ hk
      refine ⟨⟨o, e, ex.1⟩, fun a e2 => ?_⟩
      cases e2
      exact ⟨o, e, ex.2.1⟩
  | _ => exact False.elim ty
def tBM0 (K : PySem.W.Frag) (T : String) (r : V → List V → Hp → VK → Prop) (to : TE) : TE := fun σ H Q => to σ H fun x H1 => tyV K T x H1 ∧ r x [] H1 Q
def tBM (K : PySem.W.Frag) (T : String) (r : V → List V → Hp → VK → Prop) (to : TE) (t : TA) : TE := fun σ H Q => to σ H fun x H1 => tyV K T x H1 ∧ t σ H1 fun xs H2 => r x xs H2 Q
variable {o e : Expr} {es : List Expr} {to : TE} {t : TA} {name : Str} {apos cpos : Pos} {T id : String} {r : V → List V → Hp → VK → Prop}
theorem pe_bm0 (pa : PlainAttrs T) (slot : Slot T name id) (hty : typeOf (.builtin id) = pure (.type "method_descriptor")) (hm : MtR X id r) (ho : PE X o to)
    (hbase : attributeBase o name X.env (eval o X.env) = eval o X.env := by rfl) (hline : (apos.endLine == cpos.line) = true := by rfl) : PE X (.Call (.Attribute o name apos) [] [] cpos) (tBM0 X.K T r to) := by
  intro pins s σ H Q I h
  refine wpAny_Call_method0_late hbase hline (thn (ho pins s σ H _ I h) fun v s1 ⟨x, H1, I1, r1, ty, q1⟩ => ?_)
  obtain ⟨h1, h2⟩ := tyV_is I1 r1 ty
  exact ⟨T, id, pa, slot, hty, h1, h2, Calls.callWith_builtin rfl (PySem.evalArgs_none (hm pins s1 σ H1 x [] v [] Q I1 r1 .nil q1))⟩
theorem pe_bm (pa : PlainAttrs T) (slot : Slot T name id) (hty : typeOf (.builtin id) = pure (.type "method_descriptor")) (hm : MtR X id r) (ho : PE X o to) (ha : PA X (e :: es) t)
    (hbase : attributeBase o name X.env (eval o X.env) = eval o X.env := by rfl)
    (hfew : ((backTo cpos (starEach (e :: es) X.env)).all (fun x => !x.1) && (backToKw cpos (keywordEach [] X.env)).all (fun x => x.1.isSome)
      && decide ((e :: es).length + ([] : List Keyword).length + (if ([] : List Keyword).isEmpty then 0 else 1) < 30)) = true := by rfl)
    (hline : (apos.endLine == cpos.line) = true := by rfl) (hs : starEach (e :: es) X.env = (false, eval e X.env) :: starEach es X.env := by rfl) (hplain : (backTo cpos (starEach es X.env)).any (·.1) = false := by rfl) :
    PE X (.Call (.Attribute o name apos) (e :: es) [] cpos) (tBM X.K T r to t) := by
  intro pins s σ H Q I h
  refine wpAny_Call_method_late hbase hfew hline rfl (thn (ho pins s σ H _ I h) fun v s1 ⟨x, H1, I1, r1, ty, q1⟩ => ?_)
  obtain ⟨h1, h2⟩ := tyV_is I1 r1 ty
  refine ⟨T, id, pa, slot, hty, h1, h2, ?_⟩
  have hA := ha cpos pins s1 σ H1 _ I1 q1
  rw [hs] at hA ⊢
  refine Calls.callWith_builtin (by show (false || (backTo cpos (starEach es X.env)).any (·.1)) = false; rw [hplain] <;> rfl) (Calls.evalArgs_plain ?_)
  exact thn hA fun us s2 ⟨vs, H2, I2, r2, q2⟩ => hm pins s2 σ H2 x vs v us Q I2 r1 r2 q2
/- xs.append(e), list.index on a module's tuple .. are MtR facts of 06m -/
end
end L2

namespace L2
open PySem PySem.Spec PyProof.Rows

def MtM (X : Cx) (id : String) (r : V → List V → Hp → VK → Prop) : Prop :=
  ∀ (pins : List (Addr × Obj)) (s : Shared) (σ : St) (H : Hp) (x : V) (xs : List V) (v : Value) (us : List Value) (Q : VK), Inv X pins σ H s → RelV x v → Vals xs us → r x xs H Q →
    wpAny (model X.prog X.w) X.A (call (.builtin id) (v :: us)) (EP X pins σ Q) X.xe s

/-! ### lists of values -/
theorem Vals.one : ∀ {x : V} {us : List Value}, Vals [x] us → ∃ u, us = [u] ∧ RelV x u
  | _, _, .cons r .nil => ⟨_, rfl, r⟩
theorem Vals.two : ∀ {x y : V} {us : List Value}, Vals [x, y] us → ∃ u v, us = [u, v] ∧ RelV x u ∧ RelV y v
  | _, _, _, .cons r (.cons q .nil) => ⟨_, _, rfl, r, q⟩
theorem Vals.zero : ∀ {us : List Value}, Vals [] us → us = []
  | _, .nil => rfl
theorem Vals.dropLast {xs : List V} {us : List Value} (h : Vals xs us) : Vals xs.dropLast us.dropLast := by
  induction h with
  | nil => exact .nil
  | cons r t ih =>
    cases t with
    | nil => exact .nil
    | cons q t' => exact .cons r ih
theorem Vals.eraseIdx : ∀ {xs : List V} {us : List Value} (i : Nat), Vals xs us → Vals (xs.eraseIdx i) (us.eraseIdx i)
  | _, _, _, .nil => .nil
  | _, _, 0, .cons _ t => t
  | _, _, i + 1, .cons r t => .cons r (Vals.eraseIdx i t)
theorem Vals.reverse {xs : List V} {us : List Value} (h : Vals xs us) : Vals xs.reverse us.reverse := by
  induction h with
  | nil => exact .nil
  | cons r t ih => rw [List.reverse_cons, List.reverse_cons]; exact Vals.append ih (.cons r .nil)
theorem Vals.rep {xs : List V} {us : List Value} (h : Vals xs us) : ∀ k : Nat, Vals (List.replicate k xs).flatten (List.replicate k us).flatten
  | 0 => .nil
  | k + 1 => by
    rw [List.replicate_succ, List.replicate_succ, List.flatten_cons, List.flatten_cons]
    exact Vals.append h (Vals.rep h k)
theorem erase_last {α : Type} (l : List α) : l.eraseIdx (l.length - 1) = l.dropLast := by
  induction l with
  | nil => rfl
  | cons a r ih =>
    cases r with
    | nil => rfl
    | cons b r =>
      have e : (a :: b :: r).length - 1 = ((b :: r).length - 1) + 1 := by
        have h1 : (a :: b :: r).length = r.length + 2 := rfl
        have h2 : (b :: r).length = r.length + 1 := rfl
        omega
      rw [e, List.eraseIdx_cons_succ, ih]
      all_goals rfl
theorem len_erase {α : Type} : ∀ (l : List α) (i : Nat), (l.eraseIdx i).length ≤ l.length
  | [], _ => Nat.le_refl _
  | _ :: _, 0 => Nat.le_succ _
  | _ :: r, i + 1 => Nat.succ_le_succ (len_erase r i)
theorem foldl_rep (its : List Value) : ∀ (k : Nat) (acc : List Value),
    List.foldl (fun x1 x2 => x1 ++ x2) acc.toArray (List.replicate k its.toArray) = (acc ++ (List.replicate k its).flatten).toArray
  | 0, acc => by simp
  | k + 1, acc => by
    have e : acc.toArray ++ its.toArray = (acc ++ its).toArray := by simp
    have e2 : (acc ++ its) ++ (List.replicate k its).flatten = acc ++ (List.replicate (k + 1) its).flatten := by
      rw [List.replicate_succ, List.flatten_cons, List.append_assoc]
    rw [← e2, ← foldl_rep its k (acc ++ its), ← e, List.replicate_succ, List.foldl_cons]

section
variable {X : Cx} {pins : List (Addr × Obj)} {σ : St} {H : Hp} {s : Shared} {l b : Addr} {xs ys zs : List V}

/-! ### the two steps: a tracked list is rewritten, a new list is laid -/
theorem Inv.lset {its its' : List Value} {n : Nat} {f : Array Value → Array Value} {t' : Nat} (I : Inv X pins σ H s) (hH : H l = some (.lst xs))
    (e : s.heap.get? l = some { cls := .type "list", data := .seq its.toArray n }) (hf : f its.toArray = its'.toArray) (hv : Vals ys its') (hz : ys.length ≤ sizeLine) :
    Inv X pins σ (upd H l (.lst ys)) { s with heap := s.heap.update l (Obj.mapSeq f), toks := t' } := by
  have q := PySem.IsL.update e f
  rw [hf] at q
  refine I.write (x := l) (e := l) (by rw [hH]; exact trivial) (.inl rfl) (fun b' u hb hu => (Heap.get?_update_other s.heap (Obj.mapSeq f) (Ne.symm hb)).trans hu) ⟨_, q⟩ ?_
  exact ⟨hz, its', _, hv, q⟩
theorem Inv.lnew {its : List Value} {t' : Nat} (I : Inv X pins σ H s) (hv : Vals ys its) (hz : ys.length ≤ sizeLine) :
    Inv X pins σ (upd H s.heap.objs.size (.lst ys)) { s with heap := s.heap.push { cls := .type "list", data := .seq its.toArray }, toks := t' } :=
  I.laid (fun _ _ q => Heap.get?_push_of_some _ q) (Nat.le_refl _) ⟨hz, its, 0, hv, Heap.get?_push_size _ rfl⟩
theorem Inv.fresh (I : Inv X pins σ H s) : H s.heap.objs.size = none := I.hok.fresh (Nat.le_refl _)
theorem Inv.lstM (I : Inv X pins σ H s) (hH : H l = some (.lst xs)) : xs.length ≤ sizeLine ∧ ∃ (its : List Value) (n : Nat), Vals xs its ∧ xs.length = its.length ∧ s.heap.get? l = some { cls := .type "list", data := .seq its.toArray n } := by
  obtain ⟨z, its, n, r, e⟩ := I.hok l _ hH
  exact ⟨z, its, n, r, r.length, e⟩

theorem notLongL {n : Nat} (h : n ≤ sizeLine) : Builtin.List.listTooLong n = false := by
  unfold Builtin.List.listTooLong
  exact decide_eq_false (by omega)
end

section
variable {X : Cx}

/-! ### methods -/
def rAppend : V → List V → Hp → VK → Prop := fun x vs H Q => ∃ l xs y, x = .ref l ∧ vs = [y] ∧ H l = some (.lst xs) ∧ xs.length < sizeLine ∧ Q .non (upd H l (.lst (xs ++ [y])))
theorem mt_append : MtM X "list.append" rAppend := by
  intro pins s σ H x vs v us Q I rx rv h
  obtain ⟨l, xs, y, rfl, rfl, hH, hz, q⟩ := h
  cases rx
  obtain ⟨u, rfl, ru⟩ := rv.one
  obtain ⟨z, its, n, r, hl, e⟩ := I.lstM hH
  refine call_meets F.slot_list_append ⟨_, e, rfl⟩ F.entry_list_append (F.args_list_append_2 _ _) (PySem.list_append l its.toArray n u (by rw [List.size_toArray]; omega)) ⟨e, ?_⟩
  refine ⟨.non, _, I.lset (its' := its ++ [u]) hH e (by simp) (r.append (.cons ru .nil)) ?_, rfl, q⟩
  rw [List.length_append, List.length_singleton]
  omega

def rExtend : V → List V → Hp → VK → Prop := fun x vs H Q => ∃ l b xs zs, x = .ref l ∧ vs = [.ref b] ∧ H l = some (.lst xs) ∧ H b = some (.lst zs) ∧ xs.length + zs.length ≤ sizeLine ∧ Q .non (upd H l (.lst (xs ++ zs)))
theorem mt_extend : MtM X "list.extend" rExtend := by
  intro pins s σ H x vs v us Q I rx rv h
  obtain ⟨l, b, xs, zs, rfl, rfl, hH, hB, hz, q⟩ := h
  cases rx
  obtain ⟨u, rfl, ru⟩ := rv.one
  cases ru
  obtain ⟨z, its, n, r, hl, e⟩ := I.lstM hH
  obtain ⟨z2, its2, n2, r2, hl2, e2⟩ := I.lstM hB
  have hsz : its.toArray.size + its2.toArray.size ≤ sizeLine := by rw [List.size_toArray, List.size_toArray]; omega
  have hlong : ¬ (!its.toArray.isEmpty && Builtin.List.listTooLong (its.toArray.size + its2.toArray.size)) = true := by
    rw [notLongL hsz, Bool.and_false]
    exact Bool.false_ne_true
  refine call_meets F.slot_list_extend ⟨_, e, rfl⟩ F.entry_list_extend (F.args_list_extend_2 _ _)
    (AutoSeq1.list_extend_list_list_0 l its.toArray n b its2.toArray n2 hlong (by rw [List.size_toArray]; omega) (by omega)) ⟨e, e2, ?_⟩
  refine ⟨.non, _, I.lset (its' := its ++ its2) hH e (by simp) (r.append r2) ?_, rfl, q⟩
  rw [List.length_append]
  omega

def rPop : V → List V → Hp → VK → Prop := fun x vs H Q => ∃ l xs y, x = .ref l ∧ vs = [] ∧ H l = some (.lst xs) ∧ xs[xs.length - 1]? = some y ∧ Q y (upd H l (.lst xs.dropLast))
theorem mt_pop : MtM X "list.pop" rPop := by
  intro pins s σ H x vs v us Q I rx rv h
  obtain ⟨l, xs, y, rfl, rfl, hH, hy, q⟩ := h
  cases rx
  have hus := rv.zero
  subst hus
  obtain ⟨z, its, n, r, hl, e⟩ := I.lstM hH
  obtain ⟨u, hu, ru⟩ := r.get hy
  have hy' : its.toArray[its.toArray.size - 1]? = some u := by
    show its.toArray[its.length - 1]? = some u
    rw [← Array.getElem?_toList, ← hl]
    exact hu
  refine call_meets F.slot_list_pop ⟨_, e, rfl⟩ F.entry_list_pop (F.args_list_pop_1 _) (MeetsSeq.list_pop_last l its.toArray n u hy' (by rw [List.size_toArray]; omega)) ⟨e, ?_⟩
  refine ⟨y, _, I.lset (its' := its.dropLast) hH e ?_ r.dropLast ?_, ru, q⟩
  · show its.toArray.eraseIdxIfInBounds (its.toArray.size - 1) = its.dropLast.toArray
    rw [List.size_toArray, List.eraseIdxIfInBounds_toArray, erase_last]
  · rw [List.length_dropLast]
    omega

def rPopAt : V → List V → Hp → VK → Prop := fun x vs H Q => ∃ l xs i k y, x = .ref l ∧ vs = [.int i] ∧ H l = some (.lst xs) ∧ -(2 ^ 63) ≤ i ∧ i < 2 ^ 63 ∧ seqIndex? i xs.length = some k ∧ xs[k]? = some y ∧ Q y (upd H l (.lst (xs.eraseIdx k)))
theorem mt_popAt : MtM X "list.pop" rPopAt := by
  intro pins s σ H x vs v us Q I rx rv h
  obtain ⟨l, xs, i, k, y, rfl, rfl, hH, h1, h2, hk, hy, q⟩ := h
  cases rx
  obtain ⟨u, rfl, ru⟩ := rv.one
  obtain ⟨t, rfl⟩ := ru
  obtain ⟨z, its, n, r, hl, e⟩ := I.lstM hH
  obtain ⟨w, hw, rw'⟩ := r.get hy
  refine call_meets F.slot_list_pop ⟨_, e, rfl⟩ F.entry_list_pop (F.args_list_pop_2 _ _)
    (MeetsSeq.list_pop_at l its.toArray n i t k w (fitsIndex_both h1 h2) (by rw [List.size_toArray, ← hl]; exact hk) (by rw [← Array.getElem?_toList]; exact hw) (by rw [List.size_toArray]; omega)) ⟨e, ?_⟩
  refine ⟨y, _, I.lset (its' := its.eraseIdx k) hH e ?_ (r.eraseIdx k) ?_, rw', q⟩
  · show its.toArray.eraseIdxIfInBounds k = (its.eraseIdx k).toArray
    rw [List.eraseIdxIfInBounds_toArray]
  · have := len_erase xs k
    omega

def rReverse : V → List V → Hp → VK → Prop := fun x vs H Q => ∃ l xs, x = .ref l ∧ vs = [] ∧ H l = some (.lst xs) ∧ Q .non (upd H l (.lst xs.reverse))
theorem mt_reverse : MtM X "list.reverse" rReverse := by
  intro pins s σ H x vs v us Q I rx rv h
  obtain ⟨l, xs, rfl, rfl, hH, q⟩ := h
  cases rx
  have hus := rv.zero
  subst hus
  obtain ⟨z, its, n, r, hl, e⟩ := I.lstM hH
  refine call_meets F.slot_list_reverse ⟨_, e, rfl⟩ F.entry_list_reverse (F.args_list_reverse_1 _) (AutoSeq1.list_reverse_list_0 l its.toArray n (by rw [List.size_toArray]; omega)) ⟨e, ?_⟩
  refine ⟨.non, _, I.lset (its' := its.reverse) hH e (by simp) r.reverse ?_, rfl, q⟩
  rw [List.length_reverse]
  omega

def rClear : V → List V → Hp → VK → Prop := fun x vs H Q => ∃ l xs, x = .ref l ∧ vs = [] ∧ H l = some (.lst xs) ∧ Q .non (upd H l (.lst []))
theorem mt_clear : MtM X "list.clear" rClear := by
  intro pins s σ H x vs v us Q I rx rv h
  obtain ⟨l, xs, rfl, rfl, hH, q⟩ := h
  cases rx
  have hus := rv.zero
  subst hus
  obtain ⟨z, its, n, r, hl, e⟩ := I.lstM hH
  refine call_meets F.slot_list_clear ⟨_, e, rfl⟩ F.entry_list_clear (F.args_list_clear_1 _) (AutoSeq1.list_clear_list_0 l its.toArray n (by rw [List.size_toArray]; omega)) ⟨e, ?_⟩
  exact ⟨.non, _, I.lset (its' := []) (ys := []) hH e rfl .nil (Nat.zero_le _), rfl, q⟩

/-! ### list + list, list += list, list * int -/
def rCat : R2 := fun x y H Q => ∃ l b xs zs, x = .ref l ∧ y = .ref b ∧ H l = some (.lst xs) ∧ H b = some (.lst zs) ∧ xs.length + zs.length ≤ sizeLine ∧ ∀ p, H p = none → Q (.ref p) (upd H p (.lst (xs ++ zs)))
theorem op_cat : OpR X (binaryOp .Add) rCat := by
  intro pins s σ H x y v u Q I rx ry h
  obtain ⟨l, b, xs, zs, rfl, rfl, hH, hB, hz, q⟩ := h
  cases rx
  cases ry
  obtain ⟨z, its, n, r, hl, e⟩ := I.lstM hH
  obtain ⟨z2, its2, n2, r2, hl2, e2⟩ := I.lstM hB
  refine PySem.P.add_list e e2 ?_ (by rw [List.size_toArray, List.size_toArray]; omega)
  have ea : its.toArray ++ its2.toArray = (its ++ its2).toArray := by simp
  rw [ea]
  exact ⟨.ref _, _, I.lnew (t' := s.toks) (r.append r2) (by rw [List.length_append]; omega), rfl, q _ I.fresh⟩
/-- a list times an int (a negative one is nothing) -/
def rRep : R2 := fun x y H Q => ∃ l k xs, x = .ref l ∧ y = .int k ∧ H l = some (.lst xs) ∧ -(2 ^ 63) ≤ k ∧ k < 2 ^ 63 ∧ xs.length * k.toNat ≤ sizeLine ∧
  ∀ p, H p = none → Q (.ref p) (upd H p (.lst (List.replicate k.toNat xs).flatten))
theorem len_rep {α : Type} (xs : List α) (k : Nat) : (List.replicate k xs).flatten.length = k * xs.length := by
  induction k with
  | zero => simp
  | succ k ih => rw [List.replicate_succ, List.flatten_cons, List.length_append, ih, Nat.succ_mul, Nat.add_comm]
theorem op_rep : OpR X (binaryOp .Mult) rRep := by
  intro pins s σ H x y v u Q I rx ry h
  obtain ⟨l, k, xs, rfl, rfl, hH, h1, h2, hz, q⟩ := h
  cases rx
  obtain ⟨t, rfl⟩ := ry
  obtain ⟨z, its, n, r, hl, e⟩ := I.lstM hH
  have hlen : its.toArray.size * k.toNat ≤ sizeLine := by rw [List.size_toArray, ← hl]; exact hz
  have hcap : ¬ its.toArray.size * k.toNat > (2 ^ 63 - 1) / 8 := by
    have : (sizeLine : Nat) ≤ (2 ^ 63 - 1) / 8 := by decide
    omega
  have hfit : ¬ (!Builtin.List.listFitsIndex k) = true := by
    rw [fitsIndex_both h1 h2]
    exact Bool.false_ne_true
  have hlong : ¬ Builtin.List.listTooLong (its.toArray.size * k.toNat) = true := by
    rw [notLongL hlen]
    exact Bool.false_ne_true
  have hnew : List.foldl (fun x1 x2 => x1 ++ x2) #[] (List.replicate (if its.toArray.isEmpty = true then 0 else k.toNat) its.toArray) = (List.replicate k.toNat its).flatten.toArray := by
    have f0 : ∀ m : Nat, List.foldl (fun x1 x2 => x1 ++ x2) #[] (List.replicate m its.toArray) = (List.replicate m its).flatten.toArray := fun m => by
      have := foldl_rep its m []
      rw [List.nil_append] at this
      exact this
    rw [f0]
    cases its with
    | nil => simp
    | cons a r' => rw [if_neg (by simp)]
  refine wpAny_binaryOp_repeat_ref (T := "list") (U := "int") (by decide) ⟨_, e, rfl⟩ (fun s' => typeIs_int s' k t) noFill_list_mul F.fills_int_mul F.slot_int_rmul repeat_list F.slot_int_index.lookup
    (call_meets F.slot_int_rmul (typeIs_int s k t) F.entry_int_rmul (F.args_int_rmul_2 _ _) (int___rmul___int_list k t l its.toArray n)
      ⟨e, rfl, ⟨_, e, rfl⟩, call_meets F.slot_list_mul ⟨_, e, rfl⟩ F.entry_list_mul (F.args_list_mul_2 _ _) (AutoListH.list___mul___list_int_3 l its.toArray n k t hfit hcap hlong) ⟨e, ?_⟩⟩)
  rw [hnew]
  exact ⟨.ref _, _, I.lnew (t' := s.toks) (r.rep k.toNat) (by rw [len_rep, Nat.mul_comm]; exact hz), rfl, q _ I.fresh⟩

/-! ### del xs[i] -/
theorem del_list {pins : List (Addr × Obj)} {s : Shared} {σ : St} {H : Hp} {l : Addr} {xs : List V} {i : Int} {t : Tok} {k : Nat} {Q : Unit → Shared → Prop} (I : Inv X pins σ H s) (hH : H l = some (.lst xs))
    (h1 : -(2 ^ 63) ≤ i) (h2 : i < 2 ^ 63) (hk : seqIndex? i xs.length = some k) (h : ∀ s', Inv X pins σ (upd H l (.lst (xs.eraseIdx k))) s' → Q () s') :
    wpAny (model X.prog X.w) X.A (delItem (.ref l) (.int i t)) Q X.xe s := by
  obtain ⟨z, its, n, r, hl, e⟩ := I.lstM hH
  refine PySem.P.delItem_list (k := k) e (fitsIndex_both h1 h2) (by rw [List.size_toArray, ← hl]; exact hk) (h _ ?_) (by rw [List.size_toArray]; omega)
  refine I.lset (its' := its.eraseIdx k) (t' := s.toks) hH e ?_ (r.eraseIdx k) ?_
  · show its.toArray.eraseIdxIfInBounds k = (its.eraseIdx k).toArray
    rw [List.eraseIdxIfInBounds_toArray]
  · have := len_erase xs k
    omega
end

/-! ### xs[a:b] = ys -/
section
variable {prog : Program} {w : World} {A : Around} {E : Value → Shared → Prop} {s : Shared}
theorem splice_eq (its its2 : List Value) (a c : Nat) : its.toArray.extract 0 a ++ its2.toArray ++ its.toArray.extract c its.toArray.size = (its.take a ++ its2 ++ its.drop c).toArray := by
  apply Array.toList_inj.mp
  first
    | (simp
       exact List.take_of_length_le (by simp))
    | simp [List.take_of_length_le]
    | simp
theorem bounds_run {a c n : Nat} (hac : a ≤ c) (hc : c ≤ n) : sliceBounds (some (a : Int)) (some (c : Int)) none n = ((a : Int), (c : Int), 1) := by
  simp only [sliceBounds, Option.getD_none]
  have h1 : ¬ ((a : Int) < 0) := by omega
  have h2 : ¬ ((c : Int) < 0) := by omega
  simp only [h1, h2, if_false, show (1 : Int) > 0 by decide, if_true]
  congr 1
  · omega
  · congr 1; omega
set_option maxRecDepth 100000 in
/-- list.__setitem__ with a slice of step one and another list -/
theorem setItem_slice {l b sl : Addr} {items new : Array Value} {n n2 : Nat} {vl vu : Value} {a c : Nat} {Q : Unit → Shared → Prop}
    (e : s.heap.get? l = some { cls := .type "list", data := .seq items n }) (e2 : s.heap.get? b = some { cls := .type "list", data := .seq new n2 }) (hne : l ≠ b)
    (hs : s.heap.IsSliceOf sl vl vu .none) (pl : IsPart vl (some (a : Int))) (pu : IsPart vu (some (c : Int))) (hac : a ≤ c) (hc : c ≤ items.size)
    (hsz : items.size + new.size ≤ sizeLine) (h : Q () { s with heap := s.heap.update l (Obj.mapSeq fun xs => xs.extract 0 a ++ new ++ xs.extract c xs.size) }) :
    wpAny (model prog w) A (setItem (.ref l) (.ref sl) (.ref b)) Q E s := by
  have hl : s.heap.IsList l items := PySem.IsL.isList e
  have hb : s.heap.IsList b new := PySem.IsL.isList e2
  obtain ⟨os, hos, hcs, hds⟩ := id hs
  have hTs : s.TypeIs (.ref sl) "slice" := ⟨os, hos, hcs⟩
  have hstep : ¬ ((rawPart none == rawInt 0) = true) := Bool.false_ne_true
  have hsame : Builtin.List.listSameRef (.ref l) (.ref b) = false := by
    unfold Builtin.List.listSameRef
    exact beq_eq_false_iff_ne.mpr hne
  have hmax : (max (a : Int) (c : Int)).toNat = c := by omega
  have hz' : ((fun xs : Array Value => xs.extract 0 a ++ new ++ xs.extract c xs.size) items).size ≤ sizeLine + 1 := by
    simp only [Array.size_append, Array.size_extract]
    omega
  unfold setItem
  try with_reducible refine wpAny_holding ?_
  first | refine wpAny_bind (wpAny_pure ?_) | skip
  refine wpAny_bind (wpAny_sequenceKey hl.typeIs (by decide) ?_)
  refine wpAny_bind (wpAny_callSpecial?_slot (name := Str.ofString "__setitem__") hl.typeIs slot_list_setitem
    (wpAny_call_entry slot_list_setitem hl.typeIs entry_list_setitem ?_ (args_list_setitem _ _ _)))
  show wpAny _ _ (Builtin.List.listSubscript? (.ref sl) >>= _) _ _ s
  refine wpAny_bind ?_
  unfold Builtin.List.listSubscript?
  refine wpAny_bind (wpAny_specialOf hTs slice_no_index ?_)
  simp only [Option.isNone_none, if_true]
  refine wpAny_pure ?_
  show wpAny _ _ (typeOf (.ref sl) >>= _) _ _ s
  refine wpAny_bind (wpAny_typeOf hTs ?_)
  first
    | rw [if_neg (by decide)]
    | refine PySem.W.KFB.if_not (by decide) ?_
  rw [listSliceParts_eq]
  refine wpAny_bind (wpAny_bind (wpAny_field hos hds (x := .none) rfl (wpAny_bind (wpAny_listPart .none ?_))))
  rw [if_neg hstep]
  refine wpAny_bind (wpAny_field hos hds (x := vl) rfl (wpAny_bind (wpAny_listPart pl ?_)))
  refine wpAny_bind (wpAny_field hos hds (x := vu) rfl (wpAny_bind (wpAny_listPart pu (wpAny_pure ?_))))
  first
    | simp only [hsame, Bool.false_eq_true, if_false]
    | refine PySem.W.KFB.if_not hsame ?_
    | (dsimp only
       rw [if_neg (by rw [hsame]; exact Bool.false_ne_true)])
  refine wpAny_bind (m := Builtin.List.listAllItems (.ref b) "must assign iterable to extended slice") ?_
  unfold Builtin.List.listAllItems
  refine wpAny_bind (wpAny_typeOf hb.typeIs ?_)
  first
    | refine PySem.W.KFB.if_so (by decide) ?_
    | rw [if_pos (by decide)]
    | simp only [beq_self_eq_true, Bool.true_or, if_true]
  unfold Builtin.List.listItems
  refine wpAny_bind (wpAny_seqItems e2 rfl (wpAny_pure ?_))
  refine wpAny_bind (wpAny_bind (wpAny_seqItems e rfl (wpAny_pure ?_)))
  refine wpAny_bind (wpAny_of_eq ((sliceIndices_raw (some (a : Int)) (some (c : Int)) none items.size (by simp)).trans (congrArg (pure : Int × Int × Int → Sem (Int × Int × Int)) (bounds_run hac hc))) ?_)
  show wpAny _ _ (if ((1 : Int) == 1) = true then _ else _) _ _ s
  rw [if_pos (by decide)]
  refine wpAny_bind (wpAny_rule ?_)
  first
    | simp only [notLongL hsz, Bool.false_eq_true, if_false]
    | refine PySem.W.KFB.if_not (notLongL hsz) ?_
  first | refine wpAny_bind (wpAny_pure ?_) | skip
  show wpAny _ _ (updateSeq l (fun xs => xs.extract 0 ((a : Int)).toNat ++ new ++ xs.extract (max (a : Int) (c : Int)).toNat xs.size) >>= _) _ _ s
  rw [hmax, Int.toNat_natCast]
  refine wpAny_bind (wpAny_updateSeq (hz := Nat.le_trans (Nat.le_add_right _ _) hsz) (_hz' := hz') e rfl ?_)
  refine wpAny_bind (wpAny_letGo ?_)
  first
    | exact wpAny_bind (wpAny_pure (wpAny_pure ⟨.none, rfl, wpAny_pure h⟩))
    | exact wpAny_pure ⟨.none, rfl, wpAny_pure h⟩
end

section
variable {X : Cx}
/-- xs[a:c] = ys of another list, at the value level: sl is the slice object that was just made -/
theorem set_slice {pins : List (Addr × Obj)} {s : Shared} {σ : St} {H : Hp} {l b sl : Addr} {xs ys : List V} {a c : Int} {vl vu : Value} {Q : Unit → Shared → Prop} (I : Inv X pins σ H s)
    (hH : H l = some (.lst xs)) (hB : H b = some (.lst ys)) (hne : l ≠ b) (hs : s.heap.IsSliceOf sl vl vu .none) (ra : RelV (.int a) vl) (rc : RelV (.int c) vu) (h0 : 0 ≤ a) (hac : a ≤ c) (hc : c ≤ xs.length)
    (hz : xs.length + ys.length ≤ sizeLine) (h : ∀ s', Inv X pins σ (upd H l (.lst (xs.take a.toNat ++ ys ++ xs.drop c.toNat))) s' → Q () s') :
    wpAny (model X.prog X.w) X.A (setItem (.ref l) (.ref sl) (.ref b)) Q X.xe s := by
  obtain ⟨ta, rfl⟩ := ra
  obtain ⟨tc, rfl⟩ := rc
  obtain ⟨z, its, n, r, hl, e⟩ := I.lstM hH
  obtain ⟨z2, its2, n2, r2, hl2, e2⟩ := I.lstM hB
  obtain ⟨a', rfl⟩ := Int.eq_ofNat_of_zero_le h0
  obtain ⟨c', rfl⟩ := Int.eq_ofNat_of_zero_le (Int.le_trans h0 hac)
  simp only [Int.toNat_natCast] at h
  refine setItem_slice (a := a') (c := c') e e2 hne hs (.int _ _) (.int _ _) (by omega) (by rw [List.size_toArray]; omega) (by rw [List.size_toArray, List.size_toArray]; omega) (h _ ?_)
  refine I.lset (its' := its.take a' ++ its2 ++ its.drop c') (t' := s.toks) hH e ?_ (Vals.append (Vals.append (r.take _) r2) (r.drop _)) ?_
  · exact splice_eq its its2 a' c'
  · rw [List.length_append, List.length_append, List.length_take, List.length_drop]
    omega
end
end L2

namespace L2
open PySem PySem.Spec PyProof.Rows

/-! ### lists of pairs as tables -/
section
variable {κ : Type} [DecidableEq κ]
def valV (kvs : List (κ × V)) (k : κ) : Option V := (kvs.find? fun kv => decide (kv.1 = k)).map (·.2)
/-- in its place, or at the end -/
def putK (kvs : List (κ × V)) (k : κ) (v : V) : List (κ × V) :=
  if (kvs.any fun kv => decide (kv.1 = k)) = true then kvs.map (fun kv => if kv.1 = k then (kv.1, v) else kv) else kvs ++ [(k, v)]
def dropK (kvs : List (κ × V)) (k : κ) : List (κ × V) := kvs.filter fun kv => decide (kv.1 ≠ k)

theorem valV_nil {k : κ} : valV ([] : List (κ × V)) k = none := rfl
theorem valV_pos {p : κ × V} {r : List (κ × V)} {k : κ} (e : p.1 = k) : valV (p :: r) k = some p.2 := by simp [valV, List.find?_cons, e]
theorem valV_neg {p : κ × V} {r : List (κ × V)} {k : κ} (e : ¬ p.1 = k) : valV (p :: r) k = valV r k := by simp [valV, List.find?_cons, e]
theorem valV_any (k : κ) : ∀ kvs : List (κ × V), (kvs.any fun kv => decide (kv.1 = k)) = (valV kvs k).isSome
  | [] => rfl
  | p :: r => by
    rw [List.any_cons]
    by_cases e : p.1 = k
    · simp only [valV_pos e, decide_eq_true e, Bool.true_or, Option.isSome_some]
    · rw [valV_neg e, decide_eq_false e, Bool.false_or]; exact valV_any k r
theorem valV_map (k j : κ) (y : V) : ∀ kvs : List (κ × V), valV (kvs.map fun kv => if kv.1 = k then (kv.1, y) else kv) j = (valV kvs j).map fun x => if j = k then y else x
  | [] => rfl
  | p :: r => by
    have ih := valV_map k j y r
    rw [List.map_cons]
    by_cases h : p.1 = k
    · rw [if_pos h]
      by_cases e : p.1 = j
      · rw [valV_pos (p := (p.1, y)) e, valV_pos e, Option.map_some, if_pos (e.symm.trans h)]
      · rw [valV_neg (p := (p.1, y)) e, valV_neg e, ih]
    · rw [if_neg h]
      by_cases e : p.1 = j
      · rw [valV_pos (p := p) e, valV_pos e, Option.map_some, if_neg (fun z => h (e.trans z))]
      · rw [valV_neg (p := p) e, valV_neg e, ih]
theorem valV_snoc (k j : κ) (y : V) : ∀ kvs : List (κ × V), valV kvs k = none → valV (kvs ++ [(k, y)]) j = if j = k then some y else valV kvs j
  | [], _ => by
    by_cases e : k = j
    · rw [if_pos e.symm]; exact valV_pos (p := (k, y)) e
    · rw [if_neg (fun z => e z.symm)]; exact valV_neg (p := (k, y)) e
  | p :: r, hn => by
    rw [List.cons_append]
    have hk : ¬ p.1 = k := fun z => by rw [valV_pos z] at hn; cases hn
    rw [valV_neg hk] at hn
    have ih := valV_snoc k j y r hn
    by_cases e : p.1 = j
    · rw [valV_pos e, valV_pos e, if_neg (fun z => hk (e.trans z))]
    · rw [valV_neg e, valV_neg e, ih]
theorem valV_put (kvs : List (κ × V)) (k j : κ) (y : V) : valV (putK kvs k y) j = if j = k then some y else valV kvs j := by
  unfold putK
  by_cases a : (kvs.any fun kv => decide (kv.1 = k)) = true
  · rw [if_pos a, valV_map]
    rw [valV_any] at a
    by_cases e : j = k
    · obtain ⟨x, hx⟩ := Option.isSome_iff_exists.mp a
      rw [if_pos e, e, hx, Option.map_some, if_pos rfl]
    · rw [if_neg e]
      cases valV kvs j with
      | none => rfl
      | some x => rw [Option.map_some, if_neg e]
  · rw [if_neg a]
    refine valV_snoc k j y kvs ?_
    rw [valV_any] at a
    cases q : valV kvs k with
    | none => rfl
    | some x => rw [q] at a; exact (a rfl).elim
theorem length_putK (kvs : List (κ × V)) (k : κ) (v : V) : (putK kvs k v).length ≤ kvs.length + 1 := by
  unfold putK
  split
  · rw [List.length_map]; omega
  · rw [List.length_append, List.length_cons, List.length_nil]; omega
theorem putK_new {kvs : List (κ × V)} {k : κ} (v : V) (h : valV kvs k = none) : putK kvs k v = kvs ++ [(k, v)] := by
  unfold putK
  rw [valV_any, h]
  exact if_neg (by decide)

theorem RelO.isSome_eq {o : Option V} {u : Option Value} (r : RelO o u) : o.isSome = u.isSome := by
  cases o with
  | none => cases u with
    | none => rfl
    | some _ => exact (show False from r).elim
  | some _ => cases u with
    | none => exact (show False from r).elim
    | some _ => rfl
theorem RelO.getD {o : Option V} {u : Option Value} {d : V} {d' : Value} (r : RelO o u) (rd : RelV d d') : RelV (o.getD d) (u.getD d') := by
  cases o with
  | none => cases u with
    | none => exact rd
    | some _ => exact (show False from r).elim
  | some _ => cases u with
    | none => exact (show False from r).elim
    | some _ => exact r

/-- raw tables of the same keys -/
theorem KV.val {kvs : List (κ × V)} {vs : List (κ × Value)} (r : KV kvs vs) (k : κ) : RelO (valV kvs k) (valueAt vs k) := by
  unfold KV at r
  induction r with
  | nil => exact True.intro
  | @cons p q ps qs h t ih =>
    obtain ⟨h1, h2⟩ := h
    by_cases e : p.1 = k
    · have e' : q.1 = k := h1.symm.trans e
      have b : valueAt (q :: qs) k = some q.2 := by simp [valueAt, List.find?_cons, e']
      rw [valV_pos e, b]; exact h2
    · have e' : ¬ q.1 = k := fun z => e (h1.trans z)
      have b : valueAt (q :: qs) k = valueAt qs k := by simp [valueAt, List.find?_cons, e']
      rw [valV_neg e, b]; exact ih
theorem KV.any {kvs : List (κ × V)} {vs : List (κ × Value)} (r : KV kvs vs) (k : κ) : (kvs.any fun kv => decide (kv.1 = k)) = vs.any fun kv => decide (kv.1 = k) := by
  unfold KV at r
  induction r with
  | nil => rfl
  | cons h t ih => rw [List.any_cons, List.any_cons, ih, h.1]
theorem KV.repl {kvs : List (κ × V)} {vs : List (κ × Value)} (r : KV kvs vs) (k : κ) {y : V} {u : Value} (ry : RelV y u) :
    KV (kvs.map fun kv => if kv.1 = k then (kv.1, y) else kv) (vs.map fun kv => if kv.1 = k then (kv.1, u) else kv) := by
  unfold KV at r ⊢
  induction r with
  | nil => exact .nil
  | @cons p q ps qs h t ih =>
    rw [List.map_cons, List.map_cons]
    refine .cons ?_ ih
    obtain ⟨h1, h2⟩ := h
    by_cases e : p.1 = k
    · rw [if_pos e, if_pos (h1.symm.trans e)]; exact ⟨h1, ry⟩
    · rw [if_neg e, if_neg (fun z => e (h1.trans z))]; exact ⟨h1, h2⟩
theorem KV.put {kvs : List (κ × V)} {vs : List (κ × Value)} (r : KV kvs vs) (k : κ) {y : V} {u : Value} (ry : RelV y u) : KV (putK kvs k y) (stored vs k u) := by
  unfold putK stored
  rw [r.any k]
  by_cases e : (vs.any fun kv => decide (kv.1 = k)) = true
  · rw [if_pos e, if_pos e]; exact r.repl k ry
  · rw [if_neg e, if_neg e]; exact Paired.snoc r ⟨rfl, ry⟩
theorem KV.drop {kvs : List (κ × V)} {vs : List (κ × Value)} (r : KV kvs vs) (k : κ) : KV (dropK kvs k) (without vs k) := by
  unfold KV at r ⊢
  unfold dropK without
  induction r with
  | nil => exact .nil
  | @cons p q ps qs h t ih =>
    obtain ⟨h1, h2⟩ := h
    rw [List.filter_cons, List.filter_cons]
    by_cases e : p.1 = k
    · have a : ¬ decide (p.1 ≠ k) = true := by simp [e]
      have b : ¬ decide (q.1 ≠ k) = true := by simp [h1.symm.trans e]
      rw [if_neg a, if_neg b]; exact ih
    · have e' : ¬ q.1 = k := fun z => e (h1.trans z)
      have a : decide (p.1 ≠ k) = true := by simp [e]
      have b : decide (q.1 ≠ k) = true := by simp [e']
      rw [if_pos a, if_pos b]; exact .cons ⟨h1, h2⟩ ih
theorem KV.keys {kvs : List (κ × V)} {vs : List (κ × Value)} (r : KV kvs vs) : kvs.map (·.1) = vs.map (·.1) := by
  unfold KV at r
  induction r with
  | nil => rfl
  | cons h t ih => rw [List.map_cons, List.map_cons, ih, h.1]
theorem KV.length {kvs : List (κ × V)} {vs : List (κ × Value)} (r : KV kvs vs) : kvs.length = vs.length := Paired.length r
theorem dropK_le (kvs : List (κ × V)) (k : κ) : (dropK kvs k).length ≤ kvs.length := List.length_filter_le _ _
end


/-! ### a tracked dict, its keys ints and texts or tuples of these -/
theorem kV_is {P : Program} {w : World} {k : Key} {u : Value} (r : RelV (kV k) u) : (mixKind P w).is k u = true := by
  cases k with
  | inl i => obtain ⟨t, e⟩ := (show ∃ t, u = Value.int i t from r); subst e; exact mixKind_int P w i t
  | inr x => obtain ⟨t, e⟩ := (show ∃ t, u = Value.str x t from r); subst e; exact mixKind_str P w x t
theorem kV_inj {a b : Key} (e : kV a = kV b) : a = b := by
  cases a with
  | inl i => cases b with
    | inl j => have e' : V.int i = V.int j := e; injection e' with e'; rw [e']
    | inr y => exact nomatch (show V.int i = V.str y from e)
  | inr x => cases b with
    | inl j => exact nomatch (show V.str x = V.int j from e)
    | inr y => have e' : V.str x = V.str y := e; injection e' with e'; rw [e']
theorem kVs_inj : ∀ {a b : List Key}, a.map kV = b.map kV → a = b
  | [], [], _ => rfl
  | [], _ :: _, e => by simp at e
  | _ :: _, [], e => by simp at e
  | x :: xs, y :: ys, e => by
    rw [List.map_cons, List.map_cons] at e
    injection e with e1 e2
    rw [kV_inj e1, kVs_inj e2]
theorem items_are {P : Program} {w : World} : ∀ {ks : List Key} {us : List Value}, Vals (ks.map kV) us → ItemsAre (mixKind P w) ks us
  | [], _, r => by rw [List.map_nil] at r; cases r; exact .nil
  | k :: ks, _, r => by
    rw [List.map_cons] at r
    cases r with
    | cons h t => exact .cons (kV_is h) (items_are t)

/-- raw entries of a dict with tuple keys -/
abbrev KT (H : Hp) : List (List Key × V) → List (List Key × Addr × Value) → Prop := Paired fun p q => p.1 = q.1 ∧ H q.2.1 = some (.tup (p.1.map kV)) ∧ RelV p.2 q.2.2
theorem KT.val {H : Hp} {kvs : List (List Key × V)} {xs : List (List Key × Addr × Value)} (r : KT H kvs xs) (k : List Key) : RelO (valV kvs k) ((atKey xs k).map (·.2)) := by
  induction r with
  | nil => exact True.intro
  | @cons p q ps qs h t ih =>
    obtain ⟨h1, _, h2⟩ := h
    by_cases e : p.1 = k
    · have e' : q.1 = k := h1.symm.trans e
      have b : atKey (q :: qs) k = some q.2 := by simp [atKey, List.find?_cons, e']
      rw [valV_pos e, b]; exact h2
    · have e' : ¬ q.1 = k := fun z => e (h1.trans z)
      have b : atKey (q :: qs) k = atKey qs k := by simp [atKey, List.find?_cons, e']
      rw [valV_neg e, b]; exact ih
theorem KT.repl {H : Hp} {kvs : List (List Key × V)} {xs : List (List Key × Addr × Value)} (r : KT H kvs xs) (k : List Key) {y : V} {u : Value} (ry : RelV y u) :
    KT H (kvs.map fun kv => if kv.1 = k then (kv.1, y) else kv) (xs.map (putAt k u)) := by
  induction r with
  | nil => exact .nil
  | @cons p q ps qs h t ih =>
    rw [List.map_cons, List.map_cons]
    refine .cons ?_ ih
    obtain ⟨h1, h2, h3⟩ := h
    unfold putAt
    by_cases e : p.1 = k
    · rw [if_pos e, if_pos (h1.symm.trans e)]; exact ⟨h1, h2, ry⟩
    · rw [if_neg e, if_neg (fun z => e (h1.trans z))]; exact ⟨h1, h2, h3⟩
theorem KT.put {H : Hp} {kvs : List (List Key × V)} {xs : List (List Key × Addr × Value)} (r : KT H kvs xs) (k : List Key) {b : Addr} {y : V} {u : Value} (hb : H b = some (.tup (k.map kV))) (ry : RelV y u) :
    KT H (putK kvs k y) (storedH xs k b u) := by
  have e : (kvs.any fun kv => decide (kv.1 = k)) = (atKey xs k).isSome := by
    rw [valV_any, (r.val k).isSome_eq, Option.isSome_map]
  unfold putK storedH
  rw [e]
  by_cases q : (atKey xs k).isSome = true
  · rw [if_pos q, if_pos q]; exact r.repl k ry
  · rw [if_neg q, if_neg q]; exact Paired.snoc r ⟨rfl, hb, ry⟩
theorem KT.keeps {H H' : Hp} {kvs : List (List Key × V)} {xs : List (List Key × Addr × Value)} (r : KT H kvs xs) (ht : ∀ b ys, H b = some (.tup ys) → H' b = some (.tup ys)) : KT H' kvs xs :=
  Paired.mapP r fun _ _ z => ⟨z.1, ht _ _ z.2.1, z.2.2⟩

section
variable {P : Program} {w : World} {H : Hp} {h : Heap} {a : Addr}
theorem rd_of {u : HO} (ok : HOk P w H h) (e : Rd H a u) : ObjOk P w H h a u := e.ok ok
theorem dk_rd {kvs : List (Key × V)} (ok : HOk P w H h) (e : Rd H a (.dK kvs)) : kvs.length ≤ sizeLine ∧ (a == sysModules) = false ∧ ∃ vs, KV kvs vs ∧ h.DictOf (mixKind P w) a vs :=
  show ObjOk P w H h a (.dK kvs) from rd_of ok e
theorem dk_of {kvs : List (Key × V)} (ok : HOk P w H h) (e : H a = some (.dK kvs)) : kvs.length ≤ sizeLine ∧ (a == sysModules) = false ∧ ∃ vs, KV kvs vs ∧ h.DictOf (mixKind P w) a vs := dk_rd ok (.inl e)
/-- a tracked tuple of ints and texts is a key -/
theorem key_of {ks : List Key} (ok : HOk P w H h) (e : H a = some (.tup (ks.map kV))) : (tupleKind (mixKind P w)).is h ks a := by
  obtain ⟨_, its, r, o, h1, h2, n, h3⟩ := (show ObjOk P w H h a (.tup (ks.map kV)) from ok a _ e)
  exact ⟨o, its.toArray, n, h1, h2, h3, by simpa using items_are r⟩
theorem dt_rd {kvs : List (List Key × V)} (ok : HOk P w H h) (e : Rd H a (.dT kvs)) : kvs.length ≤ sizeLine ∧ (a == sysModules) = false ∧
    ∃ xs, KT H kvs xs ∧ h.DictOfH (tupleKind (mixKind P w)) a xs := by
  obtain ⟨z, y, xs, r, o, es, ep, h1, h2, h3, h4, h5⟩ := (show ObjOk P w H h a (.dT kvs) from rd_of ok e)
  refine ⟨z, y, xs, r, o, es, ep, h1, h2, h3, h4, fun x hx => ?_, h5⟩
  have all : ∀ {l : List (List Key × V)} {m : List (List Key × Addr × Value)}, KT H l m → ∀ x ∈ m, (tupleKind (mixKind P w)).is h x.1 x.2.1 := by
    intro l m q
    induction q with
    | nil => intro x hx; exact nomatch hx
    | @cons p q ps qs hq t ih =>
      intro x hx
      rcases List.mem_cons.mp hx with e | hx
      · subst e
        exact key_of ok (by rw [← hq.1]; exact hq.2.1)
      · exact ih x hx
  exact all r x hx
theorem dt_of {kvs : List (List Key × V)} (ok : HOk P w H h) (e : H a = some (.dT kvs)) : kvs.length ≤ sizeLine ∧ (a == sysModules) = false ∧
    ∃ xs, KT H kvs xs ∧ h.DictOfH (tupleKind (mixKind P w)) a xs := dt_rd ok (.inl e)
end

/-- what the dict at a holds at the key y -/
def DGet (H : Hp) (a : Addr) (y : V) (r : Option V) : Prop :=
  (∃ kvs k, Rd H a (.dK kvs) ∧ y = kV k ∧ r = valV kvs k) ∨ ∃ kvs k b, Rd H a (.dT kvs) ∧ y = .ref b ∧ H b = some (.tup (k.map kV)) ∧ r = valV kvs k
/-- the heap behind a[y] = v -/
def DPut (H : Hp) (a : Addr) (y v : V) (H' : Hp) : Prop :=
  (∃ kvs k, H a = some (.dK kvs) ∧ y = kV k ∧ kvs.length < sizeLine ∧ H' = upd H a (.dK (putK kvs k v))) ∨
  ∃ kvs k b, H a = some (.dT kvs) ∧ y = .ref b ∧ H b = some (.tup (k.map kV)) ∧ kvs.length < sizeLine ∧ H' = upd H a (.dT (putK kvs k v))
theorem DGet.k {H : Hp} {a : Addr} {kvs : List (Key × V)} {k : Key} (e : H a = some (.dK kvs)) : DGet H a (kV k) (valV kvs k) := .inl ⟨kvs, k, .inl e, rfl, rfl⟩
theorem DGet.t {H : Hp} {a b : Addr} {kvs : List (List Key × V)} {k : List Key} (e : H a = some (.dT kvs)) (eb : H b = some (.tup (k.map kV))) : DGet H a (.ref b) (valV kvs k) := .inr ⟨kvs, k, b, .inl e, rfl, eb, rfl⟩
theorem DPut.k {H : Hp} {a : Addr} {kvs : List (Key × V)} {k : Key} {v : V} (e : H a = some (.dK kvs)) (hl : kvs.length < sizeLine) : DPut H a (kV k) v (upd H a (.dK (putK kvs k v))) := .inl ⟨kvs, k, e, rfl, hl, rfl⟩
theorem DPut.t {H : Hp} {a b : Addr} {kvs : List (List Key × V)} {k : List Key} {v : V} (e : H a = some (.dT kvs)) (eb : H b = some (.tup (k.map kV))) (hl : kvs.length < sizeLine) :
    DPut H a (.ref b) v (upd H a (.dT (putK kvs k v))) := .inr ⟨kvs, k, b, e, rfl, eb, hl, rfl⟩


section
variable {X : Cx} {pins : List (Addr × Obj)} {σ : St} {H : Hp} {s : Shared} {a : Addr} {y v : V} {u r : Value} {o : Option V} {A : Around} {E : Value → Shared → Prop}

theorem Inv.big (I : Inv X pins σ H s) : sysModules < s.heap.objs.size := by
  have h : mainGlobals < s.heap.objs.size := (I.mod.glob.keeps I.bk).lt
  exact Nat.lt_trans (by decide) h

/-- d[y], there -/
theorem d_getItem {Q : Value → Shared → Prop} (hu : A.units + 1 < cLine) (I : Inv X pins σ H s) (g : DGet H a y (some v)) (ry : RelV y u) (h : ∀ w' s', Inv X pins σ H s' → RelV v w' → Q w' s') :
    wpAny (model X.prog X.w) A (getItem (.ref a) u) Q E s := by
  rcases g with ⟨kvs, k, e, ey, l⟩ | ⟨kvs, k, b, e, ey, eb, l⟩
  · subst ey
    obtain ⟨z, hd, vs, rel, dd⟩ := dk_rd I.hok e
    obtain ⟨w', hw, rw'⟩ := RelO.some_of (v := v) (o := valueAt vs k) (by rw [l]; exact rel.val k)
    exact wpAny_getItem_of (kV_is ry) dd.mapOf hw (h w' _ (I.tok _) rw')
  · subst ey
    cases (show u = Value.ref b from ry)
    obtain ⟨z, hd, xs, rel, dd⟩ := dt_rd I.hok e
    obtain ⟨w', hw, rw'⟩ := RelO.some_of (v := v) (o := (atKey xs k).map (·.2)) (by rw [l]; exact rel.val k)
    obtain ⟨p, hp, hp2⟩ := Option.map_eq_some_iff.mp hw
    refine wpAny_getItem_heap (tupleKind_room_in1 hu) (key_of I.hok eb) dd hp ?_
    rw [hp2]
    exact h w' _ (I.tok _) rw'
/-- y in d -/
theorem d_in {Q : Value → Shared → Prop} (hu : A.units + 1 < cLine) (I : Inv X pins σ H s) (g : DGet H a y o) (ry : RelV y u) (h : ∀ s', Inv X pins σ H s' → Q (.bool o.isSome) s') :
    wpAny (model X.prog X.w) A (compareOp .In u (.ref a)) Q E s := by
  rcases g with ⟨kvs, k, e, ey, l⟩ | ⟨kvs, k, b, e, ey, eb, l⟩
  · subst ey
    obtain ⟨z, hd, vs, rel, dd⟩ := dk_rd I.hok e
    refine wpAny_in_of (kV_is ry) hd dd.mapOf ?_
    rw [← (rel.val k).isSome_eq, ← l]
    exact h _ (I.tok _)
  · subst ey
    cases (show u = Value.ref b from ry)
    obtain ⟨z, hd, xs, rel, dd⟩ := dt_rd I.hok e
    refine wpAny_in_heap (tupleKind_room_in1 hu) (key_of I.hok eb) hd dd ?_
    have q := (rel.val k).isSome_eq
    rw [Option.isSome_map] at q
    rw [← q, ← l]
    exact h _ (I.tok _)
theorem d_notIn {Q : Value → Shared → Prop} (hu : A.units + 1 < cLine) (I : Inv X pins σ H s) (g : DGet H a y o) (ry : RelV y u) (h : ∀ s', Inv X pins σ H s' → Q (.bool (!o.isSome)) s') :
    wpAny (model X.prog X.w) A (compareOp .NotIn u (.ref a)) Q E s := by
  rcases g with ⟨kvs, k, e, ey, l⟩ | ⟨kvs, k, b, e, ey, eb, l⟩
  · subst ey
    obtain ⟨z, hd, vs, rel, dd⟩ := dk_rd I.hok e
    refine wpAny_notIn_of (kV_is ry) hd dd.mapOf ?_
    rw [← (rel.val k).isSome_eq, ← l]
    exact h _ (I.tok _)
  · subst ey
    cases (show u = Value.ref b from ry)
    obtain ⟨z, hd, xs, rel, dd⟩ := dt_rd I.hok e
    refine wpAny_notIn_heap (tupleKind_room_in1 hu) (key_of I.hok eb) hd dd ?_
    have q := (rel.val k).isSome_eq
    rw [Option.isSome_map] at q
    rw [← q, ← l]
    exact h _ (I.tok _)
/-- a dict's object is replaced -/
theorem d_write {h' : Heap} {t' : Nat} {ob : HO} (I : Inv X pins σ H s) (mu : Mut (H a)) (hs : Heap.SameBut a s.heap h') (he : ∃ q, h'.get? a = some q) (new : ObjOk X.prog X.w (upd H a ob) h' a ob) :
    Inv X pins σ (upd H a ob) { s with heap := h', toks := t' } :=
  I.write (x := a) (e := a) mu (.inl rfl) (fun b q hb z => (hs.2 b hb).trans z) he new
theorem dk_new {P : Program} {w : World} {H' : Hp} {h' : Heap} {kvs : List (Key × V)} {vs : List (Key × Value)} (z : kvs.length ≤ sizeLine) (hd : (a == sysModules) = false) (rel : KV kvs vs) (dd : h'.DictOf (mixKind P w) a vs) :
    ObjOk P w H' h' a (.dK kvs) := ⟨z, hd, vs, rel, dd⟩
/-- d[y] = v -/
theorem d_setItem {H' : Hp} {Q : Unit → Shared → Prop} (hu : A.units + 1 < cLine) (I : Inv X pins σ H s) (g : DPut H a y v H') (ry : RelV y u) (rv : RelV v r) (h : ∀ s', Inv X pins σ H' s' → Q () s') :
    wpAny (model X.prog X.w) A (setItem (.ref a) u r) Q E s := by
  rcases g with ⟨kvs, k, e, ey, l, eH⟩ | ⟨kvs, k, b, e, ey, eb, l, eH⟩
  · subst ey eH
    obtain ⟨z, hd, vs, rel, dd⟩ := dk_of I.hok e
    have hz : vs.length ≤ sizeLine := by rw [← rel.length]; exact z
    have hl : (putK kvs k v).length ≤ sizeLine := by have := length_putK kvs k v; omega
    refine wpAny_setItem_pairs (hsz := hz) (kV_is ry) dd fun h' dd' hs => h _ ?_
    have he : ∃ q, h'.get? a = some q := let ⟨q, _, _, hq, _⟩ := dd'; ⟨q, hq⟩
    exact d_write I (by rw [e]; exact True.intro) hs he (dk_new hl hd (rel.put k rv) dd')
  · subst ey eH
    cases (show u = Value.ref b from ry)
    obtain ⟨z, hd, xs, rel, dd⟩ := dt_of I.hok e
    have hz : xs.length ≤ sizeLine := by rw [← Paired.length rel]; exact z
    have hl : (putK kvs k v).length ≤ sizeLine := by have := length_putK kvs k v; omega
    refine wpAny_setItem_heap (hsz := hz) (tupleKind_room_in1 hu) (key_of I.hok eb) dd fun h' dd' hs => h _ ?_
    obtain ⟨q, es, ep, hq, h2, h3, h4, _, h5⟩ := dd'
    refine d_write I (by rw [e]; exact True.intro) hs ⟨q, hq⟩ ⟨hl, hd, _, (rel.put k eb rv).keeps fun c ys ec => ?_, q, es, ep, hq, h2, h3, h4, h5⟩
    rw [upd_ne (ne_of ec e (fun z => nomatch z))]
    exact ec
end

section
variable {X : Cx} {pins : List (Addr × Obj)} {σ : St} {H : Hp} {s : Shared} {a : Addr} {kvs : List (Key × V)} {k : Key} {u : Value} {A : Around} {E : Value → Shared → Prop}
/-- del d[k] -/
theorem d_delItem {Q : Unit → Shared → Prop} (I : Inv X pins σ H s) (e : H a = some (.dK kvs)) (ry : RelV (kV k) u) (l : (valV kvs k).isSome = true) (h : ∀ s', Inv X pins σ (upd H a (.dK (dropK kvs k))) s' → Q () s') :
    wpAny (model X.prog X.w) A (delItem (.ref a) u) Q E s := by
  obtain ⟨z, hd, vs, rel, dd⟩ := dk_of I.hok e
  refine wpAny_delItem_slot dd.typeIs (by decide) PySem.F.slot_dict_delitem
    (call_meetsIn PySem.F.slot_dict_delitem dd.typeIs PySem.F.entry_dict_delitem (PySem.F.args_dict_delitem_2 _ _) (meets_dict_delitem_pairs (mixKind X.prog X.w) a (kV_is ry)) ⟨vs, dd, by rw [← rel.length]; exact z, by rw [← (rel.val k).isSome_eq]; exact l, fun h' dd' hs => h _ ?_⟩)
  have he : ∃ q, h'.get? a = some q := let ⟨q, _, _, hq, _⟩ := dd'; ⟨q, hq⟩
  exact d_write I (by rw [e]; exact True.intro) hs he (dk_new (Nat.le_trans (dropK_le kvs k) z) hd (rel.drop k) dd')
/-- d.pop(k[, x]), there -/
theorem d_pop {v : V} {more : List Value} {Q : Value → Shared → Prop} (I : Inv X pins σ H s) (e : H a = some (.dK kvs)) (ry : RelV (kV k) u) (l : valV kvs k = some v) (hm : more = [] ∨ ∃ x, more = [x])
    (h : ∀ w' s', Inv X pins σ (upd H a (.dK (dropK kvs k))) s' → RelV v w' → Q w' s') : wpAny (model X.prog X.w) A (call (.builtin "dict.pop") (.ref a :: u :: more)) Q E s := by
  obtain ⟨z, hd, vs, rel, dd⟩ := dk_of I.hok e
  obtain ⟨w', hw, rw'⟩ := RelO.some_of (v := v) (o := valueAt vs k) (by rw [← l]; exact rel.val k)
  have hp : (keyPart u).isSome = true := by
    cases k with
    | inl i => obtain ⟨t, q⟩ := (show ∃ t, u = Value.int i t from ry); subst q; rfl
    | inr x => obtain ⟨t, q⟩ := (show ∃ t, u = Value.str x t from ry); subst q; rfl
  have ha : argsOk "dict.pop" ⟨.ref a :: u :: more, []⟩ := by
    rcases hm with q | ⟨x, q⟩
    · subst q; exact PySem.F.args_dict_pop_2 _ _
    · subst q; exact PySem.F.args_dict_pop_3 _ _ _
  refine call_meetsIn PySem.F.slot_dict_pop dd.typeIs PySem.F.entry_dict_pop ha (meets_dict_pop_there (mixKind X.prog X.w) a (kV_is ry) more hm hp)
    ⟨vs, w', dd, by rw [← rel.length]; exact z, hw, fun h' dd' hs => h w' _ ?_ rw'⟩
  have he : ∃ q, h'.get? a = some q := let ⟨q, _, _, hq, _⟩ := dd'; ⟨q, hq⟩
  exact d_write I (by rw [e]; exact True.intro) hs he (dk_new (Nat.le_trans (dropK_le kvs k) z) hd (rel.drop k) dd')
/-- d.pop(k, x), not there -/
theorem d_popD {r : Value} {Q : Value → Shared → Prop} (I : Inv X pins σ H s) (e : H a = some (.dK kvs)) (ry : RelV (kV k) u) (l : valV kvs k = none) (h : ∀ s', Inv X pins σ H s' → Q r s') :
    wpAny (model X.prog X.w) A (call (.builtin "dict.pop") [.ref a, u, r]) Q E s := by
  obtain ⟨z, hd, vs, rel, dd⟩ := dk_of I.hok e
  have hn : valueAt vs k = none := RelO.none_of (by rw [← l]; exact rel.val k)
  have hp : (keyPart u).isSome = true := by
    cases k with
    | inl i => obtain ⟨t, q⟩ := (show ∃ t, u = Value.int i t from ry); subst q; rfl
    | inr x => obtain ⟨t, q⟩ := (show ∃ t, u = Value.str x t from ry); subst q; rfl
  exact call_meetsIn PySem.F.slot_dict_pop dd.typeIs PySem.F.entry_dict_pop (PySem.F.args_dict_pop_3 _ _ _) (meets_dict_pop_default (mixKind X.prog X.w) a (kV_is ry) hd hp r) ⟨vs, dd, hn, h _ (I.tok _)⟩
/-- d.clear() -/
theorem d_clear {Q : Value → Shared → Prop} (I : Inv X pins σ H s) (e : H a = some (.dK kvs)) (h : ∀ s', Inv X pins σ (upd H a (.dK [])) s' → Q .none s') : wpAny (model X.prog X.w) A (call (.builtin "dict.clear") [.ref a]) Q E s := by
  obtain ⟨z, hd, vs, rel, dd⟩ := dk_of I.hok e
  refine call_meetsIn PySem.F.slot_dict_clear dd.typeIs PySem.F.entry_dict_clear (PySem.F.args_dict_clear_1 _) (meets_dict_clear (mixKind X.prog X.w) a) ⟨vs, dd, by rw [← rel.length]; exact z, fun h' dd' hs => h _ ?_⟩
  have he : ∃ q, h'.get? a = some q := let ⟨q, _, _, hq, _⟩ := dd'; ⟨q, hq⟩
  exact d_write (t' := s.toks) I (by rw [e]; exact True.intro) hs he (dk_new (Nat.zero_le _) hd .nil dd')
/-- len(d) -/
theorem d_len {Q : Value → Shared → Prop} (I : Inv X pins σ H s) (e : Rd H a (.dK kvs)) (h : ∀ t s', Inv X pins σ H s' → Q (.int kvs.length t) s') : wpAny (model X.prog X.w) A (call (.builtin "len") [.ref a]) Q E s := by
  obtain ⟨z, hd, vs, rel, dd⟩ := dk_rd I.hok e
  refine call_len_dict hd dd (by rw [← rel.length]; rw [sizeLine_eq] at z; omega) ?_
  rw [← rel.length]
  exact h _ _ (I.tok _)
/-- if d -/
theorem d_truth {Q : Bool → Shared → Prop} (I : Inv X pins σ H s) (e : Rd H a (.dK kvs)) (h : ∀ s', Inv X pins σ H s' → Q (!kvs.isEmpty) s') : wpAny (model X.prog X.w) A (truthy (.ref a)) Q E s := by
  obtain ⟨z, hd, vs, rel, dd⟩ := dk_rd I.hok e
  refine wpAny_truthy_dict hd dd (by rw [← rel.length]; rw [sizeLine_eq] at z; omega) ?_
  have q : kvs.isEmpty = vs.isEmpty := by cases rel <;> rfl
  rw [← q]
  exact h _ (I.tok _)
end


/-! ### readings and rules -/
/-- the element of a subscription, not a slice -/
def NoSl (i : Expr) : Prop := ∀ ov iv, subscripted i false ov iv = operate [ov, iv] (getItem ov iv)
theorem subD_of {prog : Program} {w : World} {A : Around} {E : Value → Shared → Prop} {s : Shared} {env : Env} {value slice : Expr} {pos : Pos} {T id : String} {Q : Value → Shared → Prop}
    (hl : typeLookup (.type T) "__getitem__" = pure (some (.builtin id))) (hs : NoSl slice)
    (h : wpAny (model prog w) A (eval value env) (fun o s₁ => wpAny (model prog w) A (eval slice env) (fun i s₂ => s₂.TypeIs o T ∧ wpAny (model prog w) A (getItem o i) Q E s₂) E s₁) E s) :
    wpAny (model prog w) A (eval (.Subscript value slice pos) env) Q E s := by
  refine Subscript_ (wpAny_mono h (fun o s₁ h₁ => wpAny_mono h₁ (fun i s₂ h₂ => ?_) fun _ _ x => x) fun _ _ x => x)
  obtain ⟨hT, h₂⟩ := h₂
  unfold subscriptTail
  refine wpAny_bind ?_
  rw [getitemInPython_of_ne hT.not_modules]
  refine wpAny_bind (wpAny_specialOf hT hl ?_)
  have fin : wpAny (model prog w) A (subscripted slice false o i) (fun r s₃ => wpAny (model prog w) A (letTemporaryGo value o r >>= fun _ => pure r) Q E s₃) E s₂ := by
    rw [hs o i]
    exact wpAny_operating (wpAny_mono h₂ (fun r s₃ h₃ => wpAny_bind (wpAny_letTemporaryGo (wpAny_pure h₃))) fun _ _ x => x)
  first
    | exact wpAny_pure (wpAny_bind fin)
    | exact wpAny_bind (wpAny_pure (wpAny_bind fin))
    | exact wpAny_bind fin

theorem dict_typeIs {X : Cx} {pins : List (Addr × Obj)} {σ : St} {H : Hp} {s : Shared} {a : Addr} {y : V} {o : Option V} (I : Inv X pins σ H s) (g : DGet H a y o) : s.TypeIs (.ref a) "dict" := by
  rcases g with ⟨kvs, k, e, _, _⟩ | ⟨kvs, k, b, e, _, _, _⟩
  · obtain ⟨_, _, vs, _, dd⟩ := dk_rd I.hok e
    exact dd.typeIs
  · obtain ⟨_, _, xs, _, dd⟩ := dt_rd I.hok e
    exact dd.typeIs
theorem dict_noDict {X : Cx} {pins : List (Addr × Obj)} {σ : St} {H : Hp} {s : Shared} {a : Addr} {y : V} {o : Option V} (I : Inv X pins σ H s) (g : DGet H a y o) :
    ∀ b, Value.ref a = .ref b → ∃ ob, s.heap.get? b = some ob ∧ ob.dict = none := fun b q => by
  cases q
  rcases g with ⟨kvs, k, e, _, _⟩ | ⟨kvs, k, b, e, _, _, _⟩
  · obtain ⟨_, _, vs, _, ob, _, _, h1, h2, _⟩ := dk_rd I.hok e
    exact ⟨ob, h1, h2.2.1⟩
  · obtain ⟨_, _, xs, _, ob, _, _, h1, h2, _⟩ := dt_rd I.hok e
    exact ⟨ob, h1, h2.2.1⟩

/-- d[y] -/
def tDGet (td ty : TE) : TE := fun σ H Q => td σ H fun x H1 => ty σ H1 fun y H2 => ∃ a v, x = .ref a ∧ DGet H2 a y (some v) ∧ Q v H2
/-- y in d, y not in d -/
def tDIn (ty td : TE) : TE := fun σ H Q => ty σ H fun y H1 => td σ H1 fun x H2 => ∃ a o, x = .ref a ∧ DGet H2 a y o ∧ Q (.bl o.isSome) H2
def tDNotIn (ty td : TE) : TE := fun σ H Q => ty σ H fun y H1 => td σ H1 fun x H2 => ∃ a o, x = .ref a ∧ DGet H2 a y o ∧ Q (.bl (!o.isSome)) H2
/-- d[y] = v -/
def sDPut (td ty tv : TE) : TS := fun D σ H => tv σ H fun v H1 => td σ H1 fun x H2 => ty σ H2 fun y H3 => ∃ a H4, x = .ref a ∧ DPut H3 a y v H4 ∧ D.nx σ H4
/-- d[y] op= v -/
def sDAug (td ty tv : TE) (rd : V → V → Hp → VK → Prop) : TS := fun D σ H => td σ H fun x H1 => ty σ H1 fun y H2 => ∃ a v, x = .ref a ∧ DGet H2 a y (some v) ∧
  tv σ H2 fun y2 H3 => rd v y2 H3 fun z H4 => ∃ H5, DPut H4 a y z H5 ∧ D.nx σ H5
/-- del d[y] -/
def sDDel (td ty : TE) : TS := fun D σ H => td σ H fun x H1 => ty σ H1 fun y H2 => ∃ a kvs k, x = .ref a ∧ H2 a = some (.dK kvs) ∧ y = kV k ∧ (valV kvs k).isSome = true ∧ D.nx σ (upd H2 a (.dK (dropK kvs k)))

section
variable {X : Cx} {o i e value : Expr} {pos pos' tpos : Pos} {td ty tv : TE}
theorem pe_dget (hu : X.A.units + 1 < cLine) (ho : PE X o td) (hi : PE X i ty) (hs : NoSl i) : PE X (.Subscript o i pos) (tDGet td ty) := by
  intro pins s σ H Q I h
  refine subD_of PySem.F.slot_dict_getitem.lookup hs (thn (ho pins s σ H _ I h) fun u s1 ⟨x, H1, I1, rx, q1⟩ => thn (hi pins s1 σ H1 _ I1 q1) fun iv s2 ⟨y, H2, I2, ry, a, v, ex, g, q2⟩ => ?_)
  subst ex
  obtain rfl : u = Value.ref a := rx
  exact ⟨dict_typeIs I2 g, d_getItem hu I2 g ry fun w' s3 I3 rw' => ⟨v, H2, I3, rw', q2⟩⟩
theorem pc_din (hu : X.A.units + 1 < cLine) (hi : PE X i ty) (ho : PE X o td) : PC X .In i o (tDIn ty td) := by
  intro pins s σ H Q I h
  refine thn (hi pins s σ H _ I h) fun iv s1 ⟨y, H1, I1, ry, q1⟩ => thn (ho pins s1 σ H1 _ I1 q1) fun u s2 ⟨x, H2, I2, rx, a, ov, ex, g, q2⟩ => ?_
  subst ex
  obtain rfl : u = Value.ref a := rx
  exact d_in hu I2 g ry fun s3 I3 => ⟨.bl ov.isSome, H2, I3, rfl, q2⟩
theorem pc_dnotin (hu : X.A.units + 1 < cLine) (hi : PE X i ty) (ho : PE X o td) : PC X .NotIn i o (tDNotIn ty td) := by
  intro pins s σ H Q I h
  refine thn (hi pins s σ H _ I h) fun iv s1 ⟨y, H1, I1, ry, q1⟩ => thn (ho pins s1 σ H1 _ I1 q1) fun u s2 ⟨x, H2, I2, rx, a, ov, ex, g, q2⟩ => ?_
  subst ex
  obtain rfl : u = Value.ref a := rx
  exact d_notIn hu I2 g ry fun s3 I3 => ⟨.bl (!ov.isSome), H2, I3, rfl, q2⟩
theorem ps_dput (hu : X.A.units + 1 < cLine) (ho : PE X o td) (hi : PE X i ty) (hv : PE X value tv) (hs : swapsWith value (some (.Subscript o i pos')) pos.line X.env = pure false) :
    PS X (.Assign [.Subscript o i pos'] value pos) (sDPut td ty tv) := by
  intro pins s σ H D I h
  refine wpAny_Assign_Subscript (thn (hv pins s σ H _ I h) fun r s1 ⟨v, H1, I1, rv, q1⟩ => thn (ho pins s1 σ H1 _ I1 q1) fun u s2 ⟨x, H2, I2, rx, q2⟩ => thn (hi pins s2 σ H2 _ I2 q2) fun iv s3 ⟨y, H3, I3, ry, a, H4, ex, g, q3⟩ => ?_) hs
  subst ex
  obtain rfl : u = Value.ref a := rx
  exact d_setItem hu I3 g ry rv fun s4 I4 => ⟨σ, H4, I4, q3⟩
theorem ps_daug {op : Operator} {rd : V → V → Hp → VK → Prop} (hu : X.A.units + 1 < cLine) (ho : PE X o td) (hi : PE X i ty) (hv : PE X value tv) (hop : InOp X op rd)
    (ha : ∀ ov iv new, augStore i ov iv new = (do holding [new, ov, iv] (setItem ov iv new); release [new, ov, iv] []; pure .next)) : PS X (.AugAssign (.Subscript o i tpos) op value pos) (sDAug td ty tv rd) := by
  intro pins s σ H D I h
  refine wpAny_AugAssign_SubscriptAny (thn (ho pins s σ H _ I h) fun u s1 ⟨x, H1, I1, rx, q1⟩ => thn (hi pins s1 σ H1 _ I1 q1) fun iv s2 ⟨y, H2, I2, ry, a, v, ex, g, q2⟩ => ?_) ha
  subst ex
  obtain rfl : u = Value.ref a := rx
  refine d_getItem hu I2 g ry fun w' s3 I3 rw' => thn (hv pins s3 σ H2 _ I3 q2) fun w2 s4 ⟨y2, H3, I4, ry2, q3⟩ => thn (hop pins s4 σ H3 v y2 w' w2 _ I4 rw' ry2 q3) fun w3 s5 ⟨z, H4, I5, rz, H5, g5, q4⟩ => ?_
  exact d_setItem hu I5 g5 ry rz fun s6 I6 => ⟨σ, H5, I6, q4⟩
theorem ps_ddel (ho : PE X o td) (hi : PE X i ty) : PS X (.Delete [.Subscript o i tpos] pos) (sDDel td ty) := by
  intro pins s σ H D I h
  refine wpAny_Delete (wpAny_deleteEach_cons (wpAny_delete_Subscript (thn (ho pins s σ H _ I h) fun u s1 ⟨x, H1, I1, rx, q1⟩ => thn (hi pins s1 σ H1 _ I1 q1) fun iv s2 ⟨y, H2, I2, ry, a, kvs, k, ex, e, ey, l, q2⟩ => ?_)))
  subst ex ey
  obtain rfl : u = Value.ref a := rx
  exact d_delItem I2 e ry l fun s3 I3 => wpAny_deleteEach_nil ⟨σ, _, I3, q2⟩
end


/-! ### displays -/
theorem dk_empty {P : Program} {w : World} {H : Hp} (h : Heap) (hb : sysModules < h.objs.size) : ObjOk P w H (h.push { cls := .type "dict", data := .dict #[] }) h.objs.size (.dK []) :=
  ⟨Nat.zero_le _, beq_eq_false_iff_ne.mpr (Ne.symm (Nat.ne_of_lt hb)), [], .nil, Heap.DictOf.new h⟩
theorem dt_empty {P : Program} {w : World} {H : Hp} (h : Heap) (hb : sysModules < h.objs.size) : ObjOk P w H (h.push { cls := .type "dict", data := .dict #[] }) h.objs.size (.dT []) :=
  ⟨Nat.zero_le _, beq_eq_false_iff_ne.mpr (Ne.symm (Nat.ne_of_lt hb)), [], .nil, _, #[], 0, Heap.get?_push_size _ rfl, ⟨rfl, rfl, rfl⟩, rfl, rfl, List.nodup_nil⟩
/-- {}, to be a dict of the kind that is wanted -/
def tDNewK : TE := fun _ H Q => ∀ p, H p = none → Q (.ref p) (upd H p (.dK []))
def tDNewT : TE := fun _ H Q => ∀ p, H p = none → Q (.ref p) (upd H p (.dT []))
section
variable {X : Cx} {pos : Pos}
theorem pe_dnewK : PE X (.Dict [] [] pos) tDNewK := fun pins s σ H Q I h =>
  wpAny_Dict_empty ⟨.ref s.heap.objs.size, _, I.laid (a := s.heap.objs.size) (o := .dK []) (t' := s.toks) (fun _ _ q => Heap.get?_push_of_some _ q) (Nat.le_refl _) (dk_empty s.heap I.big), rfl, h _ (I.hok.fresh (Nat.le_refl _))⟩
theorem pe_dnewT : PE X (.Dict [] [] pos) tDNewT := fun pins s σ H Q I h =>
  wpAny_Dict_empty ⟨.ref s.heap.objs.size, _, I.laid (a := s.heap.objs.size) (o := .dT []) (t' := s.toks) (fun _ _ q => Heap.get?_push_of_some _ q) (Nat.le_refl _) (dt_empty s.heap I.big), rfl, h _ (I.hok.fresh (Nat.le_refl _))⟩
end

/-- the pairs of a display, from the left -/
def tPairs : List (TE × TE) → St → Hp → (List (V × V) → Hp → Prop) → Prop
  | [], _, H, Q => Q [] H
  | (tk, tv) :: r, σ, H, Q => tk σ H fun x H1 => tv σ H1 fun y H2 => tPairs r σ H2 fun ps H3 => Q ((x, y) :: ps) H3
abbrev VV : List (V × V) → List (Value × Value) → Prop := Paired fun p q => RelV p.1 q.1 ∧ RelV p.2 q.2
def PPs (X : Cx) (pos : Pos) (keys : List (Option Expr)) (values : List Expr) (trs : List (TE × TE)) : Prop :=
  ∀ (pins : List (Addr × Obj)) (s : Shared) (σ : St) (H : Hp) (Q : List (V × V) → Hp → Prop), Inv X pins σ H s → tPairs trs σ H Q →
    wpAny (model X.prog X.w) X.A (evalPairs (pairTrees keys values X.env pos)) (fun vs s' => ∃ ps H', Inv X pins σ H' s' ∧ VV ps vs ∧ Q ps H') X.xe s
theorem pps_nil {X : Cx} {pos : Pos} : PPs X pos [] [] [] := fun pins s σ H Q I h => pairTrees_nil_walk ⟨[], H, I, .nil, h⟩
theorem pps_cons {X : Cx} {pos : Pos} {k v : Expr} {ks : List (Option Expr)} {vs : List Expr} {tk tv : TE} {trs : List (TE × TE)} (hk : PE X k tk) (hv : PE X v tv) (hr : PPs X pos ks vs trs) :
    PPs X pos (some k :: ks) (v :: vs) ((tk, tv) :: trs) := fun pins s σ H Q I h =>
  pairTrees_cons_walk (thn (hk pins s σ H _ I h) fun u s1 ⟨x, H1, I1, rx, q1⟩ => thn (hv pins s1 σ H1 _ I1 q1) fun w2 s2 ⟨y, H2, I2, ry, q2⟩ =>
    thn (hr pins s2 σ H2 _ I2 q2) fun ws s3 ⟨ps, H3, I3, rel, q3⟩ => ⟨(x, y) :: ps, H3, I3, .cons ⟨rx, ry⟩ rel, q3⟩)

def mergeK (kvs more : List (Key × V)) : List (Key × V) := more.foldl (fun acc kv => putK acc kv.1 kv.2) kvs
theorem KV.merge : ∀ {more : List (Key × V)} {rs : List (Key × Value)} {kvs : List (Key × V)} {vs : List (Key × Value)}, KV more rs → KV kvs vs → KV (mergeK kvs more) (merged vs rs) := by
  intro more rs kvs vs r
  unfold KV at r
  induction r generalizing kvs vs with
  | nil => intro q; exact q
  | @cons p q ps qs h t ih =>
    intro r0
    have e : KV (putK kvs p.1 p.2) (stored vs q.1 q.2) := by
      have := r0.put p.1 h.2
      rw [← h.1]; exact this
    exact ih e
theorem length_mergeK : ∀ (more kvs : List (Key × V)), (mergeK kvs more).length ≤ kvs.length + more.length
  | [], kvs => by show kvs.length ≤ kvs.length + 0; omega
  | p :: r, kvs => by
    have h1 := length_mergeK r (putK kvs p.1 p.2)
    have h2 := length_putK kvs p.1 p.2
    show (mergeK (putK kvs p.1 p.2) r).length ≤ _
    rw [List.length_cons]; omega
theorem carries_of {P : Program} {w : World} : ∀ {kvs : List (Key × V)} {ws : List (Value × Value)}, VV (kvs.map fun kv => (kV kv.1, kv.2)) ws → ∃ rs, Carries (mixKind P w) ws rs ∧ KV kvs rs
  | [], _, r => by rw [List.map_nil] at r; cases r; exact ⟨[], True.intro, .nil⟩
  | p :: kvs, _, r => by
    rw [List.map_cons] at r
    cases r with
    | @cons a b as bs h t =>
      obtain ⟨rs, c, q⟩ := carries_of (P := P) (w := w) t
      obtain ⟨b1, b2⟩ := b
      exact ⟨(p.1, b2) :: rs, ⟨kV_is h.1, rfl, c⟩, .cons ⟨rfl, h.2⟩ q⟩
/-- {k: v, ..} with keys ints and texts; the new dict stands empty while the pairs are made -/
def tDisp (trs : List (TE × TE)) : TE := fun σ H Q => ∀ p, H p = none → tPairs trs σ (upd H p (.dK [])) fun ps H2 => H2 p = some (.dK []) ∧ ∃ kvs : List (Key × V), ps = kvs.map (fun kv => (kV kv.1, kv.2)) ∧ kvs.length ≤ 15 ∧ Q (.ref p) (upd H2 p (.dK (mergeK [] kvs)))
theorem pe_disp {X : Cx} {pos : Pos} {keys : List (Option Expr)} {values : List Expr} {trs : List (TE × TE)} (h : PPs X pos keys values trs) (hall : keys.all (·.isSome) = true) (hl : keys.length = values.length) (h0 : keys ≠ [])
    (h15 : keys.length ≤ 15) : PE X (.Dict keys values pos) (tDisp trs) := by
  intro pins s σ H Q I q
  have hn := I.hok.fresh (Nat.le_refl s.heap.objs.size)
  have I1 := I.laid (a := s.heap.objs.size) (o := .dK []) (h' := s.heap.push { cls := .type "dict", data := .dict #[] }) (t' := s.toks) (fun _ _ q => Heap.get?_push_of_some _ q) (Nat.le_refl _) (dk_empty s.heap I.big)
  refine wpAny_Dict_walk (knd := mixKind X.prog X.w) hall hl h0 h15 (thn (h pins _ σ _ _ I1 (q _ hn)) fun ws s2 ⟨ps, H2, I2, rel, e, kvs, ep, lk, q2⟩ => ?_)
  subst ep
  obtain ⟨rs, c, rk⟩ := carries_of (P := X.prog) (w := X.w) rel
  obtain ⟨z, hd, vs0, r0, dd⟩ := dk_of I2.hok e
  cases r0
  refine ⟨rs, c, dd, fun h' dd' hs => ⟨.ref s.heap.objs.size, _, ?_, rfl, q2⟩⟩
  have hz : (mergeK [] kvs).length ≤ sizeLine := by
    have h1 := length_mergeK kvs []
    rw [List.length_nil] at h1
    rw [sizeLine_eq]; omega
  have he : ∃ q, h'.get? s.heap.objs.size = some q := let ⟨q, _, _, hq, _⟩ := dd'; ⟨q, hq⟩
  exact d_write I2 (by rw [e]; exact True.intro) hs he (dk_new hz hd (rk.merge .nil) dd')


/-! ### methods -/
/-- a method call o.m(e) of a built-in, with one argument: what must be seen of the text -/
structure M1 (X : Cx) (o : Expr) (m : Str) (apos : Pos) (e : Expr) (cpos : Pos) : Prop where
  base : attributeBase o m X.env (eval o X.env) = eval o X.env
  few : ((backTo cpos (starEach [e] X.env)).all (fun x => !x.1) && (backToKw cpos (keywordEach [] X.env)).all (fun x => x.1.isSome)
    && decide (([e] : List Expr).length + ([] : List Keyword).length + (if ([] : List Keyword).isEmpty then 0 else 1) < 30)) = true
  line : (apos.endLine == cpos.line) = true
  trees : backTo cpos (starEach [e] X.env) = [(false, eval e X.env)]
structure M2 (X : Cx) (o : Expr) (m : Str) (apos : Pos) (e f : Expr) (cpos : Pos) : Prop where
  base : attributeBase o m X.env (eval o X.env) = eval o X.env
  few : ((backTo cpos (starEach [e, f] X.env)).all (fun x => !x.1) && (backToKw cpos (keywordEach [] X.env)).all (fun x => x.1.isSome)
    && decide (([e, f] : List Expr).length + ([] : List Keyword).length + (if ([] : List Keyword).isEmpty then 0 else 1) < 30)) = true
  line : (apos.endLine == cpos.line) = true
  trees : backTo cpos (starEach [e, f] X.env) = [(false, eval e X.env), (false, eval f X.env)]

/-- a is a dict, whatever its keys -/
def IsD (H : Hp) (a : Addr) : Prop := (∃ kvs, Rd H a (.dK kvs)) ∨ ∃ kvs, Rd H a (.dT kvs)
theorem isD_at {X : Cx} {pins : List (Addr × Obj)} {σ : St} {H : Hp} {s : Shared} {a : Addr} (I : Inv X pins σ H s) (d : IsD H a) :
    s.TypeIs (.ref a) "dict" ∧ (∀ b, Value.ref a = .ref b → ∃ ob, s.heap.get? b = some ob ∧ ob.dict = none) ∧ (a == sysModules) = false := by
  rcases d with ⟨kvs, e⟩ | ⟨kvs, e⟩
  · obtain ⟨_, hd, vs, _, dd⟩ := dk_rd I.hok e
    refine ⟨dd.typeIs, fun b q => ?_, hd⟩
    cases q
    obtain ⟨ob, _, _, h1, h2, _⟩ := dd
    exact ⟨ob, h1, h2.2.1⟩
  · obtain ⟨_, hd, xs, _, dd⟩ := dt_rd I.hok e
    refine ⟨dd.typeIs, fun b q => ?_, hd⟩
    cases q
    obtain ⟨ob, _, _, h1, h2, _⟩ := dd
    exact ⟨ob, h1, h2.2.1⟩

section
variable {X : Cx} {pins : List (Addr × Obj)} {σ : St} {H : Hp} {s : Shared} {a : Addr} {y d : V} {u r : Value} {o : Option V} {A : Around} {E : Value → Shared → Prop}
/-- d.get(y) -/
theorem d_get1 {Q : Value → Shared → Prop} (hu : A.units + 1 < cLine) (I : Inv X pins σ H s) (g : DGet H a y o) (ry : RelV y u) (h : ∀ w' s', Inv X pins σ H s' → RelV (o.getD .non) w' → Q w' s') :
    wpAny (model X.prog X.w) A (call (.builtin "dict.get") [.ref a, u]) Q E s := by
  rcases g with ⟨kvs, k, e, ey, l⟩ | ⟨kvs, k, b, e, ey, eb, l⟩
  · subst ey
    obtain ⟨z, hd, vs, rel, dd⟩ := dk_rd I.hok e
    refine call_meetsIn PySem.F.slot_dict_get dd.typeIs PySem.F.entry_dict_get (PySem.F.args_dict_get_2 _ _) (meets_dict_get (mixKind X.prog X.w) a (kV_is ry) hd) ⟨_, dd.mapOf, h _ _ (I.tok _) ?_⟩
    rw [l]
    exact (rel.val k).getD rfl
  · subst ey
    cases (show u = Value.ref b from ry)
    obtain ⟨z, hd, xs, rel, dd⟩ := dt_rd I.hok e
    refine call_meetsIn PySem.F.slot_dict_get dd.typeIs PySem.F.entry_dict_get (PySem.F.args_dict_get_2 _ _) (meetsH_dict_get (tupleKind (mixKind X.prog X.w)) a b hd) ⟨tupleKind_room_in1 hu, k, xs, key_of I.hok eb, dd, h _ _ (I.tok _) ?_⟩
    rw [l]
    exact (rel.val k).getD rfl
/-- d.get(y, x) -/
theorem d_get2 {Q : Value → Shared → Prop} (hu : A.units + 1 < cLine) (I : Inv X pins σ H s) (g : DGet H a y o) (ry : RelV y u) (rd : RelV d r) (h : ∀ w' s', Inv X pins σ H s' → RelV (o.getD d) w' → Q w' s') :
    wpAny (model X.prog X.w) A (call (.builtin "dict.get") [.ref a, u, r]) Q E s := by
  rcases g with ⟨kvs, k, e, ey, l⟩ | ⟨kvs, k, b, e, ey, eb, l⟩
  · subst ey
    obtain ⟨z, hd, vs, rel, dd⟩ := dk_rd I.hok e
    refine call_meetsIn PySem.F.slot_dict_get dd.typeIs PySem.F.entry_dict_get (PySem.F.args_dict_get_3 _ _ _) (meets_dict_get_default (mixKind X.prog X.w) a (kV_is ry) hd r) ⟨_, dd.mapOf, h _ _ (I.tok _) ?_⟩
    rw [l]
    exact (rel.val k).getD rd
  · subst ey
    cases (show u = Value.ref b from ry)
    obtain ⟨z, hd, xs, rel, dd⟩ := dt_rd I.hok e
    refine call_meetsIn PySem.F.slot_dict_get dd.typeIs PySem.F.entry_dict_get (PySem.F.args_dict_get_3 _ _ _) (meetsH_dict_get_default (tupleKind (mixKind X.prog X.w)) a b hd r) ⟨tupleKind_room_in1 hu, k, xs, key_of I.hok eb, dd, h _ _ (I.tok _) ?_⟩
    rw [l]
    exact (rel.val k).getD rd
end

def tDGet1 (td ty : TE) : TE := fun σ H Q => td σ H fun x H1 => ∃ a, x = .ref a ∧ IsD H1 a ∧ ty σ H1 fun y H2 => ∃ o, DGet H2 a y o ∧ Q (o.getD .non) H2
def tDGet2 (td ty tx : TE) : TE := fun σ H Q => td σ H fun x H1 => ∃ a, x = .ref a ∧ IsD H1 a ∧ ty σ H1 fun y H2 => tx σ H2 fun z H3 => ∃ o, DGet H3 a y o ∧ Q (o.getD z) H3
/-- d.pop(k): there; d.pop(k, x): there or not -/
def tDPop1 (td ty : TE) : TE := fun σ H Q => td σ H fun x H1 => ∃ a, x = .ref a ∧ IsD H1 a ∧ ty σ H1 fun y H2 => ∃ kvs k v, H2 a = some (.dK kvs) ∧ y = kV k ∧ valV kvs k = some v ∧ Q v (upd H2 a (.dK (dropK kvs k)))
def tDPop2 (td ty tx : TE) : TE := fun σ H Q => td σ H fun x H1 => ∃ a, x = .ref a ∧ IsD H1 a ∧ ty σ H1 fun y H2 => tx σ H2 fun z H3 => ∃ kvs k, H3 a = some (.dK kvs) ∧ y = kV k ∧
  (∀ v, valV kvs k = some v → Q v (upd H3 a (.dK (dropK kvs k)))) ∧ (valV kvs k = none → Q z H3)
section
variable {X : Cx} {o e f : Expr} {apos cpos : Pos} {td ty tx : TE}
theorem pe_dget1 (hu : X.A.units + 1 < cLine) (ho : PE X o td) (he : PE X e ty) (m : M1 X o "get" apos e cpos) : PE X (.Call (.Attribute o "get" apos) [e] [] cpos) (tDGet1 td ty) := by
  intro pins s σ H Q I h
  refine wpAny_Call_method m.base m.few m.line PySem.F.plainAttrs_dict PySem.F.slot_dict_get PySem.F.type_dict_get (thn (ho pins s σ H _ I h) fun u s1 ⟨x, H1, I1, rx, a, ex, d, q1⟩ => ?_)
  subst ex
  obtain rfl : u = Value.ref a := rx
  obtain ⟨t1, t2, _⟩ := isD_at I1 d
  refine ⟨t1, t2, ?_⟩
  rw [m.trees]
  refine Calls.callWith_builtin rfl (Calls.evalArgs_plain (Calls.spliced_cons (thn (he pins s1 σ H1 _ I1 q1) fun iv s2 ⟨y, H2, I2, ry, ov, g, q2⟩ => Calls.spliced_nil ?_)))
  exact d_get1 hu I2 g ry fun w' s3 I3 rw' => ⟨_, H2, I3, rw', q2⟩
theorem pe_dget2 (hu : X.A.units + 1 < cLine) (ho : PE X o td) (he : PE X e ty) (hf : PE X f tx) (m : M2 X o "get" apos e f cpos) : PE X (.Call (.Attribute o "get" apos) [e, f] [] cpos) (tDGet2 td ty tx) := by
  intro pins s σ H Q I h
  refine wpAny_Call_method m.base m.few m.line PySem.F.plainAttrs_dict PySem.F.slot_dict_get PySem.F.type_dict_get (thn (ho pins s σ H _ I h) fun u s1 ⟨x, H1, I1, rx, a, ex, d, q1⟩ => ?_)
  subst ex
  obtain rfl : u = Value.ref a := rx
  obtain ⟨t1, t2, _⟩ := isD_at I1 d
  refine ⟨t1, t2, ?_⟩
  rw [m.trees]
  refine Calls.callWith_builtin rfl (Calls.evalArgs_plain (Calls.spliced_cons (thn (he pins s1 σ H1 _ I1 q1) fun iv s2 ⟨y, H2, I2, ry, q2⟩ =>
    Calls.spliced_cons (thn (hf pins s2 σ H2 _ I2 q2) fun fv s3 ⟨z, H3, I3, rz, ov, g, q3⟩ => Calls.spliced_nil ?_))))
  exact d_get2 hu I3 g ry rz fun w' s4 I4 rw' => ⟨_, H3, I4, rw', q3⟩
theorem pe_dpop1 (ho : PE X o td) (he : PE X e ty) (m : M1 X o "pop" apos e cpos) : PE X (.Call (.Attribute o "pop" apos) [e] [] cpos) (tDPop1 td ty) := by
  intro pins s σ H Q I h
  refine wpAny_Call_method m.base m.few m.line PySem.F.plainAttrs_dict PySem.F.slot_dict_pop PySem.F.type_dict_pop (thn (ho pins s σ H _ I h) fun u s1 ⟨x, H1, I1, rx, a, ex, d, q1⟩ => ?_)
  subst ex
  obtain rfl : u = Value.ref a := rx
  obtain ⟨t1, t2, _⟩ := isD_at I1 d
  refine ⟨t1, t2, ?_⟩
  rw [m.trees]
  refine Calls.callWith_builtin rfl (Calls.evalArgs_plain (Calls.spliced_cons (thn (he pins s1 σ H1 _ I1 q1) fun iv s2 ⟨y, H2, I2, ry, kvs, k, v, ea, ey, l, q2⟩ => Calls.spliced_nil ?_)))
  subst ey
  exact d_pop I2 ea ry l (.inl rfl) fun w' s3 I3 rw' => ⟨v, _, I3, rw', q2⟩
theorem pe_dpop2 (ho : PE X o td) (he : PE X e ty) (hf : PE X f tx) (m : M2 X o "pop" apos e f cpos) : PE X (.Call (.Attribute o "pop" apos) [e, f] [] cpos) (tDPop2 td ty tx) := by
  intro pins s σ H Q I h
  refine wpAny_Call_method m.base m.few m.line PySem.F.plainAttrs_dict PySem.F.slot_dict_pop PySem.F.type_dict_pop (thn (ho pins s σ H _ I h) fun u s1 ⟨x, H1, I1, rx, a, ex, d, q1⟩ => ?_)
  subst ex
  obtain rfl : u = Value.ref a := rx
  obtain ⟨t1, t2, _⟩ := isD_at I1 d
  refine ⟨t1, t2, ?_⟩
  rw [m.trees]
  refine Calls.callWith_builtin rfl (Calls.evalArgs_plain (Calls.spliced_cons (thn (he pins s1 σ H1 _ I1 q1) fun iv s2 ⟨y, H2, I2, ry, q2⟩ =>
    Calls.spliced_cons (thn (hf pins s2 σ H2 _ I2 q2) fun fv s3 ⟨z, H3, I3, rz, kvs, k, ea, ey, q3, q4⟩ => Calls.spliced_nil ?_))))
  subst ey
  cases l : valV kvs k with
  | some v => exact d_pop I3 ea ry l (.inr ⟨fv, rfl⟩) fun w' s4 I4 rw' => ⟨v, _, I4, rw', q3 v l⟩
  | none => exact d_popD I3 ea ry l fun s4 I4 => ⟨z, H3, I4, rz, q4 l⟩
end

/-! ### dict(d): a copy -/
section
variable {X : Cx} {pins : List (Addr × Obj)} {σ : St} {H : Hp} {s : Shared} {a : Addr} {kvs : List (Key × V)} {A : Around} {E : Value → Shared → Prop}
theorem d_copyOf {Q : Value → Shared → Prop} (I : Inv X pins σ H s) (e : Rd H a (.dK kvs)) (h : ∀ p s', H p = none → Inv X pins σ (upd H p (.dK kvs)) s' → Q (.ref p) s') : wpAny (model X.prog X.w) A (call (.type "dict") [.ref a]) Q E s := by
  obtain ⟨z, hd, vs, rel, dd⟩ := dk_rd I.hok e
  refine kt_call_dict hd dd (by rw [← rel.length]; exact z) fun h' dd' hs => ?_
  refine h _ _ (I.hok.fresh (Nat.le_refl _)) (I.laid (a := s.heap.objs.size) (o := .dK kvs) (t' := s.toks) (fun b q hq => ?_) (Nat.le_refl _) (dk_new z (beq_eq_false_iff_ne.mpr (Ne.symm (Nat.ne_of_lt I.big))) rel dd'))
  exact (hs.2 b (Nat.ne_of_lt (Heap.lt_size hq))).trans (Heap.get?_push_of_some _ hq)
end


section
variable {X : Cx} {pins : List (Addr × Obj)} {σ : St} {H : Hp} {s : Shared} {a : Addr} {y : V} {u : Value} {A : Around} {E : Value → Shared → Prop}
/-- d[y], not there: a KeyError -/
theorem d_missing {Q : Value → Shared → Prop} (hu : A.units + 1 < cLine) (hh : A.handled = none) (I : Inv X pins σ H s) (g : DGet H a y none) (ry : RelV y u)
    (h : ∀ h' e t', Heap.NewExc s.heap h' e "KeyError" → E (.ref e) { s with heap := h', toks := t' }) : wpAny (model X.prog X.w) A (getItem (.ref a) u) Q E s := by
  rcases g with ⟨kvs, k, e, ey, l⟩ | ⟨kvs, k, b, e, ey, eb, l⟩
  · subst ey
    obtain ⟨z, hd, vs, rel, dd⟩ := dk_rd I.hok e
    have hn : valueAt vs k = none := RelO.none_of (by rw [l]; exact rel.val k)
    exact wpAny_getItem_missing_of (kV_is ry) hd hh dd.mapOf hn fun h' ex ne => h h' ex _ ne
  · subst ey
    cases (show u = Value.ref b from ry)
    obtain ⟨z, hd, xs, rel, dd⟩ := dt_rd I.hok e
    have hn : (atKey xs k).map (·.2) = none := RelO.none_of (by rw [l]; exact rel.val k)
    exact wpAny_getItem_missing_heap (tupleKind_room_in1 hu) (key_of I.hok eb) hd hh dd (Option.map_eq_none_iff.mp hn) fun h' ex ne => h h' ex _ ne
end
end L2

namespace Att
open PySem PySem.W PySem.Calls PyProof.Rows

/-! ### the script -/
theorem ints_of_wellAll {P : Params} {h : Heap} : ∀ (ns : List Int) (vs : List Value), WellAll P h vs (ns.map WData.int) → IntsAre vs ns := by
  intro ns
  induction ns with
  | nil =>
    intro vs w
    rw [List.map_nil] at w
    cases w
    exact .nil
  | cons n ns ih =>
    intro vs w
    rw [List.map_cons] at w
    cases w with
    | cons a b =>
      cases a
      exact .cons _ _ (ih _ b)

theorem script_of {l : OpenLaw} {n : Nat} (hn : l.most = some n) {P : Params} {h : Heap} {args : List WData} {vals : List Value}
    (hpre : l.row.toRowW.claim.pre args = true) (hwl : WellAll P h vals args) :
    ∃ a vs ns, vals = [Value.ref a] ∧ args = [WData.list (ns.map WData.int)] ∧ h.get? a = some { cls := .type "list", data := .seq vs.toArray } ∧ IntsAre vs ns ∧ ns.length ≤ n := by
  have hsh : WShape.hasAll [] args [.list .int] = true := (pre_splitW hpre).1
  have hc : l.pre.holds [] { args := args } = true := (pre_splitW hpre).2
  obtain ⟨d, r, rfl, h1, h2⟩ := hasAllW_cons hsh
  obtain rfl := hasAllW_nil h2
  obtain ⟨xs, rfl, h3⟩ := hasW_list h1
  obtain ⟨ns, rfl⟩ := items_int h3
  have hlen : ns.length ≤ n := by
    unfold OpenLaw.pre at hc
    have h4 : (WTm.not (.lt (.lit (.int (n : Int))) (.len (.arg 0)))).holds [] { args := [.list (ns.map .int)] } = true := by
      have h4 := (holds_andW hc).1
      rw [hn] at h4
      exact h4
    have h5 := condW_of h4 (w_not (w_lt w_lit (w_len_list (w_arg rfl))))
    rw [List.length_map] at h5
    refine Nat.le_of_not_lt fun q => ?_
    have q' : (n : Int) < ((ns.length : Nat) : Int) := by omega
    first
      | (rw [decide_eq_true q'] at h5; exact absurd h5 (by decide))
      | (simp at h5; omega)
  cases hwl with
  | cons w1 w2 =>
    cases w2
    cases w1 with
    | list ho hall => exact ⟨_, _, ns, rfl, rfl, ho, ints_of_wellAll ns _ hall, hlen⟩

theorem post_true (l : OpenLaw) (args : List WData) : l.row.toRowW.claim.post args (.bool true) args = true :=
  postW_of (r := l.row.toRowW) (X := (true == true))
    (show WShape.has [] (.bool true) .bool = true by first | rfl | decide | simp [WShape.has, WShape.arms, WShape.armsAll])
    (show (WTm.eq .res (.lit (.bool true))).value [] { args := args, res := some (.bool true), after := args } = some (.bool (true == true)) from w_eq_bool (w_res rfl) w_lit) rfl

/-! ### the attachment: holds_open's last premise (the goal 'hc' behind k_head) from a wpAny of the law's body -/
theorem attach {l : OpenLaw} {n : Nat} {q : Program} {loose : List Str} {XP : (Str → Option Value) → Heap → Prop} {YP : World → Heap → Prop} {d : DefRec} {x : Str}
    (hn : l.most = some n) (hdf : d.params.defaults = [])
    (hbind : ∀ pm cd doc v : Value, bindArgs (docDef d.name d.params d.body d.scope pm cd doc) ⟨[v], []⟩ = pure [(x, v)])
    (hx : d.scope.names.lookup x = some .local ∨ d.scope.names.lookup x = some .cell)
    (hk : d.scope.kind = .function) (hco : d.scope.isCoroutine = false) (hgen : d.scope.isGenerator = false)
    (body : ∀ (w : World) (s₀ s₁ s : Shared) (mg mb : Str → Option Value) (fa : Addr) (o : Obj) (pm cd doc : Value) (a : Addr) (vs : List Value) (ns : List Int),
      Ground q loose [] XP w s₀ mg mb s₁.heap → YP w s₁.heap →
      s₁.heap.get? fa = some o → o.data = .func (docDef d.name d.params d.body d.scope pm cd doc) → s₁.heap.CodeRec cd d.name → mg d.name = some (.ref fa) →
      s₁.heap.get? a = some { cls := .type "list", data := .seq vs.toArray } → IntsAre vs ns → ns.length ≤ n →
      s.gens = #[] → s.os = s₁.os →
      Fr s₁.heap s₁.heap.objs.size s.heap (bindL (envOfC d.name d.scope s₁.heap.objs.size fa cd).kindOf [(x, .ref a)] fun _ => none) →
      Cl s₁.heap.objs.size (cellsFrom (s₁.heap.objs.size + 1) d.scope.names []) s.heap (bindC (envOfC d.name d.scope s₁.heap.objs.size fa cd).kindOf [(x, .ref a)] fun _ => none) →
      wpAny (model l.prog w) (callerA.deeper (envOfC d.name d.scope s₁.heap.objs.size fa cd)) (execs d.body (envOfC d.name d.scope s₁.heap.objs.size fa cd))
        (fun f s' => f = .ret (.bool true) ∧ OldK s₁.heap s'.heap ∧ s'.os = s₁.os ∧ AllBare s'.gens) (fun _ _ => False) s) :
    WalkO q loose XP YP l.row.toRowW d [] (fun f vs => PySem.call f vs) := by
  intro w s₀ s₁ mg mb G Y fa o pm cd doc dV kV ho hd hcd hD hmg hg args vals as hpre hlay hrd hwl hlo
  obtain rfl : dV = .none := Dflts.none hD hdf
  obtain rfl : kV = .none := Dflts.noKw hD
  obtain ⟨a, vs, ns, rfl, rfl, hobj, hints, hlen⟩ := script_of hn hpre hwl
  refine enter_call ?_
  refine call_cells_ret (o := o) (by rw [depth_caller]; decide) ho (fd_plain hd) G.T.nolimit hcd (hbind pm cd doc (.ref a)) (fun y hy => ?_) (fun h₁ tk F X => ?_) hco hgen hk
  · obtain rfl : y = (x, Value.ref a) := List.mem_singleton.mp hy
    rcases hx with e | e
    · exact .inl e
    · exact .inr ⟨e, cellsFrom_some _ _ _ (.inl e)⟩
  · refine wpAny_mono (body w s₀ s₁ { s₁ with heap := h₁, toks := tk } mg mb fa o pm cd doc a vs ns G Y ho (fd_plain hd) hcd hmg hobj hints hlen hg rfl F X) (fun f s' hq => ?_) (fun _ _ hq => hq)
    obtain ⟨rfl, h2, h3, h4⟩ := hq
    exact ⟨.inl ⟨.bool true, .bool true, [], rfl, fun _ => rfl, .bool true, post_true l _, fun _ => ⟨List.Pairwise.nil, fun _ hm => (nomatch hm)⟩⟩, h2, h3, h4⟩

/-- the same from a codeAny of the CALL (for a layer whose function contracts speak of calls) -/
theorem attach_call {l : OpenLaw} {n : Nat} {q : Program} {loose : List Str} {XP : (Str → Option Value) → Heap → Prop} {YP : World → Heap → Prop} {d : DefRec}
    (hn : l.most = some n) (hdf : d.params.defaults = [])
    (call : ∀ (w : World) (s₀ s₁ : Shared) (mg mb : Str → Option Value) (fa : Addr) (o : Obj) (pm cd doc : Value) (a : Addr) (vs : List Value) (ns : List Int),
      Ground q loose [] XP w s₀ mg mb s₁.heap → YP w s₁.heap →
      s₁.heap.get? fa = some o → o.data = .func (docDef d.name d.params d.body d.scope pm cd doc) → s₁.heap.CodeRec cd d.name → mg d.name = some (.ref fa) →
      s₁.heap.get? a = some { cls := .type "list", data := .seq vs.toArray } → IntsAre vs ns → ns.length ≤ n → s₁.gens = #[] →
      codeAny (model l.prog w) callerA (.call (.ref fa) ⟨[.ref a], []⟩) (fun r s' => r = .ok (.ret (.bool true)) ∧ OldK s₁.heap s'.heap ∧ s'.os = s₁.os ∧ AllBare s'.gens) s₁) :
    WalkO q loose XP YP l.row.toRowW d [] (fun f vs => PySem.call f vs) := by
  intro w s₀ s₁ mg mb G Y fa o pm cd doc dV kV ho hd hcd hD hmg hg args vals as hpre hlay hrd hwl hlo
  obtain rfl : dV = .none := Dflts.none hD hdf
  obtain rfl : kV = .none := Dflts.noKw hD
  obtain ⟨a, vs, ns, rfl, rfl, hobj, hints, hlen⟩ := script_of hn hpre hwl
  refine enter_call (codeAny_mono (call w s₀ s₁ mg mb fa o pm cd doc a vs ns G Y ho (fd_plain hd) hcd hmg hobj hints hlen hg) fun r s' hq => ?_)
  obtain ⟨rfl, h2, h3, h4⟩ := hq
  exact ⟨.inl ⟨.bool true, .bool true, [], rfl, fun _ => rfl, .bool true, post_true l _, fun _ => ⟨List.Pairwise.nil, fun _ hm => (nomatch hm)⟩⟩, h2, h3, h4⟩

/-- the same where the top left finished generators (o_head chose holds_openN): nothing may have changed at all and no generator may be left -/
theorem attachN {l : OpenLaw} {n : Nat} {q : Program} {loose : List Str} {XP : (Str → Option Value) → Heap → Prop} {YP : World → Heap → Prop} {d : DefRec} {x : Str}
    (hn : l.most = some n) (hdf : d.params.defaults = [])
    (hbind : ∀ pm cd doc v : Value, bindArgs (docDef d.name d.params d.body d.scope pm cd doc) ⟨[v], []⟩ = pure [(x, v)])
    (hx : d.scope.names.lookup x = some .local ∨ d.scope.names.lookup x = some .cell)
    (hk : d.scope.kind = .function) (hco : d.scope.isCoroutine = false) (hgen : d.scope.isGenerator = false)
    (body : ∀ (w : World) (s₀ s₁ s : Shared) (mg mb : Str → Option Value) (fa : Addr) (o : Obj) (pm cd doc : Value) (a : Addr) (vs : List Value) (ns : List Int),
      Ground q loose [] XP w s₀ mg mb s₁.heap → YP w s₁.heap →
      s₁.heap.get? fa = some o → o.data = .func (docDef d.name d.params d.body d.scope pm cd doc) → s₁.heap.CodeRec cd d.name → mg d.name = some (.ref fa) →
      s₁.heap.get? a = some { cls := .type "list", data := .seq vs.toArray } → IntsAre vs ns → ns.length ≤ n →
      s.gens = #[] → s.os = s₁.os →
      Fr s₁.heap s₁.heap.objs.size s.heap (bindL (envOfC d.name d.scope s₁.heap.objs.size fa cd).kindOf [(x, .ref a)] fun _ => none) →
      Cl s₁.heap.objs.size (cellsFrom (s₁.heap.objs.size + 1) d.scope.names []) s.heap (bindC (envOfC d.name d.scope s₁.heap.objs.size fa cd).kindOf [(x, .ref a)] fun _ => none) →
      wpAny (model l.prog w) (callerA.deeper (envOfC d.name d.scope s₁.heap.objs.size fa cd)) (execs d.body (envOfC d.name d.scope s₁.heap.objs.size fa cd))
        (fun f s' => f = .ret (.bool true) ∧ (∀ b o, s₁.heap.get? b = some o → s'.heap.get? b = some o) ∧ s'.os = s₁.os ∧ s'.gens = #[]) (fun _ _ => False) s) :
    WalkN q loose XP YP l.row.toRowW d [] (fun f vs => PySem.call f vs) := by
  intro w s₀ s₁ mg mb G Y fa o pm cd doc dV kV ho hd hcd hD hmg hg args vals as hpre hlay hrd hwl hlo
  obtain rfl : dV = .none := Dflts.none hD hdf
  obtain rfl : kV = .none := Dflts.noKw hD
  obtain ⟨a, vs, ns, rfl, rfl, hobj, hints, hlen⟩ := script_of hn hpre hwl
  refine enter_callW ?_
  refine call_cells_ret (o := o) (by rw [depth_caller]; decide) ho (fd_plain hd) G.T.nolimit hcd (hbind pm cd doc (.ref a)) (fun y hy => ?_) (fun h₁ tk F X => ?_) hco hgen hk
  · obtain rfl : y = (x, Value.ref a) := List.mem_singleton.mp hy
    rcases hx with e | e
    · exact .inl e
    · exact .inr ⟨e, cellsFrom_some _ _ _ (.inl e)⟩
  · refine wpAny_mono (body w s₀ s₁ { s₁ with heap := h₁, toks := tk } mg mb fa o pm cd doc a vs ns G Y ho (fd_plain hd) hcd hmg hobj hints hlen hg rfl F X) (fun f s' hq => ?_) (fun _ _ hq => hq)
    obtain ⟨rfl, h2, h3, h4⟩ := hq
    exact ⟨.inl ⟨.bool true, .bool true, [], rfl, fun _ => rfl, .bool true, post_true l _, fun _ => ⟨List.Pairwise.nil, fun _ hm => (nomatch hm)⟩⟩, h2, h3, h4⟩

/-! ### rules over ANY heap (no ledger) from facts about the written part K: the library's own take a ledger (News) for what they write -/
section
variable {prog : Program} {w : World} {A : Around} {E : Value → Shared → Prop} {s : Shared} {K : Frag}

/-- a def of the module, or a method (qual 'C.m'), entered: the frame is the next address; cells behind it -/
theorem call_fn {R : Result → Shared → Prop} {name qual : Str} {params : Arguments} {body : List Stmt} {scope : Scope} {dV kV doc pm cdv ct oc : Value} {an od : Option Addr} {osl : Array (Option Value)} {f : Addr} {args : Args} {binds : List (Str × Value)}
    (X : K.In s.heap) (hlim : s.heap.NoLimit) (ho : K.lookup f = some ⟨oc, od, .func (fnOf name qual params body scope dV kV doc pm an cdv ct), osl⟩) (hcd : codeIn K cdv qual = true) (hroom : A.depth < recursionLimit)
    (hbind : BindsTo s (fnOf name qual params body scope dV kV doc pm an cdv ct) args binds)
    (hkind : (binds.all fun y => scope.names.lookup y.1 == some .local || scope.names.lookup y.1 == some .cell) = true)
    (h : ∀ s₁, InCallC s s.heap.objs.size (bindL (envOfC qual scope s.heap.objs.size f cdv).kindOf binds fun _ => none) (cellsFrom (s.heap.objs.size + 1) scope.names [])
        (bindC (envOfC qual scope s.heap.objs.size f cdv).kindOf binds fun _ => none) s₁ →
      wpAny (model prog w) (A.deeper (envOfC qual scope s.heap.objs.size f cdv)) (execs body (envOfC qual scope s.heap.objs.size f cdv))
        (fun fl s' => R (.ok (.ret (match fl with | .ret v => v | _ => .none))) s')
        (fun e s' => wpAny (model prog w) (A.deeper (envOfC qual scope s.heap.objs.size f cdv)) (leaving (envOfC qual scope s.heap.objs.size f cdv) e) (fun _ s'' => R (.error e) s'') (fun e' s'' => R (.error e') s'') s') s₁)
    (hco : scope.isCoroutine = false) (hgen : scope.isGenerator = false) (hk : scope.kind = .function) : codeAny (model prog w) A (.call (.ref f) args) R s := by
  refine codeAny_call_function hroom (X _ _ ho) rfl hco hgen rfl (codeRec_of X hcd) (hbind _ _ _ _ ?_)
  refine wpAny_newFunctionEnv_cells hk (kindsX hkind _) fun env he s₁ x => ?_
  subst he
  exact ⟨hlim.keeps x.toInCall.keep, codeAny_func (h s₁ x)⟩

/-- C(..): dict at size, instance at size + 1, then __init__ -/
theorem make_obj {R : Result → Shared → Prop} {C fI : Addr} {rest : List Value} {kw : List (Str × Value)}
    (X : K.In s.heap) (hm : makesIn K C = true) (hi : findIn K (.ref C) "__init__" = some (some (.ref fI))) (hf : isFn K (.ref fI) = true)
    (h : codeAny (model prog w) (A.under (.builtin "type.__call__" ⟨.ref C :: rest, kw⟩)) (.call (.ref fI) ⟨.ref (s.heap.objs.size + 1) :: rest, kw⟩) (InitBack (s.heap.objs.size + 1) R)
      { s with heap := (s.heap.push emptyDict).push (instObj C s.heap.objs.size) }) : codeAny (model prog w) A (.call (.ref C) ⟨rest, kw⟩) R s := by
  obtain ⟨hh, g, d, t, os⟩ := s
  exact make_core (makes_of X hm) (looks_findIn X hi) (fun self => bind_fn X self (beq_iff_eq.mp hf)) (.inl rfl) h

/-- x.name where the instance's dict holds the name and the class does not -/
theorem get_field {x C : Addr} {ox : Obj} {es : List DictEntry} {n : Nat} {name : Str} {expr : Bool} {v : Value} {Q : Value → Shared → Prop}
    (X : K.In s.heap) (I : PySem.W.InstAt s.heap x ox C (some (dictOf es n))) (hg : plainGet K C name = true) (hh : hasDictIn K C = true) (ha : findIn K (.ref C) name = some none)
    (hl : getL name es = some (some v)) (hv : handedIn v = true) (h : Q v { s with toks := s.toks + 1 }) : wpAny (model prog w) A (getAttr (.ref x) name expr) Q E s :=
  get_value X I (plainGet_of hg).1 (findObj_own hh ha rfl hl) hv h

/-- x.m(..): the method found in the class -/
theorem get_method {x C f : Addr} {ox : Obj} {es : List DictEntry} {n : Nat} {name : Str} {pl : Sem Bool} {Q : Value × List Value → Shared → Prop}
    (X : K.In s.heap) (I : PySem.W.InstAt s.heap x ox C (some (dictOf es n))) (hg : plainGet K C name = true) (hf : findIn K (.ref C) name = some (some (.ref f))) (ht : isFn K (.ref f) = true)
    (hl : getL name es = some none) (h : Q (.ref f, [.ref x]) s) : wpAny (model prog w) A (getMethod (.ref x) name pl) Q E s :=
  method_fn X I (plainGet_of hg).1 (plainGet_of hg).2 hf (beq_iff_eq.mp ht) (by show (lookIn name (dictOf es n)).map _ = _; rw [lookIn_dict, hl]; rfl) h

/-! the whole heap as the ledger: makes every rule that writes through a ledger a rule over any heap -/
def noObjs (h : Heap) : Heap := { h with objs := #[] }
theorem noObjs_get (h : Heap) (b : Addr) : (noObjs h).get? b = none := by
  cases e : (noObjs h).get? b with
  | none => rfl
  | some o => exact absurd (Heap.lt_size e) (Nat.not_lt_zero _)
def ledger (h : Heap) (L d : Addr) : List (Addr × Obj) := (List.range h.objs.size).filterMap fun a => if a = L ∨ a = d then none else (h.get? a).map fun o => (a, o)
theorem mem_ledger {h : Heap} {L d a : Addr} {o : Obj} : (a, o) ∈ ledger h L d ↔ a ≠ L ∧ a ≠ d ∧ h.get? a = some o := by
  unfold ledger
  rw [List.mem_filterMap]
  constructor
  · rintro ⟨b, _, e⟩
    split at e
    · cases e
    · rename_i hb
      obtain ⟨o', ho, e'⟩ := Option.map_eq_some_iff.mp e
      cases e'
      exact ⟨fun q => hb (.inl q), fun q => hb (.inr q), ho⟩
  · rintro ⟨n1, n2, ho⟩
    refine ⟨a, List.mem_range.mpr (Heap.lt_size ho), ?_⟩
    rw [if_neg (show ¬ (a = L ∨ a = d) from fun q => q.elim n1 n2), ho] <;> rfl
theorem news_ledger {h : Heap} {L d : Addr} {od : Obj} (hne : d ≠ L) (ho : h.get? d = some od) : News (noObjs h) L h ([] ++ (d, od) :: ledger h L d) := by
  rintro ⟨a, o⟩ hp
  rcases List.mem_cons.mp hp with e | hp
  · cases e
    exact ⟨ho, hne, noObjs_get _ _⟩
  · obtain ⟨n1, n2, e⟩ := mem_ledger.mp hp
    exact ⟨e, n1, noObjs_get _ _⟩
theorem fr_all {h : Heap} {L : Addr} {m : Str → Option Value} (n : h.Ns L m) : Fr (noObjs h) L h m :=
  ⟨n, fun b o e => (by rw [noObjs_get] at e; cases e), Nat.zero_le _⟩
/-- Upd of the head entry (for append_K, setItem_K ..) -/
theorem upd_ledger {h : Heap} {L d : Addr} {o o' : Obj} : Upd d o o' ((d, o) :: ledger h L d) ((d, o') :: ledger h L d) :=
  .head fun ⟨_, _⟩ hp => (mem_ledger.mp hp).2.1

/-- x.name = v over any heap: L is any namespace of the heap (the frame's, say): its map stays, its object is not told; all else but the dict stays -/
theorem set_field {x C dx L : Addr} {ox : Obj} {m : Str → Option Value} {es es' : List DictEntry} {n n' : Nat} {name : Str} {v : Value} {Q : Unit → Shared → Prop}
    (X : K.In s.heap) (I : PySem.W.InstAt s.heap x ox C (some (dictOf es n))) (hd : ox.dict = some dx) (hL : s.heap.Ns L m) (hne : dx ≠ L)
    (hs : findIn K (.ref C) "__setattr__" = some (some (.builtin "object.__setattr__"))) (hp : plainOver K C = true) (ht : takerIn K C name = some none) (hh : hasDictIn K C = true) (hl : (getL name es).isSome = true)
    (e : (putL name (PyData.keyHash w.params name) (.str name (s.toks + 1)) v es, putN name es n) = (es', n')) (hz : es'.length ≤ 1000)
    (h : ∀ h' : Heap, h'.Ns L m → h'.get? dx = some (dictOf es' n') → (∀ b o, b ≠ dx → b ≠ L → s.heap.get? b = some o → h'.get? b = some o) → Q () { s with heap := h', toks := s.toks + 2 }) :
    wpAny (model prog w) A (setAttr (.ref x) name v) Q E s := by
  obtain ⟨e1, e2⟩ := Prod.mk.inj e
  have hdx : s.heap.get? dx = some (dictOf es n) := by
    have := I.dict
    rw [hd] at this
    exact this
  refine set_plain X I hs (osa_dict (s := { s with toks := s.toks + 1 }) (h₀ := noObjs s.heap) (L := L) (m := m) (od := dictOf es n) (od' := dictOf es' n') (es := es') (n := n') (pre := []) (post := ledger s.heap L dx)
    (fr_all hL) (news_ledger hne hdx) X I hd hp ht hh hl (fun _ q => nomatch q) (fun ⟨_, _⟩ q => (mem_ledger.mp q).2.1) (by rw [putName_dict, e1, e2]) rfl hz fun h' F' N' => ?_)
  exact h h' F'.ns (N'.get (List.Mem.head _)) fun b o n1 n2 ho => N'.get (List.Mem.tail _ (mem_ledger.mpr ⟨n2, n1, ho⟩))
end
end Att

namespace L2
open PySem PySem.Spec PyProof.Rows

theorem vals_ints : ∀ {vs : List Value} {ns : List Int}, IntsAre vs ns → Vals (ns.map V.int) vs
  | _, _, .nil => .nil
  | _, _, .cons n t h => .cons ⟨t, rfl⟩ (vals_ints h)

/-- nothing is tracked but the script, known to the object (or it is an object of the module) -/
def Only (H : Hp) : Prop := ∀ b, H b = none ∨ ∃ o xs, H b = some (.frz o (.lst xs))

/-- THE HEAD: the law's promise, at the heap behind the top. F, the promise of the law's def, may use that base is part of the heap (so K.In base, base.Ns mainGlobals mg stand in Mod) -/
theorem law_call {P : Program} {w : World} {K : PySem.W.Frag} {mg mb : Str → Option Value} {CX : CXT} {k : Nat} {fa a : Addr} {fd : FuncData} {x : Str} {sp : Sp} {s₁ : Shared} {vs : List Value} {ns : List Int}
    (KX : K.In s₁.heap) (hns : s₁.heap.Ns mainGlobals mg) (hb : s₁.heap.Ns builtinsNs mb) (hbb : ∀ x : Str, x ≠ "__name__" → mb x = bootBuiltins x) (hlim : s₁.heap.NoLimit) (hg : s₁.gens = #[])
    (ha : s₁.heap.get? a = some { cls := .type "list", data := .seq vs.toArray }) (hi : IntsAre vs ns) (hl : ns.length ≤ sizeLine) (hr : Room k callerA)
    (F : ∀ base : Heap, K.In base → base.Ns mainGlobals mg → FnOk P w K mg base CX k fa fd [x] sp) (hbind : ∀ (s : Shared) (u : Value), BindsTo s fd ⟨[u], []⟩ [(x, u)])
    (hsp : ∀ H : Hp, Only H → SqL K H a (ns.map V.int) → sp [.ref a] H (fun v _ => v = .bl true) fun _ _ _ => False)
    (hCX : ∀ H e s', CX [] H s₁ (fun _ _ _ => False) e s' → False) :
    codeAny (model P w) callerA (.call (.ref fa) ⟨[.ref a], []⟩) (fun r s' => r = .ok (.ret (.bool true)) ∧ OldK s₁.heap s'.heap ∧ s'.os = s₁.os ∧ AllBare s'.gens) s₁ := by
  have rv := vals_ints hi
  have lenV := hi.length
  -- from an abstract heap in which nothing but the script may be tracked
  have core : ∀ H : Hp, Only H → SqL K H a (ns.map V.int) → HOk P w H s₁.heap → (∀ b, H b ≠ none → b = a) → (H a ≠ none → K.lookup a = none) →
      codeAny (model P w) callerA (.call (.ref fa) ⟨[.ref a], []⟩) (fun r s' => r = .ok (.ret (.bool true)) ∧ OldK s₁.heap s'.heap ∧ s'.os = s₁.os ∧ AllBare s'.gens) s₁ := by
    intro H hO hS hok hA hK
    have base_of : ∀ {b : Addr} {o : Obj}, s₁.heap.get? b = some o → H b = none → (hidT s₁.heap H).get? b = some o := fun e n => hidT_get e n
    have noA : ∀ {b : Addr} {o : Obj} {es : Array DictEntry} {ep : Nat}, s₁.heap.get? b = some o → o.data = .dict es ep → H b = none := fun {b o es ep} e d => by
      cases q : H b with
      | none => rfl
      | some u =>
        have e' : b = a := hA b (by rw [q]; simp)
        subst e'
        rw [ha] at e; cases e
        have d' : Data.seq vs.toArray _ = Data.dict es ep := d
        cases d'
    have nsK : ∀ {b : Addr} {m : Str → Option Value}, s₁.heap.Ns b m → (hidT s₁.heap H).Ns b m := fun {b m} ⟨o, es, ep, e, d, r⟩ => ⟨o, es, ep, base_of e (noA e d), d, r⟩
    have hKb : K.In (hidT s₁.heap H) := fun b o e => base_of (KX b o e) (by
      cases q : H b with
      | none => rfl
      | some u =>
        have e' : b = a := hA b (by rw [q]; simp)
        subst e'
        rw [hK (by rw [q]; simp)] at e; cases e)
    have hM : Mod K mg (hidT s₁.heap H) := ⟨hKb, nsK hns, ⟨mb, nsK hb, hbb⟩, let ⟨mc, h1, h2⟩ := hlim; ⟨mc, nsK h1, h2⟩⟩
    have e0 : Env0 P w K mg (hidT s₁.heap H) callerA [] s₁ H := ⟨rfl, hM, fun b o e => of_hidT e, Nat.le_of_eq (hidT_size _ _), trivial, fun b hb => absurd (show b ∈ ([] : List Addr) from hb) (by simp), hok, .of_eq hg⟩
    refine codeAny_mono ((F _ hKb (nsK hns)).run callerA [] s₁ H ⟨[.ref a], []⟩ [.ref a] [.ref a] _ _ hr e0 (hbind s₁ (.ref a)) (.cons rfl .nil) (hsp H hO hS)) fun r s' h => ?_
    cases r with
    | error e => exact (hCX H e s' h).elim
    | ok fl =>
      cases fl with
      | next => exact False.elim h
      | brk => exact False.elim h
      | cont => exact False.elim h
      | ret u =>
        obtain ⟨v, H', os, bare, un, hok', r', q⟩ := h
        have q' : v = .bl true := q
        subst q'
        obtain rfl : u = Value.bool true := r'
        refine ⟨rfl, OldK.of_keep fun b o e => ?_, os, bare⟩
        cases q : H b with
        | none => exact un.keep b o e q (by intro z; exact absurd (show b ∈ ([] : List Addr) from z) (by simp)) (by simp)
        | some u =>
          rcases hO b with z | ⟨ob, xs, z⟩
          · rw [q] at z; cases z
          · have z2 := un.frzs b ob _ z
            obtain ⟨e1, _⟩ := hok b _ z
            obtain ⟨e2, _⟩ := hok' b _ z2
            rw [e] at e1; cases e1
            exact e2
  cases hk : K.lookup a with
  | some o =>
    -- the script is one of the module's own objects
    have e := KX a o hk
    rw [ha] at e
    cases e
    refine core (fun _ => none) (fun _ => .inl rfl) (.inr ⟨_, vs.toArray, _, hk, rfl, rfl, rfl, by rw [List.size_toArray, lenV]; exact hl, by simpa using rv⟩) (fun b u z => by have z' : (none : Option HO) = some u := z; cases z') (fun b z => absurd rfl z) fun z => absurd rfl z
  | none =>
    refine core (fun b => if b = a then some (.frz { cls := .type "list", data := .seq vs.toArray } (.lst (ns.map V.int))) else none) (fun b => ?_) (.inl (.inr ⟨{ cls := .type "list", data := .seq vs.toArray }, if_pos rfl⟩)) (fun b u z => ?_) (fun b z => ?_) fun _ => hk
    · by_cases hb : b = a
      · exact .inr ⟨_, _, if_pos hb⟩
      · exact .inl (if_neg hb)
    · by_cases hb : b = a
      · have z' := (if_pos hb).symm.trans z
        cases z'
        subst hb
        exact ⟨ha, by rw [List.length_map]; exact hl, vs, _, rv, ha⟩
      · have z' := (if_neg hb).symm.trans z
        cases z'
    · by_cases hb : b = a
      · exact hb
      · exact absurd (if_neg hb) z
end L2

namespace L2
open PySem PySem.Spec PyProof.Rows

abbrev KOf {K : PySem.W.Frag} {h : Heap} (_ : K.In h) : PySem.W.Frag := K

/-- the goal that k_head leaves (case hc), from the law's promise. F gives the function object fd (K's own) once, then the promise over every base -/
theorem walk_of {l : PySem.W.OpenLaw} {n k : Nat} {q : Program} {loose : List Str} {XP : (Str → Option Value) → Heap → Prop} {YP : World → Heap → Prop} {d : DefRec} {K : Params → PySem.W.Frag} {CX : World → CXT} {sp : World → Sp} {x : Str}
    (hn : l.most = some n) (hn2 : n ≤ sizeLine) (hdf : d.params.defaults = []) (hr : Room k callerA)
    (hY : ∀ (w : World) (h : Heap), YP w h → (K w.params).In h)
    (F : ∀ (w : World) (mg : Str → Option Value) (fa : Addr) (h : Heap), (K w.params).In h → h.Ns mainGlobals mg → mg d.name = some (.ref fa) →
      ∃ fd : FuncData, (∀ (s : Shared) (u : Value), BindsTo s fd ⟨[u], []⟩ [(x, u)]) ∧
        ∀ base : Heap, (K w.params).In base → base.Ns mainGlobals mg → FnOk l.prog w (K w.params) mg base (CX w) k fa fd [x] (sp w))
    (hsp : ∀ (w : World) (H : Hp) (a : Addr) (ns : List Int), ns.length ≤ n → Only H → SqL (K w.params) H a (ns.map V.int) → sp w [.ref a] H (fun v _ => v = .bl true) fun _ _ _ => False)
    (hCX : ∀ (w : World) (H : Hp) (s : Shared) (e : Value) (s' : Shared), CX w [] H s (fun _ _ _ => False) e s' → False) :
    PySem.W.WalkO q loose XP YP l.row.toRowW d [] (fun f vs => PySem.call f vs) := by
  refine Att.attach_call hn hdf fun w s₀ s₁ mg mb fa o pm cd doc a vs ns G Y ho hd hcd hmg hobj hints hlen hg => ?_
  have KX := hY w _ Y
  obtain ⟨fd, hb, hF⟩ := F w mg fa _ KX G.T.g hmg
  exact law_call KX G.T.g G.T.b G.T.builtins G.T.nolimit hg hobj hints (Nat.le_trans hlen hn2) hr hF hb (fun H hO hS => hsp w H a ns hlen hO hS) fun H e s' => hCX w H s₁ e s'
/-- the same where the promise hangs on the written part alone: (sp := My.sp_law), no hole under a binder -/
theorem walk_ofK {l : PySem.W.OpenLaw} {n k : Nat} {q : Program} {loose : List Str} {XP : (Str → Option Value) → Heap → Prop} {YP : World → Heap → Prop} {d : DefRec} {K : Params → PySem.W.Frag} {CX : CXT} {sp : PySem.W.Frag → Sp} {x : Str}
    (hn : l.most = some n) (hn2 : n ≤ sizeLine) (hdf : d.params.defaults = []) (hr : Room k callerA)
    (hY : ∀ (w : World) (h : Heap), YP w h → (K w.params).In h)
    (F : ∀ (w : World) (mg : Str → Option Value) (fa : Addr) (h : Heap), (K w.params).In h → h.Ns mainGlobals mg → mg d.name = some (.ref fa) →
      ∃ fd : FuncData, (∀ (s : Shared) (u : Value), BindsTo s fd ⟨[u], []⟩ [(x, u)]) ∧
        ∀ base : Heap, (K w.params).In base → base.Ns mainGlobals mg → FnOk l.prog w (K w.params) mg base CX k fa fd [x] (sp (K w.params)))
    (hsp : ∀ (K : PySem.W.Frag) (H : Hp) (a : Addr) (ns : List Int), ns.length ≤ n → Only H → SqL K H a (ns.map V.int) → sp K [.ref a] H (fun v _ => v = .bl true) fun _ _ _ => False)
    (hCX : ∀ (H : Hp) (s : Shared) (e : Value) (s' : Shared), CX [] H s (fun _ _ _ => False) e s' → False) :
    PySem.W.WalkO q loose XP YP l.row.toRowW d [] (fun f vs => PySem.call f vs) :=
  walk_of (K := K) (CX := fun _ => CX) (sp := fun w => sp (K w.params)) hn hn2 hdf hr hY F (fun w H a ns h1 h2 h3 => hsp (K w.params) H a ns h1 h2 h3) fun _ H s e s' => hCX H s e s'
end L2

/- THE LAST THEOREM (shape; LID, My.* are yours):
   My.Adr: a structure of the addresses that your layer names (classes, functions); My.Txt K t: a structure (Prop) of the equations over K;
   My.txt_mk : {K} {implicit addresses ..} (e1 : nsIn K mainGlobals "law" = some (some (.ref f))) (e2 : K.lookup f = some ⟨oc, od, .func (fnOf "law" "law" params body scope dV kV doc pm an cdv ct), sl⟩) (e3 : codeIn K cdv "law" = true) .. : ∃ t, My.Txt K t

set_option maxRecDepth 100000 in
set_option maxHeartbeats 0 in
theorem PySem.Challenge.cw_LID_holds : PySem.Challenge.rw_LID.Holds := by
  w_on; o_law; k_head; (case hw => w_witness2)
  k_fill
  refine L2.walk_of (l := PySem.Challenge.rw_LID) (n := 63) (k := 40) (x := "script") (CX := fun w => ..) (sp := fun _ => My.sp_law) rfl (by decide) rfl ⟨rfl, by decide, by decide⟩ (fun w h Y => PySem.W.kIn_of Y) ?F ?S ?C
  case F =>
    intro w mg fa h KX G hmg
    have T : ∃ t, My.Txt (L2.KOf KX) t := by
      dsimp only [L2.KOf]                          -- K must stand as «<heap const> w.params» for k_is
      refine' My.txt_mk ?e1 ?e2 ?e3 ..
      (case e1 => PySem.W.k_is)                    -- in the order: a name -> its address -> its object -> its parts
      (case e2 => PySem.W.k_is)
      ..
    obtain ⟨t, T⟩ := T
    have e0 := hmg.symm.trans (PySem.W.mg_of KX G T.law)
    cases e0                                       -- fa is the law's own address
    exact ⟨_, fun s u => .of_eq rfl, fun base kb nb => My.law_fn T kb nb⟩     -- if «.of_eq rfl» comes too early: refine' ⟨_, ?b, fun base kb nb => My.law_fn T kb nb⟩; exact fun s u => .of_eq rfl
  case S => exact fun w H a ns hl hO hS => ..
  case C => exact ..
(the tactic k_is has no namespace: write k_is) -/

/-! SHORT WORDS over the layer: a def of the text, its body, what a loop and a test want. -/
namespace L2
open PySem PySem.Spec PyProof.Rows

/-! ### the text by places -/
/-- the j-th statement of a class's body -/
def inClass (s : Stmt) (j : Nat) : Stmt := match s with
  | .ClassDef _ _ _ body _ _ _ _ _ _ _ => body.getD j (.Pass ⟨0, 0, 0, 0⟩)
  | _ => .Pass ⟨0, 0, 0, 0⟩
def defArgs (s : Stmt) : Arguments := match s with
  | .FunctionDef _ a _ _ _ _ _ _ _ _ => a
  | _ => { posonlyargs := [], args := [], vararg := none, kwonlyargs := [], kw_defaults := [], kwarg := none, defaults := [] }
def defBody (s : Stmt) : List Stmt := match s with
  | .FunctionDef _ _ b _ _ _ _ _ _ _ => b
  | _ => []
def defScope (s : Stmt) : Scope := match s with
  | .FunctionDef _ _ _ _ _ _ sc _ _ _ => sc
  | _ => { kind := .function, names := [], isGenerator := false, isCoroutine := false }

/-! ### no exception leaves a def -/
abbrev CX0 : CXT := fun _ _ _ _ _ _ => False
abbrev E0 : XK := fun _ _ _ => False
theorem pass0 {X : Cx} : Passes CX0 X E0 := fun _ _ _ _ _ _ _ h => h.elim

/-! ### a def (or method) of the text as it stands behind the top -/
structure Fun (K : PySem.W.Frag) (x qual : Str) (st : Stmt) (f : Addr) (fd : FuncData) : Prop where
  ex : ∃ (oc : Value) (od : Option Addr) (kV doc pm : Value) (an : Option Addr) (cdv ct : Value) (osl : Array (Option Value)),
    fd = PySem.W.fnOf x qual (defArgs st) (defBody st) (defScope st) .none kV doc pm an cdv ct ∧ K.lookup f = some ⟨oc, od, .func fd, osl⟩ ∧ PySem.W.codeIn K cdv qual = true
  kp : PySem.W.keepIn K (.ref f) = true
section
variable {P : Program} {w : World} {K : PySem.W.Frag} {mg : Str → Option Value} {base : Heap}
/-- THE RULE for a def: its body as a term of rules, and the reading of that term -/
theorem Fun.ok {x qual : Str} {st : Stmt} {f : Addr} {fd : FuncData} {N ps : List Str} {k : Nat} {sp : Sp} (F : Fun K x qual st f fd) (S : FnScope N ps (defScope st)) (len : ∀ vs H Q E, sp vs H Q E → vs.length = ps.length)
    (hbody : ∀ (cdv : Value) (A : Around) (outer : List Env) (s : Shared) (H : Hp) (vs : List V) (Q : VK) (E : XK), Room k (A.deeper (envOfC qual (defScope st) s.heap.objs.size f cdv)) → sp vs H Q E →
      ∃ t, PSs (cxOf CX0 P w K mg base N qual (defScope st) f cdv A outer s H E).nox (defBody st) t ∧ t { nx := fun _ H' => Q .non H', rt := Q } (start N vs) H) : FnOk P w K mg base CX0 (k + 1) f fd ps sp := by
  obtain ⟨oc, od, kV, doc, pm, an, cdv, ct, osl, rfl, lk, hcd⟩ := F.ex
  refine fn_of lk hcd S len fun A outer s H vs Q E hr hsp => ?_
  obtain ⟨t, h, q⟩ := hbody cdv A outer s H vs Q E hr hsp
  exact ⟨t, h.nox, q⟩
/-- how its arguments bind (no defaults): h is «fun _ _ _ _ _ _ us hl => match us, hl with | [_, _], _ => rfl», one _ a parameter -/
theorem Fun.binds {x qual : Str} {st : Stmt} {f : Addr} {fd : FuncData} {ps : List Str} (F : Fun K x qual st f fd)
    (h : ∀ (kV doc pm : Value) (an : Option Addr) (cdv ct : Value) (us : List Value), us.length = ps.length → bindArgs (PySem.W.fnOf x qual (defArgs st) (defBody st) (defScope st) .none kV doc pm an cdv ct) ⟨us, []⟩ = pure (ps.zip us)) : Binds K fd ps [] := by
  obtain ⟨oc, od, kV, doc, pm, an, cdv, ct, osl, rfl, lk, hcd⟩ := F.ex
  exact .all (h kV doc pm an cdv ct)
theorem fun_mk {x qual : Str} {st : Stmt} {f : Addr} {oc : Value} {od an : Option Addr} {osl : Array (Option Value)} {kV doc pm cdv ct : Value} (l : K.lookup f = some ⟨oc, od, .func (PySem.W.fnOf x qual (defArgs st) (defBody st) (defScope st) .none kV doc pm an cdv ct), osl⟩)
    (c : PySem.W.codeIn K cdv qual = true) (k : PySem.W.keepIn K (.ref f) = true) : Fun K x qual st f (PySem.W.fnOf x qual (defArgs st) (defBody st) (defScope st) .none kV doc pm an cdv ct) := ⟨⟨oc, od, kV, doc, pm, an, cdv, ct, osl, rfl, l, c⟩, k⟩
end
theorem hu_of {A : Around} {k : Nat} (hr : Room k A) : A.units + 1 < cLine := Nat.lt_of_le_of_lt (Nat.add_le_add_left (by decide : 1 ≤ 64) _) hr.units
theorem small1000 {n : Nat} (h : n ≤ 1000) : n < sizeLine := Nat.lt_of_le_of_lt h (by decide)

/-! ### expressions in short: the name that stands in the i-th slot -/
section
variable {X : Cx}
theorem pv (i : Nat) {x : Str} {pos : Pos} (hN : X.N[i]? = some x := by rfl) (hv : Vis X.env.scope x := by first | exact Or.inl rfl | exact Or.inr (Or.inl rfl) | exact Or.inr (Or.inr rfl)) (hd : (x == ("__debug__" : Str)) = false := by decide)
    (hcd : (x == ("__classdict__" : Str)) = false := by decide) : PE X (.Name x pos) (tVar i) := pe_var hN hv hd hcd
/-- len of a dict -/
theorem call_lenD : CallR X (.builtin "len") (fun xs H Q => ∃ a kvs, xs = [V.ref a] ∧ H a = some (.dK kvs) ∧ Q (.int kvs.length) H) := by
  intro pins s σ H xs us Q I r h
  obtain ⟨a, kvs, rfl, ha, q⟩ := h
  obtain ⟨u, rfl, ru⟩ := vals1 r
  cases ru
  exact d_len I (.inl ha) fun t s' I' => ⟨.int kvs.length, H, I', ⟨t, rfl⟩, q⟩
end

/-! ### tests -/
theorem iteF {A B : Prop} (h : B) : if false = true then A else B := by
  rw [if_neg Bool.false_ne_true]
  exact h
theorem iteT {A B : Prop} (h : A) : if true = true then A else B := by
  rw [if_pos rfl]
  exact h
theorem ite2 {c A B : Prop} [Decidable c] (h1 : c → A) (h2 : ¬ c → B) : if c then A else B := by
  by_cases h : c
  · rw [if_pos h]
    exact h1 h
  · rw [if_neg h]
    exact h2 h
theorem iteNS {c A B : Prop} [Decidable c] (hc : c) (h : B) : if (!decide c) = true then A else B := by
  rw [decide_eq_true hc]
  exact iteF h

/-! ### heaps -/
/-- all that was tracked is as it was -/
def Same (H H' : Hp) : Prop := ∀ b o, H b = some o → H' b = some o
theorem Same.refl (H : Hp) : Same H H := fun _ _ h => h
theorem Same.trans {H H1 H2 : Hp} (a : Same H H1) (b : Same H1 H2) : Same H H2 := fun c o h => b c o (a c o h)
theorem Same.free {H H' : Hp} (e : Same H H') {l : Addr} (h : H' l = Option.none) : H l = Option.none := by
  cases q : H l with
  | none => rfl
  | some o =>
    rw [e l o q] at h
    cases h
theorem Same.seq {K : PySem.W.Frag} {H H' : Hp} {a : Addr} {xs : List V} (e : Same H H') (h : SqL K H a xs) : SqL K H' a xs := by
  rcases h with (h | ⟨o, h⟩) | h
  · exact .inl (.inl (e _ _ h))
  · exact .inl (.inr ⟨o, e _ _ h⟩)
  · exact .inr h

/-! ### a dict's pairs: keys that differ -/
section
variable {κ : Type} [DecidableEq κ]
theorem valV_not {kvs : List (κ × V)} {k : κ} (h : valV kvs k = none) : ¬ k ∈ kvs.map (·.1) := by
  intro m
  obtain ⟨p, hp, e⟩ := List.mem_map.mp m
  have q : (kvs.any fun kv => decide (kv.1 = k)) = true := List.any_eq_true.mpr ⟨p, hp, decide_eq_true e⟩
  rw [valV_any, h] at q
  exact absurd q (by simp)
theorem valV_in {kvs : List (κ × V)} {k : κ} {v : V} (h : valV kvs k = some v) : k ∈ kvs.map (·.1) := by
  have q : (kvs.any fun kv => decide (kv.1 = k)) = true := by
    rw [valV_any, h]
    all_goals rfl
  obtain ⟨p, hp, e⟩ := List.any_eq_true.mp q
  exact List.mem_map.mpr ⟨p, hp, of_decide_eq_true e⟩
theorem nd_snoc : ∀ {l : List κ} {k : κ}, l.Nodup → ¬ k ∈ l → (l ++ [k]).Nodup
  | [], k, _, _ => by simp
  | a :: r, k, h, hk => by
    obtain ⟨h1, h2⟩ := List.nodup_cons.mp h
    show (a :: (r ++ [k])).Nodup
    refine List.nodup_cons.mpr ⟨fun m => ?_, nd_snoc h2 fun m => hk (List.mem_cons.mpr (Or.inr m))⟩
    rcases List.mem_append.mp m with q | q
    · exact h1 q
    · exact hk (List.mem_cons.mpr (Or.inl (List.mem_singleton.mp q).symm))
theorem nd_putK {kvs : List (κ × V)} {k : κ} (v : V) (hn : (kvs.map (·.1)).Nodup) (h : valV kvs k = none) : ((putK kvs k v).map (·.1)).Nodup := by
  rw [putK_new v h, List.map_append]
  exact nd_snoc hn (valV_not h)
theorem dropK_pos {p : κ × V} {r : List (κ × V)} {k : κ} (e : p.1 = k) : dropK (p :: r) k = dropK r k := by
  unfold dropK
  rw [List.filter_cons, if_neg (by simp [e])]
theorem dropK_neg {p : κ × V} {r : List (κ × V)} {k : κ} (e : ¬ p.1 = k) : dropK (p :: r) k = p :: dropK r k := by
  unfold dropK
  rw [List.filter_cons, if_pos (by simp [e])]
theorem dropK_no : ∀ {kvs : List (κ × V)} {k : κ}, ¬ k ∈ kvs.map (·.1) → dropK kvs k = kvs
  | [], _, _ => rfl
  | p :: r, k, h => by
    have h' : ¬ k ∈ r.map (·.1) := fun m => by
      obtain ⟨q, hq, e⟩ := List.mem_map.mp m
      exact h (List.mem_map.mpr ⟨q, List.mem_cons.mpr (Or.inr hq), e⟩)
    rw [dropK_neg fun e => h (List.mem_map.mpr ⟨p, List.mem_cons.mpr (Or.inl rfl), e⟩), dropK_no h']
theorem dropK_mem {kvs : List (κ × V)} {k : κ} {p : κ × V} (h : p ∈ dropK kvs k) : p ∈ kvs := (List.mem_filter.mp h).1
theorem nd_dropK : ∀ {kvs : List (κ × V)} {k : κ}, (kvs.map (·.1)).Nodup → ((dropK kvs k).map (·.1)).Nodup
  | [], _, _ => List.nodup_nil
  | p :: r, k, h => by
    have h : (p.1 :: r.map (·.1)).Nodup := h
    obtain ⟨h1, h2⟩ := List.nodup_cons.mp h
    by_cases e : p.1 = k
    · rw [dropK_pos e]
      exact nd_dropK h2
    · rw [dropK_neg e]
      show (p.1 :: (dropK r k).map (·.1)).Nodup
      refine List.nodup_cons.mpr ⟨fun m => h1 ?_, nd_dropK h2⟩
      obtain ⟨q, hq, eq⟩ := List.mem_map.mp m
      exact List.mem_map.mpr ⟨q, dropK_mem hq, eq⟩
theorem dropK_len : ∀ {kvs : List (κ × V)} {k : κ}, (kvs.map (·.1)).Nodup → k ∈ kvs.map (·.1) → (dropK kvs k).length + 1 = kvs.length
  | [], _, _, m => by simp at m
  | p :: r, k, h, m => by
    have h : (p.1 :: r.map (·.1)).Nodup := h
    have m : k = p.1 ∨ k ∈ r.map (·.1) := List.mem_cons.mp m
    obtain ⟨h1, h2⟩ := List.nodup_cons.mp h
    by_cases e : p.1 = k
    · subst e
      rw [dropK_pos rfl, dropK_no h1]
      all_goals rfl
    · have m' : k ∈ r.map (·.1) := m.resolve_left fun z => e z.symm
      have q := dropK_len h2 m'
      rw [dropK_neg e, List.length_cons, List.length_cons]
      omega
end
end L2

set_option Elab.async false
set_option linter.all false
set_option maxRecDepth 100000
namespace L2
open PySem PySem.Spec PyProof.Rows

/-! ### own words: isinstance by values -/
section
variable {X : Cx} {pins : List (Addr × Obj)} {σ : St} {H : Hp} {s : Shared}
theorem TyOf.kit {x : V} {u t : Value} (I : Inv X pins σ H s) (rx : RelV x u) (ty : TyOf X.K H x t) :
    ∃ HH : Heap → Prop, PySem.W.KitX X.K u t HH ∧ HH s.heap ∧ u ≠ .builtin "__main__.__loader__#opaque" := by
  cases ty with
  | non => cases (show u = Value.none from rx); exact ⟨_, PySem.W.kitx_none, True.intro, fun z => nomatch z⟩
  | bl y => cases (show u = Value.bool y from rx); exact ⟨_, PySem.W.kitx_bool, True.intro, fun z => nomatch z⟩
  | int i => obtain ⟨t, q⟩ := (show ∃ t, u = Value.int i t from rx); cases q; exact ⟨_, PySem.W.kitx_int, True.intro, fun z => nomatch z⟩
  | str y => obtain ⟨t, q⟩ := (show ∃ t, u = Value.str y t from rx); cases q; exact ⟨_, PySem.W.kitx_str, True.intro, fun z => nomatch z⟩
  | flt y => obtain ⟨t, q⟩ := (show ∃ t, u = Value.float y t from rx); cases q; exact ⟨_, PySem.W.kitx_float, True.intro, fun z => nomatch z⟩
  | @lst a xs ea =>
    cases (show u = Value.ref a from rx)
    obtain ⟨_, _, n, _, h1⟩ := (show ObjOk X.prog X.w H s.heap a (.lst xs) from I.hok a _ ea)
    exact ⟨_, PySem.W.kitx_list, ⟨_, h1, rfl⟩, fun z => nomatch z⟩
  | @frz a ob xs ea =>
    cases (show u = Value.ref a from rx)
    obtain ⟨_, _, _, n, _, h1⟩ := (show ObjOk X.prog X.w H s.heap a (.frz ob (.lst xs)) from I.hok a _ ea)
    exact ⟨_, PySem.W.kitx_list, ⟨_, h1, rfl⟩, fun z => nomatch z⟩
  | @tup a xs ea =>
    cases (show u = Value.ref a from rx)
    obtain ⟨_, _, _, o, h1, h2, _⟩ := (show ObjOk X.prog X.w H s.heap a (.tup xs) from I.hok a _ ea)
    exact ⟨_, PySem.W.kitx_tuple, ⟨o, h1, h2⟩, fun z => nomatch z⟩
  | @dK a kvs ea =>
    cases (show u = Value.ref a from rx)
    obtain ⟨_, _, vs, _, o, es, ep, h1, h2, _⟩ := (show ObjOk X.prog X.w H s.heap a (.dK kvs) from I.hok a _ ea)
    exact ⟨_, PySem.W.kitx_dict, ⟨o, h1, h2.1⟩, fun z => nomatch z⟩
  | @dT a kvs ea =>
    cases (show u = Value.ref a from rx)
    obtain ⟨_, _, xs, _, o, es, ep, h1, h2, _⟩ := (show ObjOk X.prog X.w H s.heap a (.dT kvs) from I.hok a _ ea)
    exact ⟨_, PySem.W.kitx_dict, ⟨o, h1, h2.1⟩, fun z => nomatch z⟩
  | @ins a C dx fs ea cl ha hn htk hm =>
    cases (show u = Value.ref a from rx)
    obtain ⟨mA, O, _⟩ := ins_get I.hok ea
    obtain ⟨od, J, _⟩ := O.look
    exact ⟨_, PySem.W.kitx_own (cl.get _) cl.hd ha hn htk hm, J, fun z => nomatch z⟩
end
section
variable {X : Cx}
def rIsi (K : PySem.W.Frag) : List V → Hp → VK → Prop := fun xs H Q => ∃ x t T b, xs = [x, .ty T] ∧ TyOf K H x t ∧ PySem.W.kitOne K t (.type T) = some b ∧ Q (.bl b) H
theorem call_isi : CallR X (.builtin "isinstance") (rIsi X.K) := by
  intro pins s σ H xs us Q I rv h
  obtain ⟨x, t, T, b, rfl, ty, e, q⟩ := h
  obtain ⟨u, v, rfl, ru, rv'⟩ := rv.two
  have rv2 : v = Value.type T := rv'
  subst rv2
  exact isinst_ok I ru ty e fun tk => ⟨.bl b, H, I.tok tk, rfl, q⟩
theorem vals_ty : ∀ {Ts : List String} {its : List Value}, Vals (Ts.map V.ty) its → its = Ts.map Value.type
  | [], _, .nil => rfl
  | T :: Ts, _, .cons r t => by
    have e : _ = Value.type T := r
    rw [e, vals_ty t]
    all_goals rfl
def rIsiT (K : PySem.W.Frag) : List V → Hp → VK → Prop := fun xs H Q => ∃ (x : V) (t : Value) (p : Addr) (Ts : List String) (b : Bool), xs = [x, .ref p] ∧ TyOf K H x t ∧ H p = some (.tup (Ts.map V.ty)) ∧ PySem.W.kitAny K t (Ts.map Value.type) = some b ∧ Q (.bl b) H
theorem call_isiT : CallR X (.builtin "isinstance") (rIsiT X.K) := by
  intro pins s σ H xs us Q I rv h
  obtain ⟨x, t, p, Ts, b, rfl, ty, hp, e, q⟩ := h
  obtain ⟨u, v, rfl, ru, rv'⟩ := rv.two
  cases (show v = Value.ref p from rv')
  obtain ⟨its, r, ⟨o, ho, hc, n, hd⟩, _⟩ := I.tuple (SqT.of hp)
  obtain ⟨c, dd, dt, sl⟩ := o
  simp only at hc hd
  subst hc hd
  have ei := vals_ty r
  subst ei
  obtain ⟨HH, Z, hh, hx⟩ := TyOf.kit I ru ty
  exact PySem.W.kia_tup Z I.kIn hh ho e hx fun tk => ⟨.bl b, H, I.tok tk, rfl, q⟩

/-! ### own words: a list against the empty list -/
def rNeNil : R2 := fun x y H Q => ∃ a b xs, x = .ref a ∧ y = .ref b ∧ H a = some (.lst xs) ∧ H b = some (.lst []) ∧ Q (.bl (!xs.isEmpty)) H
theorem op_neNil (hu : X.A.units < cLine) : OpR X (compareOp .NotEq) rNeNil := by
  intro pins s σ H x y v u Q I rx ry h
  obtain ⟨a, b, xs, rfl, rfl, ha, hb, q⟩ := h
  cases rx
  cases ry
  obtain ⟨its, r, p, _⟩ := I.list (SqL.of ha)
  obtain ⟨its2, r2, p2, _⟩ := I.list (SqL.of hb)
  cases r2
  cases xs with
  | nil =>
    cases r
    exact SeqAt.RcNeAt.lists (e := fun _ => true) p.isList p2.isList rfl hu (fun j h1 _ => absurd h1 (by simp)) X.prog X.w X.xe _ ⟨.bl false, H, I, rfl, q⟩
  | cons x xs =>
    cases r
    exact SeqAt.RcNeAt.lists_lengths p.isList p2.isList (by simp) hu X.prog X.w X.xe _ ⟨.bl true, H, I, rfl, q⟩

/-! ### own words: xs.extend(a tuple) -/
section
open AutoSeq1 (wpAny_loadPart')
theorem extend_tuple_any (l : Addr) (items : Array Value) (n : Nat) (b : Addr) (items2 : Array Value) (n2 : Nat) (dd : Option Addr) (sl : Array (Option Value)) (hs0 : ¬(!items.isEmpty && Builtin.List.listTooLong (items.size + items2.size)) = true) (hs1 : items.size ≤ sizeLine) (hs2 : items.size + items2.size ≤ sizeLine + 1) :
    Meets (Builtin.«list.extend» ⟨[.ref l, .ref b], []⟩) (fun _ R s => s.heap.get? l = some { cls := .type "list", dict := none, data := .seq items n, slots := #[] } ∧ s.heap.get? b = some { cls := .type "tuple", dict := dd, data := .seq items2 n2, slots := sl } ∧ R (.ok (.ret Value.none)) { s with heap := s.heap.update l (Obj.mapSeq fun x => x ++ items2), toks := s.toks }) :=
  .of_wp fun prog w A R s h => by
    obtain ⟨hp, g, d, tk, os⟩ := s; obtain ⟨hl, hb, h⟩ := h; have f1 := AutoSeq1.idx_int; have f2 := AutoSeq1.sub_tuple_tuple; have f3 := AutoSeq1.sub_list_list; have f4 := AutoSeq1.sub_tuple_list; have f5 := AutoSeq1.sub_list_tuple;
    have hz' : (items ++ items2).size ≤ sizeLine + 1 := by rw [Array.size_append]; exact hs2
    wp_walk using (wpAny_updateSeq hl rfl (hz := hs1) (_hz' := hz')), wpAny_loadPart' hl, wpAny_loadPart' hb; exact ⟨_, rfl, h⟩
end
def rExtendT : V → List V → Hp → VK → Prop := fun x vs H Q => ∃ l b xs zs, x = .ref l ∧ vs = [.ref b] ∧ H l = some (.lst xs) ∧ H b = some (.tup zs) ∧ xs.length + zs.length ≤ sizeLine ∧ Q .non (upd H l (.lst (xs ++ zs)))
theorem mt_extendT : MtM X "list.extend" rExtendT := by
  intro pins s σ H x vs v us Q I rx rv h
  obtain ⟨l, b, xs, zs, rfl, rfl, hH, hB, hz, q⟩ := h
  cases rx
  obtain ⟨u, rfl, ru⟩ := rv.one
  cases ru
  obtain ⟨z, its, n, r, hl, e⟩ := I.lstM hH
  obtain ⟨its2, r2, ⟨o, ho, hc, n2, hd⟩, _⟩ := I.tuple (SqT.of hB)
  obtain ⟨c, dd, dt, sl⟩ := o
  simp only at hc hd
  subst hc hd
  have hl2 := r2.length
  have hsz : its.toArray.size + its2.toArray.size ≤ sizeLine := by rw [List.size_toArray, List.size_toArray]; omega
  have hlong : ¬ (!its.toArray.isEmpty && Builtin.List.listTooLong (its.toArray.size + its2.toArray.size)) = true := by
    rw [notLongL hsz, Bool.and_false]
    exact Bool.false_ne_true
  refine call_meets F.slot_list_extend ⟨_, e, rfl⟩ F.entry_list_extend (F.args_list_extend_2 _ _)
    (extend_tuple_any l its.toArray n b its2.toArray n2 dd sl hlong (by rw [List.size_toArray]; omega) (by omega)) ⟨e, ho, ?_⟩
  refine ⟨.non, _, I.lset (its' := its ++ its2) hH e (by simp) (r.append r2) ?_, rfl, q⟩
  rw [List.length_append]
  omega
def rExtend2 : V → List V → Hp → VK → Prop := fun x vs H Q => ∃ l b xs zs, x = .ref l ∧ vs = [.ref b] ∧ H l = some (.lst xs) ∧ (H b = some (.lst zs) ∨ H b = some (.tup zs)) ∧ xs.length + zs.length ≤ sizeLine ∧ Q .non (upd H l (.lst (xs ++ zs)))
theorem mt_extend2 : MtM X "list.extend" rExtend2 := by
  intro pins s σ H x vs v us Q I rx rv h
  obtain ⟨l, b, xs, zs, e1, e2, hH, hB | hB, hz, q⟩ := h
  · exact mt_extend pins s σ H x vs v us Q I rx rv ⟨l, b, xs, zs, e1, e2, hH, hB, hz, q⟩
  · exact mt_extendT pins s σ H x vs v us Q I rx rv ⟨l, b, xs, zs, e1, e2, hH, hB, hz, q⟩
end

/-! ### own words: or, and of two tests; a short list is no long one -/
section
variable {X : Cx} {a b : Expr} {tA tB' : TT} {pos : Pos}
theorem pt_or2 (ha : PT X a tA) (hb : PT X b tB') : PT X (.BoolOp .Or [a, b] pos) (tOr tA tB') := (pw_or ha (pw_or1 hb)).pt
theorem pt_and2 (ha : PT X a tA) (hb : PT X b tB') : PT X (.BoolOp .And [a, b] pos) (tAnd tA tB') := (pw_and ha (pw_and1 hb)).pt
end
theorem le5 {xs : List V} (h : Nat.ble xs.length 1000 = true := by rfl) : xs.length ≤ sizeLine := Nat.le_trans (Nat.le_of_ble_eq_true h) (by decide)
end L2

set_option Elab.async false
set_option linter.all false
set_option maxRecDepth 100000
namespace L2
open PySem PySem.Spec PyProof.Rows

/-! ### own words: a list comprehension with one clause, no test -/
theorem compLoop_go {prog : Program} {w : World} {A : Around} {R : Result → Shared → Prop} {s : Shared} {elt target iter : Expr} {scope : Scope} {pos : Pos} {it acc : Value} {env : Env} (I : Nat → Shared → Prop)
    (turn : ∀ n s, I n s → wpAny (model prog w) A (pyNext it) (fun r s₁ => match r with
      | none => R (.ok .next) s₁
      | some v => wpAny (model prog w) A (letOwnedTupleGo target it v) (fun _ s₂ => wpAny (model prog w) A (assign target env v) (fun _ s₃ => wpAny (model prog w) A (eval elt env) (fun x s₄ =>
          wpAny (model prog w) A (call (.builtin "list.append") [acc, x]) (fun _ s₅ => ∃ m, m < n ∧ I m s₅) (fun _ _ => False) s₄) (fun _ _ => False) s₃) (fun _ _ => False) s₂) (fun _ _ => False) s₁) (fun _ _ => False) s)
    (n : Nat) (h : I n s) : codeAny (model prog w) A (.compLoop (.ListComp elt [⟨target, iter, [], 0⟩] scope pos) 0 it acc env) R s := by
  refine codeAny_loop rfl I (fun n s hI => ?_) n h
  show wpAny _ _ ((compTurn (.ListComp elt [⟨target, iter, [], 0⟩] scope pos) 0 it acc env).onRaise (fun x => do noteFrame x env; theTreesLotGoes x)) _ _ s
  refine wpAny_noted ?_
  rw [compTurn_list1]
  refine wpAny_bind (wpAny_standAt (wpAny_bind (wpAny_mono (turn n s hI) (fun r s₁ h₁ => ?_) fun _ _ z => False.elim z)))
  cases r with
  | none => exact wpAny_pure h₁
  | some v =>
    refine wpAny_bind (wpAny_mono h₁ (fun _ s₂ h₂ => ?_) fun _ _ z => False.elim z)
    exact wpAny_bind (wpAny_mono h₂ (fun _ s₃ h₃ => wpAny_bind (wpAny_bind (wpAny_mono h₃ (fun x s₄ h₄ => wpAny_bind (wpAny_mono h₄
      (fun _ s₅ h₅ => wpAny_pure (wpAny_pure ⟨rfl, h₅⟩)) fun _ _ z => False.elim z)) fun _ _ z => False.elim z))) fun _ _ z => False.elim z)

/-- the block, running within X's frame -/
def blk (X : Cx) (N' : List Str) (scope : Scope) (cl : List (Str × Addr)) (C : Addr) (s : Shared) (H : Hp) (fp : List Addr) : Cx :=
  { X with N := N', s₀ := s, H₀ := H, env := compEnvC scope cl C X.env, outer := X.stack, stack := X.stack, ex := fp, fn := fun _ => false, xe := fun _ _ => False }
/-- the values of the frame's names that the block sees -/
def pick (σ : St) (fr : List Nat) : St := fr.map fun j => (σ[j]?).getD none
structure BlkOk (X : Cx) (x : Str) (fr : List Nat) (N' : List Str) (scope : Scope) (cl : List (Str × Addr)) : Prop where
  clos : closureFor scope X.env = pure cl
  cell : ∀ y ∈ scope.names, y.2 ≠ .cell
  kind : scope.kind = .function
  names : ∀ y ∈ scope.names, y.2 = .local → scope.names.lookup y.1 = some .local
  loc : scope.names.lookup x = some .local
  sub : ∀ y c, cl.lookup y = some c → X.env.cells.lookup y = some c
  has : ∀ y, ((relabel scope X.env).names.lookup y = some .cell ∨ (relabel scope X.env).names.lookup y = some .free) → ∃ c, cl.lookup y = some c
  hx : N'[0]? = some x
  len : N'.length = fr.length + 1
  nd : N'.Nodup
  see : ∀ (i j : Nat) (y : Str), N'[i + 1]? = some y → fr[i]? = some j → X.N[j]? = some y ∧ X.env.scope.names.lookup y = some .cell ∧ (relabel scope X.env).names.lookup y = some .cell

theorem lookup_all_local : ∀ {names : List (Str × NameKind)} {y : Str} {k : NameKind}, (∀ z ∈ names, z.2 = .local) → names.lookup y = some k → k = .local
  | [], _, _, _, h => by simp at h
  | (n, k') :: r, y, k, ha, h => by
    rw [List.lookup_cons] at h
    cases e : y == n with
    | true =>
      rw [e] at h
      have h' : some k' = some k := h
      cases h'
      exact ha (n, k') List.mem_cons_self
    | false =>
      rw [e] at h
      exact lookup_all_local (fun z hz => ha z (List.mem_cons_of_mem _ hz)) h
theorem lookup_mem_local : ∀ {names : List (Str × NameKind)} {y : Str × NameKind}, (∀ z ∈ names, z.2 = .local) → y ∈ names → names.lookup y.1 = some .local
  | [], _, _, h => by simp at h
  | (n, k') :: r, y, ha, h => by
    rw [List.lookup_cons]
    cases e : y.1 == n with
    | true =>
      have := ha (n, k') List.mem_cons_self
      dsimp only at this ⊢
      rw [this]
    | false =>
      rcases List.mem_cons.mp h with z | z
      · rw [z] at e
        simp at e
      · exact lookup_mem_local (fun z hz => ha z (List.mem_cons_of_mem _ hz)) z
theorem relabel_local {scope : Scope} {env : Env} (h : ∀ z ∈ scope.names, z.2 = .local) : (relabel scope env).names = scope.names := by
  unfold relabel
  show scope.names.map _ = scope.names
  refine map_eq_self fun z hz => ?_
  obtain ⟨n, k⟩ := z
  have := h (n, k) hz
  dsimp only at this
  subst this
  rfl
theorem BlkOk.plain {X : Cx} {x : Str} {scope : Scope} (hl : ∀ z ∈ scope.names, z.2 = .local) (hk : scope.kind = .function) (hx : scope.names.lookup x = some .local) : BlkOk X x [] [x] scope [] where
  clos := closureFor_none fun z hz e => by rw [hl z hz] at e; cases e
  cell := fun y hy e => by rw [hl y hy] at e; cases e
  kind := hk
  names := fun y hy _ => lookup_mem_local hl hy
  loc := hx
  sub := fun y c e => by simp at e
  has := fun y e => by
    rw [relabel_local hl] at e
    rcases e with e | e
    · cases lookup_all_local hl e
    · cases lookup_all_local hl e
  hx := rfl
  len := rfl
  nd := by simp
  see := fun i j y _ e => by simp at e

def CompW (J : It) (te : TE) (σ' : St) (Q : VK) (H : Hp) (acc : Addr) : Prop :=
  ∃ (n : Nat) (W : Nat → List V → Hp → Prop), W 0 [] (upd H acc (.lst [])) ∧ ∀ i ys H2, W i ys H2 → (J.stop i H2 ∧ Q (.ref acc) H2) ∨
    (J.go i H2 ∧ i < n ∧ ∀ v H3, J.yld i H2 v H3 → te (some v :: σ') H3 fun y H4 => H4 acc = some (.lst ys) ∧ ys.length < sizeLine ∧ W (i + 1) (ys ++ [y]) (upd H4 acc (.lst (ys ++ [y]))))

theorem comp_core {X : Cx} {pins : List (Addr × Obj)} {σ : St} {H : Hp} {s : Shared} {x : Str} {px : Pos} {elt iter : Expr} {scope : Scope} {pos : Pos} {cl : List (Str × Addr)} {N' : List Str} {fr : List Nat} {te : TE} {J : It} {fp : List Addr} {it : Addr}
    {tn : Nat → Heap → Prop} {E : Value → Shared → Prop} {RR : Value → Addr → Result → Shared → Prop} {Q : VK} (B : BlkOk X x fr N' scope cl) (hc : X.calm = true) (I : Inv X pins σ H s) (T : Turn X.prog X.w X.K (.Name x px) J fp it tn)
    (st : tn 0 s.heap) (hf : ∀ b ∈ fp, FpOk X pins H b) (he : ∀ C s' H', PE (blk X N' scope cl C s' H' fp) elt te) (h : ∀ acc, H acc = none → CompW J te (pick σ fr) Q H acc)
    (hRR : ∀ acc C H' s' m, Inv X pins σ H' s' → Q (.ref acc) H' → s'.heap.Ns C m → H' C = none → C ≠ X.env.locals → (C ∈ X.ex ∨ X.s₀.heap.objs.size ≤ C) → (∀ y c, X.env.cells.lookup y = some c → c ≠ C) → (∀ p ∈ X.pn ++ pins, p.1 ≠ C) → RR (.ref acc) C (.ok .next) s') :
    wpAny (model X.prog X.w) X.A (newList []) (fun acc s₃ => wpAny (model X.prog X.w) X.A (newFunctionEnv scope X.env.globals cl [] X.env.qual none .none (some X.env)) (fun cenv s₄ =>
      codeAny (model X.prog X.w) X.A (.compStart (.ListComp elt [⟨.Name x px, iter, [], 0⟩] scope pos) 0 (.ref it) acc { cenv with scope := relabel scope X.env }) (RR acc cenv.locals) s₄) E s₃) E s := by
  refine wpAny_newObj_type (wpAny_newFunctionEnv B.cell (by intro y hy; simp at hy) (fun h₁ hns₁ hsb₁ => ?_) B.kind)
  have I3 : Inv X pins σ (upd H s.heap.objs.size (.lst [])) { s with heap := s.heap.push { cls := .type "list", data := .seq ([] : List Value).toArray } } := I.lnew (its := []) (t' := s.toks) .nil (Nat.zero_le _)
  obtain ⟨n, W, w0, turn⟩ := h s.heap.objs.size I.fresh
  dsimp only at hns₁ hsb₁ ⊢
  generalize hs3 : ({ s with heap := s.heap.push { cls := .type "list", data := .seq ([] : List Value).toArray } } : Shared) = s3 at *
  have hh3 : s.heap.push { cls := .type "list", data := .seq ([] : List Value).toArray } = s3.heap := by rw [← hs3]
  have hh3' : s.heap.push { cls := .type "list", dict := none, data := .seq ([] : List Value).toArray } = s3.heap := hh3
  rw [hh3'] at hns₁ hsb₁ ⊢
  have lt3 : ∀ b o, s3.heap.get? b = some o → b ≠ s3.heap.objs.size := fun b o e => Nat.ne_of_lt (Heap.lt_size e)
  have keep1 : ∀ b o, s3.heap.get? b = some o → h₁.get? b = some o := fun b o e => hsb₁.extBut b o (lt3 b o e) (Heap.get?_push_of_some _ e)
  have keep0 : ∀ b o, s.heap.get? b = some o → s3.heap.get? b = some o := fun b o e => by rw [← hh3]; exact Heap.get?_push_of_some _ e
  have st3 : tn 0 h₁ := T.keep 0 _ _ st fun b _ o e => keep1 b o (keep0 b o e)
  have obj3 : ∀ b ∈ fp, ∃ o, s3.heap.get? b = some o := fun b hb => by
    obtain ⟨o, e, _⟩ := T.obj 0 _ st b hb
    exact ⟨o, keep0 b o e⟩
  have nstk : ∀ b, b ≠ X.env.locals → b ∉ X.fs → b ∉ frs X.stack := fun b h1 h2 hb => by
    rcases List.mem_cons.mp (I3.stkSub b hb) with z | z
    · exact h1 z
    · exact h2 z
  have ok : (blk X N' scope cl s3.heap.objs.size s3 (upd H s.heap.objs.size (.lst [])) fp).Ok := by
    refine ⟨I.ok.mod, ?_, I.ok.glob, I.ok.blt, Nat.le_refl _, fun y z c h1 h2 => I.ok.inj y z c (B.sub y c h1) (B.sub z c h2), fun y hy => B.has y hy, fun y c e _ => absurd (show false = true from e) Bool.false_ne_true, I.ok.hd, I.ok.frames, .inl rfl, fun b hb => ?_, I3.bs,
      Nat.le_trans I.ok.bsz I3.sz, fun b o e hb => ?_, fun b hb => nstk b (hf b hb).2.1 (hf b hb).2.2.1, I3.stack, I3.stkFree⟩
    · exact B.kind
    · obtain ⟨o, e⟩ := obj3 b hb
      exact ⟨lt3 b o e, fun y c e => (hf b hb).2.2.2.2.1 y c (B.sub y c e)⟩
    · rcases (hf b hb).2.2.2.1 with z | z
      · exact I.ok.noex b o e z
      · exact absurd (Nat.lt_of_lt_of_le (Heap.lt_size (I.ok.bs b o e).1) z) (Nat.lt_irrefl _)
  have cellK : ∀ c v, s3.heap.IsCell c v → h₁.IsCell c v := fun c v ⟨o, ho, hd⟩ => ⟨o, keep1 c o ho, hd⟩
  have stat : ∀ {H' : Hp}, (∀ b ∈ fp, H' b = none) → ∀ b ∈ fp, FpOk (blk X N' scope cl s3.heap.objs.size s3 (upd H s.heap.objs.size (.lst [])) fp) pins H' b := fun hn b hb =>
    ⟨hn b hb, (ok.exf b hb).1, nstk b (hf b hb).2.1 (hf b hb).2.2.1, .inl hb, fun y c e => (hf b hb).2.2.2.2.1 y c (B.sub y c e), (hf b hb).2.2.2.2.2⟩
  have I4 : Inv (blk X N' scope cl s3.heap.objs.size s3 (upd H s.heap.objs.size (.lst [])) fp) pins (none :: pick σ fr) (upd H s.heap.objs.size (.lst [])) { s3 with heap := h₁ } := by
    refine ⟨ok, rfl, I3.bare, Un.kept keep1, ⟨_, hns₁, fun i y v h1 h2 h3 => ?_⟩, fun y c e => ?_, I3.fresh, fun y c e => I3.freeC y c (B.sub y c e), fun p hp => ?_, I3.hok.kept keep1, ?_⟩
    · cases i with
      | zero => cases (show some none = some (some v) from h2)
      | succ i =>
        have h2 : (pick σ fr)[i]? = some (some v) := h2
        unfold pick at h2
        rw [List.getElem?_map] at h2
        cases ej : fr[i]? with
        | none => rw [ej] at h2; cases h2
        | some j =>
          rw [ej] at h2
          have h2' : (σ[j]?).getD none = some v := Option.some.inj h2
          have hσ : σ[j]? = some (some v) := by
            cases q : σ[j]? with
            | none => rw [q] at h2'; cases h2'
            | some o =>
              rw [q] at h2'
              have : o = some v := h2'
              rw [this]
          obtain ⟨b1, b2, b3⟩ := B.see i j y h1 ej
          obtain ⟨m3, _, hl3⟩ := I3.loc
          obtain ⟨u, ru, lk⟩ := hl3 j y v b1 hσ (.inr (.inl b2))
          refine ⟨u, ru, .inr ⟨.inl b3, ?_⟩⟩
          rcases lk with ⟨k, _⟩ | ⟨_, c, e, z⟩
          · have k' : X.env.scope.names.lookup y = some .local := k
            rw [b2] at k'
            cases k'
          · obtain ⟨c', e'⟩ := B.has y (.inl b3)
            have := B.sub y c' e'
            rw [e] at this
            cases this
            exact ⟨_, e', cellK _ _ z⟩
    · obtain ⟨v, z⟩ := I3.cell y c (B.sub y c e)
      exact ⟨v, cellK c v z⟩
    · obtain ⟨e, n0, ne, nf, d⟩ := I3.pin p hp
      exact ⟨keep1 _ _ e, n0, lt3 _ _ e, nstk _ ne nf, d⟩
    · show (none :: pick σ fr).length = N'.length
      rw [B.len, List.length_cons]
      unfold pick
      rw [List.length_map]
  have fin : ∀ {H' : Hp} {σ' : St} {s' : Shared}, Inv (blk X N' scope cl s3.heap.objs.size s3 (upd H s.heap.objs.size (.lst [])) fp) pins σ' H' s' → Q (.ref s.heap.objs.size) H' → RR (.ref s.heap.objs.size) s3.heap.objs.size (.ok .next) s' := fun {H' σ' s'} J q => by
    obtain ⟨m, hn, _⟩ := J.loc
    refine hRR _ _ H' s' m (I3.call' (ch := fp) J.os J.base J.hok J.bare fun b hb => ⟨(hf b hb).2.2.2.1, (hf b hb).2.1, (hf b hb).2.2.2.2.1, (hf b hb).2.2.2.2.2⟩) q hn J.free (Nat.ne_of_gt I3.lt) (.inr I3.sz) (fun y c e => ?_) fun p hp => ?_
    · obtain ⟨v, o, ho, _⟩ := I3.cell y c e
      exact lt3 c o ho
    · exact lt3 _ _ (I3.pin p hp).1
  have loop : ∀ s₃ : Shared, s₃ = { s3 with heap := h₁ } → codeAny (model X.prog X.w) X.A (.compLoop (.ListComp elt [⟨.Name x px, iter, [], 0⟩] scope pos) 0 (.ref it) (.ref s.heap.objs.size) (compEnvC scope cl s3.heap.objs.size X.env)) (RR (.ref s.heap.objs.size) s3.heap.objs.size) s₃ := by
    rintro s₃ rfl
    refine compLoop_go (fun m s' => ∃ i ys xo H', Inv (blk X N' scope cl s3.heap.objs.size s3 (upd H s.heap.objs.size (.lst [])) fp) pins (xo :: pick σ fr) H' s' ∧ tn i s'.heap ∧ (∀ b ∈ fp, H' b = none) ∧ W i ys H' ∧ m = n - i) ?_ n ⟨0, [], none, _, I4, st3, fun b hb => ?_, w0, rfl⟩
    · rintro m s' ⟨i, ys, xo, H', I', st', fr', w', rfl⟩
      rcases turn i ys H' w' with ⟨stop, q⟩ | ⟨go, hin, step⟩
      · refine thn (T.done (blk X N' scope cl s3.heap.objs.size s3 (upd H s.heap.objs.size (.lst [])) fp) rfl rfl rfl hc i pins s' _ H' (fun _ _ => False) I' (stat fr') st' stop) fun r s1 ⟨hr, I1⟩ => ?_
        subst hr
        exact fin I1 q
      · refine thn (T.item (blk X N' scope cl s3.heap.objs.size s3 (upd H s.heap.objs.size (.lst [])) fp) rfl rfl rfl hc i pins s' _ H' (fun _ _ => False) I' (stat fr') st' go) fun r s1 ⟨u, hr, h4⟩ => ?_
        subst hr
        refine thn h4 fun _ s5 ⟨v, H5, I5, r5, y5, st5, fr5⟩ => ?_
        have I5' := I5.pinned (stat fr5) (T.obj _ _ st5)
        have kx : (relabel scope X.env).names.lookup x = some .local := lookup_relabel_local B.loc
        refine thn (pg_name (X := blk X N' scope cl s3.heap.objs.size s3 (upd H s.heap.objs.size (.lst [])) fp) (i := 0) (x := x) B.nd B.hx (.inl kx) (.inr kx) _ s5 _ H5 v u
          (fun σ' H6 => σ' = some v :: pick σ fr ∧ H6 = H5) I5' r5 ⟨rfl, rfl⟩) fun _ s6 ⟨σ6, H6, I6, e1, e2⟩ => ?_
        subst e1 e2
        refine thn (he _ _ _ _ s6 _ _ _ I6 (step v _ y5)) fun y s7 ⟨vy, H7, I7, ry, hacc, hlen, w7⟩ => ?_
        refine thn (mt_append _ s7 _ H7 (.ref s.heap.objs.size) [vy] (.ref s.heap.objs.size) [y] (fun _ H8 => H8 = upd H7 s.heap.objs.size (.lst (ys ++ [vy]))) I7 rfl (.cons ry .nil) ⟨_, ys, vy, rfl, rfl, hacc, hlen, rfl⟩) fun _ s8 ⟨_, H8, I8, _, e8⟩ => ?_
        subst e8
        refine ⟨n - (i + 1), by omega, i + 1, ys ++ [vy], some v, _, I8.unpinned, T.keep _ _ _ st5 fun b hb o e => (I8.pin (b, o) (List.mem_append_right _ (List.mem_append_right _ (mem_pinsAt hb e)))).1, fun b hb => ?_, w7, rfl⟩
        obtain ⟨o, e, d⟩ := T.obj _ _ st5 b hb
        exact (I8.pin (b, o) (List.mem_append_right _ (List.mem_append_right _ (mem_pinsAt hb e)))).2.1
    · obtain ⟨o, e, _⟩ := T.obj 0 _ st b hb
      rw [upd_ne (Nat.ne_of_lt (Heap.lt_size e))]
      exact (hf b hb).1
  have e4 : ({ s with heap := h₁, toks := s.toks + ([] : List (Str × Value)).length } : Shared) = { s3 with heap := h₁ } := by rw [← hs3]; rfl
  rw [e4]
  exact codeAny_compStart_list (loop _ rfl) (T.self _ 0 _ _ _ st3 (loop _ rfl))

section
variable {X : Cx} {x y : Str} {px py pos spos : Pos} {elt iter : Expr} {scope : Scope} {cl : List (Str × Addr)} {N' : List Str} {fr : List Nat} {wi : TI} {te : TE}
/-- [elt for x in iter] as a value -/
def tComp (wi : TI) (fr : List Nat) (te : TE) : TE := fun σ H Q => wi σ H fun J H1 => ∀ acc, H1 acc = none → CompW J te (pick σ fr) Q H1 acc
theorem pe_comp (fr : List Nat) (N' : List Str) (B : BlkOk X x fr N' scope cl) (hc : X.calm = true) (hi : PI X (.Name x px) iter wi) (he : ∀ C s' H' fp, PE (blk X N' scope cl C s' H' fp) elt te) (hs : ∀ x, foldedSetIterable iter X.env x = pure x := by intro _; rfl) :
    PE X (.ListComp elt [⟨.Name x px, iter, [], 0⟩] scope pos) (tComp wi fr te) := by
  intro pins s σ H Q I h
  rw [eval_ListComp]
  refine wpAny_comprehension_free (use := none) rfl hs B.clos B.kind B.names (thn (hi pins s σ H _ I h) fun v s1 h1 => thn h1 fun itv s2 h2 => ?_)
  obtain ⟨it, fp, tn, J, H2, e, I2, T, st2, f2, q2⟩ := h2
  subst e
  refine comp_core (RR := fun acc C => compPost (model X.prog X.w) X.A X.xe none (EP X pins σ Q) acc C) B hc I2 T st2 f2 (fun C s' H' => he C s' H' fp) q2 ?_
  intro acc C H' s' m I' q hn h0 h1 h3 h4 h5
  refine ⟨m, hn, fun h' sb => ⟨.ref acc, H', I'.turned (t' := s'.toks) (fun b o hb e => (sb.2 b hb).trans e) h0 h1 h3 h4 h5, rfl, q⟩⟩
/-- y = [elt for x in iter] in one row -/
def sComp (i : Nat) (wi : TI) (fr : List Nat) (te : TE) : TS := fun D σ H => tComp wi fr te σ H fun v H1 => D.nx (σ.set i (some v)) H1
theorem ps_comp {i : Nat} (fr : List Nat) (N' : List Str) (hN : X.N.Nodup) (hi' : X.N[i]? = some y) (hy : X.env.kindOf y = some .local) (B : BlkOk X x fr N' scope cl) (hc : X.calm = true) (hi : PI X (.Name x px) iter wi)
    (he : ∀ C s' H' fp, PE (blk X N' scope cl C s' H' fp) elt te) (hsw : swapsWith (.ListComp elt [⟨.Name x px, iter, [], 0⟩] scope pos) (some (.Name y py)) spos.line X.env = pure true := by rfl) (hs : ∀ x, foldedSetIterable iter X.env x = pure x := by intro _; rfl) :
    PS X (.Assign [.Name y py] (.ListComp elt [⟨.Name x px, iter, [], 0⟩] scope pos) spos) (sComp i wi fr te) := by
  intro pins s σ H D I h
  rw [exec_Assign_Name_used _ _ _ _ hsw]
  refine wpAny_bind (wpAny_standAt (wpAny_bind ?_))
  show wpAny _ X.A (do let _ ← comprehension (.ListComp elt [⟨.Name x px, iter, [], 0⟩] scope pos) scope X.env _ (newList []) false (eval iter X.env) (some (assign (.Name y py) X.env))) _ _ s
  refine wpAny_bind (wpAny_mono (wpAny_comprehension_free (use := some (assign (.Name y py) X.env)) (Q := fun _ s' => SP X pins D .next s') rfl hs B.clos B.kind B.names (thn (hi pins s σ H _ I h) fun v s1 h1 => thn h1 fun itv s2 h2 => ?_))
    (fun _ s' hq => wpAny_pure (wpAny_pure hq)) fun _ _ e => e)
  obtain ⟨it, fp, tn, J, H2, e, I2, T, st2, f2, q2⟩ := h2
  subst e
  refine comp_core (RR := fun acc C => compPost (model X.prog X.w) X.A X.xe (some (assign (.Name y py) X.env)) (fun _ s' => SP X pins D .next s') acc C) B hc I2 T st2 f2 (fun C s' H' => he C s' H' fp) q2 ?_
  intro acc C H' s' m I' q hn h0 h1 h3 h4 h5
  show wpAny _ X.A (assign (.Name y py) X.env (.ref acc)) _ _ _
  refine wpAny_assign_Name (store_ok2 (v := .ref acc) I' hN hi' (.inl hy) rfl (fun s'' I'' hsb => ?_) (.inr hy))
  obtain ⟨a, sb, ha⟩ := hsb
  have hCa : C ≠ a := by
    rcases ha with z | z
    · rw [z]; exact h1
    · exact Ne.symm (h4 _ _ z)
  refine ⟨m, hn.sameBut sb hCa, fun h' sb' => ⟨_, H', I''.turned (t' := s''.toks) (fun b o hb e => (sb'.2 b hb).trans e) h0 h1 h3 h4 h5, q⟩⟩
end

/-! ### the forms one uses -/
/-- over a range: the element by its number, all else stays -/
theorem comp_range {lo : Int} {n : Nat} {te : TE} {σ' : St} {Q : VK} {H : Hp} {acc : Addr} (f : Nat → V) (hn : n ≤ sizeLine)
    (he : ∀ i H3 (k : VK), i < n → k (f i) H3 → te (some (.int (lo + i)) :: σ') H3 k) (q : Q (.ref acc) (upd H acc (.lst ((List.range n).map f)))) : CompW (Itr lo n) te σ' Q H acc := by
  refine ⟨n, fun i ys H2 => i ≤ n ∧ ys = (List.range i).map f ∧ H2 = upd H acc (.lst ys), ⟨Nat.zero_le _, rfl, rfl⟩, ?_⟩
  rintro i ys H2 ⟨hi, rfl, rfl⟩
  by_cases hlt : i < n
  · refine .inr ⟨hlt, hlt, ?_⟩
    rintro v H3 ⟨rfl, rfl⟩
    refine he i _ _ hlt ⟨upd_same, by rw [List.length_map, List.length_range]; omega, hlt, ?_, ?_⟩
    · rw [List.range_succ, List.map_append]
      all_goals rfl
    · rw [upd_upd]
  · have e : i = n := by omega
    subst e
    exact .inl ⟨Nat.le_refl _, q⟩
end L2

set_option Elab.async false
set_option linter.all false
set_option maxRecDepth 100000
namespace L2
open PySem

/-! ### own words: plain data and what stands for it -/
inductive D where
  | int (i : Int)
  | str (x : Str)
  | tup (l : List D)
  | lst (l : List D)
mutual
def D.sz : D → Nat
  | .int _ => 1
  | .str _ => 1
  | .tup l => 1 + szs l
  | .lst l => 1 + szs l
def szs : List D → Nat
  | [] => 0
  | d :: r => d.sz + szs r
end
mutual
def Rep (H : Hp) : D → V → Prop
  | .int i, v => v = .int i
  | .str x, v => v = .str x
  | .tup l, v => ∃ a xs, v = .ref a ∧ H a = some (.tup xs) ∧ Reps H l xs
  | .lst l, v => ∃ a xs, v = .ref a ∧ H a = some (.lst xs) ∧ Reps H l xs
def Reps (H : Hp) : List D → List V → Prop
  | [], xs => xs = []
  | d :: r, xs => ∃ x t, xs = x :: t ∧ Rep H d x ∧ Reps H r t
end
mutual
theorem Rep.mono {H H' : Hp} (s : Same H H') : ∀ (d : D) (v : V), Rep H d v → Rep H' d v
  | .int _, _, h => h
  | .str _, _, h => h
  | .tup l, _, h => by
    unfold Rep at h ⊢
    obtain ⟨a, xs, e, q, r⟩ := h
    exact ⟨a, xs, e, s _ _ q, Reps.mono s l xs r⟩
  | .lst l, _, h => by
    unfold Rep at h ⊢
    obtain ⟨a, xs, e, q, r⟩ := h
    exact ⟨a, xs, e, s _ _ q, Reps.mono s l xs r⟩
theorem Reps.mono {H H' : Hp} (s : Same H H') : ∀ (l : List D) (xs : List V), Reps H l xs → Reps H' l xs
  | [], _, h => h
  | d :: r, _, h => by
    unfold Reps at h ⊢
    obtain ⟨x, t, e, q, z⟩ := h
    exact ⟨x, t, e, Rep.mono s d x q, Reps.mono s r t z⟩
end
theorem D.sz_pos : ∀ d : D, 1 ≤ d.sz
  | .int _ => by unfold D.sz; omega
  | .str _ => by unfold D.sz; omega
  | .tup _ => by unfold D.sz; omega
  | .lst _ => by unfold D.sz; omega
theorem szs_nil : szs [] = 0 := by unfold szs; rfl
theorem szs_cons (d : D) (r : List D) : szs (d :: r) = d.sz + szs r := by rw [szs]
theorem sz_tup (l : List D) : (D.tup l).sz = 1 + szs l := by rw [D.sz]
theorem sz_lst (l : List D) : (D.lst l).sz = 1 + szs l := by rw [D.sz]
theorem sz_int (i : Int) : (D.int i).sz = 1 := by rw [D.sz]
theorem sz_str (x : Str) : (D.str x).sz = 1 := by rw [D.sz]
theorem szs_append : ∀ a b : List D, szs (a ++ b) = szs a + szs b
  | [], b => by rw [List.nil_append, szs_nil, Nat.zero_add]
  | d :: r, b => by rw [List.cons_append, szs_cons, szs_cons, szs_append r b]; omega
theorem len_szs : ∀ a : List D, a.length ≤ szs a
  | [] => by rw [szs_nil]; exact Nat.le_refl _
  | d :: r => by
    have h1 := len_szs r
    have h2 := d.sz_pos
    rw [szs_cons, List.length_cons]
    omega
theorem szs_le {c : Nat} : ∀ l : List D, (∀ d ∈ l, d.sz ≤ c) → szs l ≤ l.length * c
  | [], _ => by rw [szs_nil]; exact Nat.zero_le _
  | d :: r, h => by
    have h1 := szs_le r fun x hx => h x (List.mem_cons_of_mem _ hx)
    have h2 := h d List.mem_cons_self
    rw [szs_cons, List.length_cons, Nat.add_mul, Nat.one_mul]
    omega
theorem Reps.nil {H : Hp} : Reps H [] [] := by unfold Reps; rfl
theorem Reps.cons {H : Hp} {d : D} {r : List D} {x : V} {t : List V} (h : Rep H d x) (q : Reps H r t) : Reps H (d :: r) (x :: t) := by
  unfold Reps
  exact ⟨x, t, rfl, h, q⟩
theorem Reps.inv {H : Hp} {d : D} {r : List D} {xs : List V} (h : Reps H (d :: r) xs) : ∃ x t, xs = x :: t ∧ Rep H d x ∧ Reps H r t := by
  unfold Reps at h
  exact h
theorem Reps.inv0 {H : Hp} {xs : List V} (h : Reps H [] xs) : xs = [] := by
  unfold Reps at h
  exact h
theorem Reps.append {H : Hp} : ∀ {a b : List D} {xs ys : List V}, Reps H a xs → Reps H b ys → Reps H (a ++ b) (xs ++ ys)
  | [], _, _, _, h, q => by rw [h.inv0]; exact q
  | d :: r, _, _, _, h, q => by
    obtain ⟨x, t, rfl, h1, h2⟩ := h.inv
    exact .cons h1 (Reps.append h2 q)
theorem Reps.snoc {H : Hp} : ∀ {a : List D} {d : D} {xs : List V}, Reps H (a ++ [d]) xs → ∃ ys x, xs = ys ++ [x] ∧ Reps H a ys ∧ Rep H d x
  | [], d, xs, h => by
    obtain ⟨x, t, rfl, h1, h2⟩ := Reps.inv (r := []) h
    rw [h2.inv0]
    exact ⟨[], x, rfl, .nil, h1⟩
  | c :: r, d, xs, h => by
    obtain ⟨x, t, rfl, h1, h2⟩ := Reps.inv (r := r ++ [d]) h
    obtain ⟨ys, z, rfl, h3, h4⟩ := Reps.snoc h2
    exact ⟨x :: ys, z, rfl, .cons h1 h3, h4⟩
theorem Reps.length {H : Hp} : ∀ {a : List D} {xs : List V}, Reps H a xs → xs.length = a.length
  | [], _, h => by rw [h.inv0]; rfl
  | d :: r, _, h => by
    obtain ⟨x, t, rfl, h1, h2⟩ := h.inv
    rw [List.length_cons, List.length_cons, h2.length]
theorem Rep.int_inv {H : Hp} {i : Int} {v : V} (h : Rep H (.int i) v) : v = .int i := by unfold Rep at h; exact h
theorem Rep.str_inv {H : Hp} {i : Str} {v : V} (h : Rep H (.str i) v) : v = .str i := by unfold Rep at h; exact h
theorem Rep.tup_inv {H : Hp} {l : List D} {v : V} (h : Rep H (.tup l) v) : ∃ a xs, v = .ref a ∧ H a = some (.tup xs) ∧ Reps H l xs := by unfold Rep at h; exact h
theorem Rep.lst_inv {H : Hp} {l : List D} {v : V} (h : Rep H (.lst l) v) : ∃ a xs, v = .ref a ∧ H a = some (.lst xs) ∧ Reps H l xs := by unfold Rep at h; exact h
theorem Rep.ofTup {H : Hp} {l : List D} {a : Addr} {xs : List V} (h : H a = some (.tup xs)) (r : Reps H l xs) : Rep H (.tup l) (.ref a) := by unfold Rep; exact ⟨a, xs, rfl, h, r⟩
theorem Rep.ofLst {H : Hp} {l : List D} {a : Addr} {xs : List V} (h : H a = some (.lst xs)) (r : Reps H l xs) : Rep H (.lst l) (.ref a) := by unfold Rep; exact ⟨a, xs, rfl, h, r⟩
theorem Rep.ofInt {H : Hp} {i : Int} : Rep H (.int i) (.int i) := by unfold Rep; rfl
theorem Rep.ofStr {H : Hp} {i : Str} : Rep H (.str i) (.str i) := by unfold Rep; rfl

/-! ints and texts -/
def atomD : V → Option D
  | .int i => some (.int i)
  | .str x => some (.str x)
  | _ => none
def Atom (v : V) : Prop := ∃ d, atomD v = some d
theorem Atom.int (i : Int) : Atom (.int i) := ⟨_, rfl⟩
theorem Atom.str (i : Str) : Atom (.str i) := ⟨_, rfl⟩
theorem Atom.rep {H : Hp} {v : V} (h : Atom v) : ∃ d, Rep H d v ∧ d.sz = 1 := by
  obtain ⟨d, h⟩ := h
  cases v with
  | int i => exact ⟨.int i, .ofInt, sz_int i⟩
  | str x => exact ⟨.str x, .ofStr, sz_str x⟩
  | _ => cases h
theorem reps_of {H : Hp} {c : Nat} : ∀ {xs : List V}, (∀ v ∈ xs, ∃ d, Rep H d v ∧ d.sz ≤ c) → ∃ l, Reps H l xs ∧ szs l ≤ xs.length * c
  | [], _ => ⟨[], .nil, by rw [szs_nil]; exact Nat.zero_le _⟩
  | x :: r, h => by
    obtain ⟨d, h1, h2⟩ := h x List.mem_cons_self
    obtain ⟨l, h3, h4⟩ := reps_of (xs := r) fun v hv => h v (List.mem_cons_of_mem _ hv)
    refine ⟨d :: l, .cons h1 h3, ?_⟩
    rw [szs_cons, List.length_cons, Nat.add_mul, Nat.one_mul]
    omega
/-- a tuple of at most five ints and texts: a line of a log -/
def Line (H : Hp) (v : V) : Prop := ∃ a fs, v = .ref a ∧ H a = some (.tup fs) ∧ fs.length ≤ 5 ∧ ∀ f ∈ fs, Atom f
theorem Line.rep {H : Hp} {v : V} (h : Line H v) : ∃ d, Rep H d v ∧ d.sz ≤ 6 := by
  obtain ⟨a, fs, rfl, h1, h2, h3⟩ := h
  obtain ⟨l, r, z⟩ := reps_of (H := H) (c := 1) fun v hv => by
    obtain ⟨d, q, e⟩ := (h3 v hv).rep (H := H)
    exact ⟨d, q, Nat.le_of_eq e⟩
  exact ⟨.tup l, .ofTup h1 r, by rw [sz_tup]; omega⟩
/-- tuples stay -/
def KeepT (H H' : Hp) : Prop := ∀ b xs, H b = some (.tup xs) → H' b = some (.tup xs)
theorem KeepT.refl (H : Hp) : KeepT H H := fun _ _ h => h
theorem KeepT.trans {H H1 H2 : Hp} (a : KeepT H H1) (b : KeepT H1 H2) : KeepT H H2 := fun c o h => b c o (a c o h)
theorem Same.keepT {H H' : Hp} (s : Same H H') : KeepT H H' := fun b xs h => s b _ h
theorem keepT_upd {H : Hp} {l : Addr} {xs : List V} {o : HO} (h : H l = some (.lst xs)) : KeepT H (upd H l o) := fun b ys q => by
  rw [upd_ne (ne_of q h (fun z => nomatch z))]
  exact q
theorem same_new {H : Hp} {p : Addr} (h : H p = none) (o : HO) : Same H (upd H p o) := fun b u q => by
  rw [upd_ne (ne_of_none q h)]
  exact q
theorem Line.mono {H H' : Hp} {v : V} (k : KeepT H H') (h : Line H v) : Line H' v := by
  obtain ⟨a, fs, e, h1, h2⟩ := h
  exact ⟨a, fs, e, k _ _ h1, h2⟩
/-- what is new beside H stays apart from it -/
theorem Same.upd_new {H H' : Hp} {l : Addr} {o : HO} (s : Same H H') (h : H l = none) : Same H (upd H' l o) := fun b u q => by
  rw [upd_ne (ne_of_none q h)]
  exact s b u q
theorem atI_in {α : Type} {xs : List α} {k : Int} (h0 : 0 ≤ k) (h1 : k < xs.length) : ∃ v, atI xs k = some v ∧ xs[k.toNat]? = some v := by
  have hk : k.toNat < xs.length := by omega
  have e : k = ((k.toNat : Nat) : Int) := by omega
  have q : xs[k.toNat]? = some xs[k.toNat] := List.getElem?_eq_getElem hk
  have z := atI_nat q
  rw [← e] at z
  exact ⟨_, z, q⟩
theorem ixN_in {n : Nat} {k : Int} (h0 : 0 ≤ k) (h1 : k < n) : ixN n k = some k.toNat := by
  unfold ixN
  rw [if_pos h0, if_pos h1]
theorem sIx_some_in {n d : Nat} {k : Int} (h0 : 0 ≤ k) (h1 : k ≤ n) : HT.sIx n d (some k) = k.toNat := by
  have e : k = ((k.toNat : Nat) : Int) := by omega
  rw [e, HT.sIx_nat, ← e]
  omega
theorem cut_before {xs : List V} {k : Int} (h0 : 0 ≤ k) (h1 : k ≤ xs.length) : cutV xs none (some k) = xs.take k.toNat := by
  unfold cutV
  rw [HT.sIx_none, sIx_some_in h0 h1, List.drop_zero, Nat.sub_zero]
theorem cut_behind {xs : List V} {k : Int} (h0 : 0 ≤ k) (h1 : k ≤ xs.length) : cutV xs (some k) none = xs.drop k.toNat := by
  unfold cutV
  rw [HT.sIx_none, sIx_some_in h0 h1]
  exact List.take_of_length_le (by rw [List.length_drop]; exact Nat.le_refl _)
theorem get_map_int {ns : List Int} {i : Nat} {y : V} (h : (ns.map V.int)[i]? = some y) : ∃ z, y = .int z ∧ ns[i]? = some z := by
  rw [List.getElem?_map] at h
  cases e : ns[i]? with
  | none => rw [e] at h; cases h
  | some z => rw [e] at h; exact ⟨z, (Option.some.inj h).symm, rfl⟩
end L2

set_option Elab.async false
set_option linter.all false
set_option maxRecDepth 100000
namespace L2
open PySem PySem.Spec PyProof.Rows

/-! ### own words: for a, b in enumerate(xs) -/
/-- a list with its places, as it stands at each turn: each pair is a new tuple -/
def Ite (K : PySem.W.Frag) (a : Addr) : It :=
  ⟨fun i H => ∃ xs x, SqL K H a xs ∧ xs[i]? = some x, fun i H x H' => ∃ p v, H p = none ∧ x = .ref p ∧ H' = upd H p (.tup [.int i, v]) ∧ ∀ xs, SqL K H a xs → xs[i]? = some v, fun i H => ∃ xs, SqL K H a xs ∧ xs.length ≤ i⟩
theorem turn_enum {P : Program} {w : World} {K : PySem.W.Frag} {es : List Expr} {k1 : Nat} {tp : Pos} (a e it : Addr) (hne : e ≠ it) :
    Turn P w K (.Tuple es k1 tp) (Ite K a) [e, it] e (fun i h => ∃ old, IsEnum h e it ((i : Nat) : Int) old ∧ h.IsListIter it a i) where
  mem := by simp
  obj := fun i h ⟨old, he, hit⟩ b hb => by
    rcases List.mem_cons.mp hb with z | z
    · subst z
      exact ⟨_, he, fun v z => by
        have z' : Data.fields _ = Data.cell v := z
        cases z'⟩
    · have z := List.mem_singleton.mp z
      subst z
      obtain ⟨o, e, c, d⟩ := hit
      exact ⟨o, e, fun v z => by rw [d] at z; cases z⟩
  keep := fun i h h' ⟨old, he, hit⟩ k => ⟨old, k e (by simp) _ he, hit.at fun o x => k it (by simp) o x⟩
  item := by
    intro X hP hw hK hc i pins s σ H E I hf st hg
    subst hP hw hK
    obtain ⟨old, he, hit⟩ := st
    obtain ⟨xs, x, hq, hx⟩ := hg
    obtain ⟨its, rv, p, hz⟩ := I.list hq
    obtain ⟨u, hu, ru⟩ := rv.get hx
    have fe := hf e (by simp)
    have fi := hf it (by simp)
    have hes : e < s.heap.objs.size := Heap.lt_size he
    refine wpAny_pyNext_enum_item he hit p.isList (x := u) (by simpa using hu) hne fun h₁ heo hit₁ ht₁ hz₁ hk₁ => ?_
    refine ⟨_, rfl, wpAny_letOwnedTupleGo_enum heo fun h₂ he₂ hs₂ => ?_⟩
    replace hs₂ : Heap.SameBut e h₁ h₂ := hs₂
    have k2 : ∀ b o, b ≠ e → b ≠ it → s.heap.get? b = some o → h₂.get? b = some o := fun b o h1 h2 q => (hs₂.2 b h1).trans (hk₁ b o h1 h2 q)
    have t2 : h₂.get? s.heap.objs.size = some { cls := .type "tuple", data := .seq #[.int i s.toks, u] } := (hs₂.2 _ (Nat.ne_of_gt hes)).trans ht₁
    have nch : ∀ b, b ∉ [e, it] → b ≠ e ∧ b ≠ it := fun b h => ⟨fun z => h (by simp [z]), fun z => h (by simp [z])⟩
    have ntr : ∀ b o, H b = some o → b ≠ e ∧ b ≠ it := fun b o q => ⟨ne_of_none q fe.1, ne_of_none q fi.1⟩
    have hfr : H s.heap.objs.size = none := I.fresh
    have ei : ((i + 1 : Nat) : Int) = (i : Int) + 1 := by omega
    refine ⟨.ref s.heap.objs.size, upd H s.heap.objs.size (.tup [.int i, x]), ?_, rfl, ⟨_, x, hfr, rfl, rfl, fun ys hy => by rw [I.list_inj hy hq]; exact hx⟩, ⟨u, by rw [ei]; exact he₂, hit₁.extBut hs₂.extBut (Ne.symm hne)⟩, fun b hb => ?_⟩
    · refine Inv.step (s := s) (h' := h₂) (t' := s.toks + 1) (g' := s.gens) (d' := s.drawn) (ch := [e, it]) I (fun b hb => ?_) (fun b o _ _ h q _ => k2 b o (nch b h).1 (nch b h).2 q) (fun b o _ _ h q _ => ⟨o.slots, k2 b o (nch b h).1 (nch b h).2 q⟩)
        (fun b o _ q n => by rw [upd_ne (Nat.ne_of_lt (Heap.lt_size q))]; exact n) (fun b o h q => ⟨o, k2 b o (nch b h).1 (nch b h).2 q⟩) (fun b ys q => by rw [upd_ne (ne_of_none q hfr)]; exact q) (fun b o u' q => by rw [upd_ne (ne_of_none q hfr)]; exact q)
        (fun b ps q => ⟨#[], by rw [upd_ne (ne_of_none q hfr), q]; simp⟩) (fun m hm => ?_) (fun b ob q => ?_) I.bare
      · rcases List.mem_cons.mp hb with z | z
        · rw [z]; exact ⟨fe.2.2.2.1, fe.2.1, fe.2.2.2.2.1, fe.2.2.2.2.2⟩
        · rw [List.mem_singleton.mp z]; exact ⟨fi.2.2.2.1, fi.2.1, fi.2.2.2.2.1, fi.2.2.2.2.2⟩
      · obtain ⟨o, es', ep, ho, r⟩ := hm
        exact ⟨o, es', ep, k2 _ o (Ne.symm fe.2.1) (Ne.symm fi.2.1) ho, r⟩
      · by_cases hb : b = s.heap.objs.size
        · subst hb
          rw [upd_same] at q
          cases q
          exact ⟨by show 2 ≤ sizeLine; decide, [.int i s.toks, u], .cons ⟨_, rfl⟩ (.cons ru .nil), _, t2, rfl, _, rfl⟩
        · rw [upd_ne hb] at q
          refine (I.hok b ob q).stay (fun c v hc r => ?_) (fun c r => by rw [upd_ne (ne_of_none r hfr)]; exact r) (fun c ys r => by rw [upd_ne (ne_of_none r hfr)]; exact r)
          rcases hc with z | z
          · rw [z] at r ⊢
            exact k2 b v (ntr b ob q).1 (ntr b ob q).2 r
          · exact k2 c v (ntr c _ z).1 (ntr c _ z).2 r
    · have hb' : b < s.heap.objs.size := by
        rcases List.mem_cons.mp hb with z | z
        · rw [z]; exact hes
        · rw [List.mem_singleton.mp z]
          obtain ⟨o, q, _⟩ := hit
          exact Heap.lt_size q
      rw [upd_ne (Nat.ne_of_lt hb')]
      exact (hf b hb).1
  done := by
    intro X hP hw hK hc i pins s σ H E I hf st hg
    subst hP hw hK
    obtain ⟨old, he, hit⟩ := st
    obtain ⟨xs, hq, hx⟩ := hg
    obtain ⟨its, rv, p, hz⟩ := I.list hq
    obtain ⟨f0, f1, f2, f3, f4, f5⟩ := hf it (by simp)
    have hl := rv.length
    exact wpAny_pyNext_enum_end (I.ok.hd hc) he hit p.isList (by simp; omega) fun h' eb => ⟨rfl, I.turned (t' := s.toks) (fun b o hb e => eb b o hb e) f0 f1 f3 f4 f5⟩
  self := fun _ _ _ _ _ st h => by
    obtain ⟨old, he, _⟩ := st
    exact wpAny_pyIter_enum he h
section
variable {X : Cx}
def iEnum (K : PySem.W.Frag) (ta : TA) : TI := fun σ H R => ta σ H fun vs H1 => ∃ a, vs = [.ref a] ∧ (∃ xs, SqL K H1 a xs) ∧ R (Ite K a) H1
theorem pi_enum {es : List Expr} {k1 : Nat} {tp : Pos} {l : Expr} {ta : TA} {p pos : Pos} (hg : Gl X "enumerate") (hm : X.mg "enumerate" = none) (ha : PA X [l] ta) (hs : starEach [l] X.env = [(false, eval l X.env)] := by rfl) :
    PI X (.Tuple es k1 tp) (.Call (.Name "enumerate" p) [l] [] pos) (iEnum X.K ta) := by
  intro pins s σ H R I h
  refine Call_ (ld_blt I hg hm boot_enumerate (PyProof.Rows.callWith_type1 (thn (ha pos pins s σ H _ I h) fun us s1 ⟨vs, H1, I1, r1, q1⟩ => ?_) hs rfl))
  obtain ⟨a, e, ⟨xs, hq⟩, q⟩ := q1
  subst e
  cases r1 with
  | cons r rr =>
    cases rr
    cases r
    obtain ⟨its, rv, p, hz⟩ := I1.list hq
    refine call_enumerate_list p.isList fun h' he hit hsz hk => ?_
    refine wpAny_pyIter_enum he ?_
    refine ⟨s1.heap.objs.size + 1, [s1.heap.objs.size + 1, s1.heap.objs.size], _, _, H1, rfl, I1.kept (t' := s1.toks) hk, turn_enum a _ _ (Nat.succ_ne_self _), ⟨.none, he, hit⟩, fun b hb => ?_, q⟩
    rcases List.mem_cons.mp hb with z | z
    · rw [z]
      exact I1.fpOk (Nat.le_succ _) (I1.hok.fresh (Nat.le_succ _))
    · rw [List.mem_singleton.mp z]
      exact I1.fpOk (Nat.le_refl _) (I1.hok.fresh (Nat.le_refl _))
end
/-- over a list that the body leaves as it is -/
theorem for_enum {K : PySem.W.Frag} {a : Addr} {xs : List V} {g : TG} {tb : TS} {D : Ends} {σ : St} {H : Hp} (Pv : Nat → St → Hp → Prop) (h0 : Pv 0 σ H) (hl : ∀ i σ H, i ≤ xs.length → Pv i σ H → SqL K H a xs)
    (hs : ∀ i x σ H p, xs[i]? = some x → Pv i σ H → H p = none → g (.ref p) σ (upd H p (.tup [.int i, x])) fun σ2 H2 => tb { D with nx := Pv (i + 1), ct := Pv (i + 1), bk := D.nx } σ2 H2) (hd : ∀ σ H, Pv xs.length σ H → D.nx σ H) :
    ∃ W : Nat → Nat → St → Hp → Prop, (∃ m, W 0 m σ H) ∧ ∀ i m σ H, W i m σ H →
      ((Ite K a).stop i H ∧ D.nx σ H) ∨ ((Ite K a).go i H ∧ ∃ N : St → Hp → Prop, (∀ σ' H', N σ' H' → ∃ m', m' < m ∧ W (i + 1) m' σ' H') ∧ ∀ x H', (Ite K a).yld i H x H' → g x σ H' fun σ2 H2 => tb { D with nx := N, ct := N, bk := D.nx } σ2 H2) := by
  refine ⟨fun i m σ H => m = xs.length - i ∧ i ≤ xs.length ∧ Pv i σ H, ⟨xs.length, by simp, Nat.zero_le _, h0⟩, ?_⟩
  rintro i m σ H ⟨rfl, hi, p⟩
  have q := hl i σ H hi p
  by_cases hlt : i < xs.length
  · refine .inr ⟨⟨xs, xs[i], q, by simp [hlt]⟩, Pv (i + 1), fun σ' H' p' => ⟨xs.length - (i + 1), by omega, rfl, hlt, p'⟩, fun x H' y => ?_⟩
    obtain ⟨pr, v, n, rfl, rfl, y⟩ := y
    exact hs i v σ _ pr (y xs q) p n
  · have e : i = xs.length := by omega
    subst e
    exact .inl ⟨⟨xs, q, Nat.le_refl _⟩, hd σ H p⟩
end L2

set_option Elab.async false
set_option linter.all false
set_option maxRecDepth 100000
namespace L2
open PySem PySem.Spec PyProof.Rows

/-! ### own words: dict(a list of pairs) -/
theorem list_no_keys : typeLookup (.type "list") "keys" = pure none := by rw [typeLookup_type, builtinLookup_eq_fast]; kernel_rfl
theorem no_keys_of_list {prog : Program} {w : World} {A : Around} {E : Value → Shared → Prop} {s : Shared} {a : Addr} {xs : Array Value} {k : Nat} {Q : Option Value → Shared → Prop}
    (hx : s.heap.get? a = some { cls := .type "list", data := .seq xs k }) (hA : A.handled = none)
    (h : ∀ h' tk, (∀ b o, s.heap.get? b = some o → h'.get? b = some o) → Q none { s with heap := h', toks := tk }) :
    wpAny (model prog w) A (getAttr? (.ref a) "keys") Q E s := by
  obtain ⟨hp, g, d, tk, os⟩ := s
  have hT : ∀ tk', (⟨hp, g, d, tk', os⟩ : Shared).TypeIs (.ref a) "list" := fun _ => ⟨_, hx, rfl⟩
  have f1 := sub_AttributeError
  have f3 := F.slot_list_getattribute.lookup
  have f4 := F.slot_list_getattribute.bind (.ref a)
  have f5 := am_list_getattr_none
  unfold getAttr? getAttrBy? getAttrBy
  repeat (any_goals (first | assumption | exact hT _ | ((with_reducible show wpAny _ _ (call (Value.builtin "list.__getattribute__") _ _) _ _ _); refine call_meets F.slot_list_getattribute (hT _) am_entry_list_getattribute (F.args_list_getattribute_2 _ _) (meets_getattribute_miss_list a xs k #[] "keys" _ list_no_keys (by decide +kernel) (by size_fits)) ⟨hx, hA, fun h' tk' e hx' => ?_⟩) | wp_step))
  obtain ⟨t', u', he⟩ := hx'.there
  show wpAny _ _ (getattributeRaised _ _ _ _ _ _ _) _ _ _
  unfold getattributeRaised
  repeat (any_goals (first | assumption | wp_step))
  exact h _ _ hx'.of.keeps
theorem plain_update_loop : plainId "dict.update.loop" = true := by decide +kernel
theorem entry_update_loop : entryFor table "dict.update.loop" = some Builtin.«dict.update.loop» := entryFor_of_tree (by kernel_rfl)
/-- a pair of a key and a value -/
def PairAt (H : Hp) (x : V) (kv : Key × V) : Prop := ∃ a, x = .ref a ∧ H a = some (.tup [kV kv.1, kv.2])
def putAll (m : List (Key × V)) (kvs : List (Key × V)) : List (Key × V) := kvs.foldl (fun m kv => putK m kv.1 kv.2) m
theorem upd_self {H : Hp} {a : Addr} {o : HO} (h : H a = some o) : upd H a o = H := by
  funext b
  unfold upd
  split
  · rename_i e; rw [e, h]
  · rfl
theorem update_loop {X : Cx} {pins : List (Addr × Obj)} {σ : St} {A : Around} {R : Result → Shared → Prop} {d p it : Addr} {ys : List V} {kvs : List (Key × V)} (hh : A.handled = none) : ∀ (n i : Nat) (s : Shared) (H : Hp) (m : List (Key × V)),
    ys.length - i = n → i ≤ ys.length → Inv X pins σ H s → H d = some (.dK m) → H p = some (.lst ys) → (∀ (j : Nat) (x : V), ys[j]? = some x → ∃ kv, kvs[j]? = some kv ∧ PairAt H x kv) → kvs.length = ys.length → m.length + (ys.length - i) ≤ sizeLine →
    s.heap.IsListIter it p i → FpOk X pins H it → (∀ s', Inv X pins σ (upd H d (.dK (putAll m (kvs.drop i)))) s' → R (.ok (.ret .none)) s') →
    wpAny (model X.prog X.w) A.in1 (Builtin.«dict.update.loop» ⟨[.ref d, .ref it, rawInt i, .none], []⟩)
      (fun fin s' => match fin with | .done f => R (.ok f) s' | .again c' => c'.quiet = true ∧ codeAny (model X.prog X.w) A c' R s') (fun e s' => R (.error e) s') s := by
  intro n
  induction n with
  | zero =>
    intro i s H m hn hi I hd hp hP hl hz st hf q
    obtain ⟨its, rv, pl, _⟩ := I.list (SqL.of hp)
    have hlen := rv.length
    show wpAny _ _ (pyNext (.ref it) >>= _) _ _ s
    refine wpAny_bind (wpAny_pyNext_list_end hh st pl.isList (by simp; omega) fun h' eb => ?_)
    obtain ⟨f0, f1, f2, f3, f4, f5⟩ := hf
    have I1 : Inv X pins σ H { s with heap := h' } := I.turned (t' := s.toks) (fun b o hb e => eb b o hb e) f0 f1 f3 f4 f5
    have e0 : upd H d (.dK (putAll m (kvs.drop i))) = H := by
      rw [List.drop_eq_nil_of_le (by omega)]
      exact upd_self hd
    show wpAny _ _ (Builtin.Dict.addKeywords d [] >>= _) _ _ _
    exact wpAny_bind (wpAny_pure (wpAny_pure (q _ (by rw [e0]; exact I1))))
  | succ n ih =>
    intro i s H m hn hi I hd hp hP hl hz st hf q
    obtain ⟨its, rv, pl, _⟩ := I.list (SqL.of hp)
    have hlen := rv.length
    have hlt : i < ys.length := by omega
    obtain ⟨kv, hkv, a, ea, ha⟩ := hP i ys[i] (List.getElem?_eq_getElem hlt)
    obtain ⟨u, hu, ru⟩ := rv.get (List.getElem?_eq_getElem hlt)
    rw [ea] at ru
    cases ru
    show wpAny _ _ (pyNext (.ref it) >>= _) _ _ s
    refine wpAny_bind (wpAny_pyNext_list_item st pl.isList (x := .ref a) (by simpa using hu) fun h' st' sb => ?_)
    obtain ⟨f0, f1, f2, f3, f4, f5⟩ := hf
    have I1 : Inv X pins σ H { s with heap := h' } := I.turned (t' := s.toks) (fun b o hb e => (sb.2 b hb).trans e) f0 f1 f3 f4 f5
    obtain ⟨its2, r2, ⟨o, ho, hc, n2, hdat⟩, _⟩ := I1.tuple (SqT.of ha)
    obtain ⟨cl, dd, dt, sl⟩ := o
    simp only at hc hdat
    subst hc hdat
    have hT : (⟨h', s.gens, s.drawn, s.toks, s.os⟩ : Shared).TypeIs (.ref a) "tuple" := ⟨_, ho, rfl⟩
    show wpAny _ _ (holding [.ref a] _ >>= _) _ _ _
    refine wpAny_bind (wpAny_holding (wpAny_bind (wpAny_tryCatch ?_)))
    unfold Builtin.Dict.pairItems
    refine wpAny_bind (wpAny_typeOf hT ?_)
    rw [if_pos (by decide)]
    refine wpAny_bind (wpAny_seqItems ho rfl (wpAny_pure ?_))
    obtain ⟨uk, uv, rfl, rk, rw2⟩ := r2.two
    show wpAny _ _ (holding [uk, uv] (dictSet d uk uv)) _ _ _
    refine wpAny_holding ?_
    obtain ⟨z, hds, vs, rel, dd'⟩ := dk_of I1.hok hd
    have hlm : (putK m kv.1 kv.2).length ≤ m.length + 1 := length_putK m kv.1 kv.2
    refine wpAny_dictSet_pairs (knd := mixKind X.prog X.w) (k := kv.1) (kV_is rk) dd' (fun h2 dd2 hs2 => ?_) (by rw [← rel.length]; exact z)
    have I2 : Inv X pins σ (upd H d (.dK (putK m kv.1 kv.2))) { s with heap := h2, toks := s.toks + 1 } :=
      d_write (s := { s with heap := h' }) I1 (by rw [hd]; exact True.intro) hs2 (let ⟨q, _, _, hq, _⟩ := dd2; ⟨q, hq⟩) (dk_new (by omega) hds (rel.put kv.1 rw2) dd2)
    have npd : p ≠ d := ne_of hp hd (fun z => nomatch z)
    have nid : it ≠ d := (ne_of_none hd f0).symm
    have hc1 : ((i : Int) + 1) = ((i + 1 : Nat) : Int) := by omega
    rw [hc1]
    refine wpAny_pure ⟨plainId_quiet plain_update_loop _, codeAny_builtin entry_update_loop ?_⟩
    rw [Around.under_plainId plain_update_loop _]
    refine ih (i + 1) _ _ (putK m kv.1 kv.2) (by omega) (by omega) I2 upd_same (by rw [upd_ne npd]; exact hp) (fun j x hx => ?_) hl (by omega) (st'.extBut hs2.extBut nid) ⟨by rw [upd_ne nid]; exact f0, f1, f2, f3, f4, f5⟩ fun s' I' => q s' ?_
    · obtain ⟨kv', h1, b, h2, h3⟩ := hP j x hx
      exact ⟨kv', h1, b, h2, by rw [upd_ne (ne_of h3 hd (fun z => nomatch z))]; exact h3⟩
    · have e1 : kvs.drop i = kv :: kvs.drop (i + 1) := by
        obtain ⟨hk, e⟩ := List.getElem?_eq_some_iff.mp hkv
        rw [← e]
        exact List.drop_eq_getElem_cons hk
      rw [upd_upd] at I'
      rw [e1]
      exact I'
/-- dict(a list of pairs): a new dict -/
def rDictP : List V → Hp → VK → Prop := fun xs H Q => ∃ p ys kvs, xs = [.ref p] ∧ H p = some (.lst ys) ∧ (∀ (j : Nat) (x : V), ys[j]? = some x → ∃ kv, kvs[j]? = some kv ∧ PairAt H x kv) ∧ kvs.length = ys.length ∧ ys.length ≤ 1000 ∧
  ∀ d, H d = none → Q (.ref d) (upd H d (.dK (putAll [] kvs)))
theorem call_dictP {X : Cx} (hh : X.A.handled = none) : CallR X (.type "dict") rDictP := by
  intro pins s σ H xs us Q I rv h
  obtain ⟨p, ys, kvs, rfl, hp, hP, hl, hz, q⟩ := h
  obtain ⟨u, rfl, ru⟩ := rv.one
  cases ru
  refine callType_codes (Q₁ := fun obj s₁ => obj = .ref s.heap.objs.size ∧ s₁ = { s with heap := s.heap.push { cls := .type "dict", data := .dict #[] } }) F.kt_called_dict (F.kt_typeCall_dict_1 _) F.entry_dict_init (kt_code_dict_new _ ⟨rfl, rfl⟩) ?_
  rintro obj s₁ ⟨rfl, rfl⟩
  have I1 : Inv X pins σ (upd H s.heap.objs.size (.dK [])) { s with heap := s.heap.push { cls := .type "dict", data := .dict #[] } } :=
    I.laid (a := s.heap.objs.size) (o := .dK []) (t' := s.toks) (fun _ _ q => Heap.get?_push_of_some _ q) (Nat.le_refl _) (dk_empty s.heap I.big)
  have fr : H s.heap.objs.size = none := I.fresh
  have np : p ≠ s.heap.objs.size := ne_of_none hp fr
  have hnew : (s.heap.push { cls := .type "dict", data := .dict #[] }).DictOf (mixKind X.prog X.w) s.heap.objs.size [] := Heap.DictOf.new s.heap
  refine ⟨hnew.typeIs, F.args_dict_init_2 _ _, ?_⟩
  have hp1 : (upd H s.heap.objs.size (.dK [])) p = some (.lst ys) := by rw [upd_ne np]; exact hp
  obtain ⟨_, its, n0, r0, e0, g0⟩ := I1.lstM hp1
  unfold Builtin.«dict.__init__»
  refine wpAny_bind ?_
  unfold Builtin.Dict.selfAndRest
  refine wpAny_bind (wpAny_notOrdered_dict hnew.typeIs ?_)
  show wpAny _ _ (pure (s.heap.objs.size, [Value.ref p])) _ _ _
  refine wpAny_pure ?_
  show wpAny _ _ (Builtin.Dict.updateFrom "dict.__init__" s.heap.objs.size (.ref p) [] .none) _ _ _
  unfold Builtin.Dict.updateFrom
  refine wpAny_bind (wpAny_typeOf (T := "list") ⟨_, g0, rfl⟩ ?_)
  rw [if_pos (by decide)]
  refine wpAny_bind (no_keys_of_list g0 hh fun h' tk kk => ?_)
  have I2 : Inv X pins σ (upd H s.heap.objs.size (.dK [])) { s with heap := h', toks := tk } := I1.kept (t' := tk) kk
  obtain ⟨its2, r2, pl, _⟩ := I2.list (SqL.of hp1)
  show wpAny _ _ (rule _ >>= fun _ => pyIter (.ref p) >>= _) _ _ _
  refine wpAny_bind (wpAny_rule (wpAny_bind (wpAny_pyIter_list pl.isList ?_)))
  refine wpAny_pure ⟨plainId_quiet plain_update_loop _, codeAny_builtin entry_update_loop ?_⟩
  rw [Around.under_plainId plain_update_loop _]
  have I3 := I2.kept (t' := tk) (h' := h'.push { cls := .type "list_iterator", data := .fields #[.ref p, .int 0 0] }) fun b o e => Heap.get?_push_of_some _ e
  refine update_loop (A := X.A.in1) (it := h'.objs.size) (ys := ys) (kvs := kvs) (p := p) hh ys.length 0 _ _ [] rfl (Nat.zero_le _) I3 upd_same hp1 (fun j x hx => ?_) hl (by rw [List.length_nil, Nat.zero_add]; exact Nat.le_of_lt (small1000 hz)) ⟨_, Heap.get?_push_size _ rfl, rfl, rfl⟩ (I2.fpOk (Nat.le_refl _) (I2.hok.fresh (Nat.le_refl _))) fun s' I' => ?_
  · obtain ⟨kv, h1, a, h2, h3⟩ := hP j x hx
    exact ⟨kv, h1, a, h2, by rw [upd_ne (ne_of_none h3 fr)]; exact h3⟩
  · rw [upd_upd, List.drop_zero] at I'
    exact ⟨rfl, .ref s.heap.objs.size, _, I', rfl, q _ fr⟩
end L2

set_option Elab.async false
set_option linter.all false
set_option maxRecDepth 100000
namespace L2
open PySem PySem.Spec PyProof.Rows

/-! ### own words: two lists side by side -/
def All2 {α : Type} (R : α → V → Prop) (l : List α) (xs : List V) : Prop := l.length = xs.length ∧ ∀ (i : Nat) (a : α) (x : V), l[i]? = some a → xs[i]? = some x → R a x
section
variable {α : Type} {R R' : α → V → Prop} {l : List α} {xs : List V}
theorem All2.nil : All2 R [] [] := ⟨rfl, fun i a x h _ => by simp at h⟩
theorem All2.get (h : All2 R l xs) {i : Nat} {x : V} (e : xs[i]? = some x) : ∃ a, l[i]? = some a ∧ R a x := by
  have hi : i < xs.length := (List.getElem?_eq_some_iff.mp e).1
  have hl : i < l.length := by rw [h.1]; exact hi
  exact ⟨l[i], List.getElem?_eq_getElem hl, h.2 i _ x (List.getElem?_eq_getElem hl) e⟩
theorem All2.mono (h : All2 R l xs) (f : ∀ a x, R a x → R' a x) : All2 R' l xs := ⟨h.1, fun i a x h1 h2 => f a x (h.2 i a x h1 h2)⟩
theorem All2.snoc {a : α} {x : V} (h : All2 R l xs) (q : R a x) : All2 R (l ++ [a]) (xs ++ [x]) := by
  refine ⟨by rw [List.length_append, List.length_append, h.1]; rfl, fun i b y h1 h2 => ?_⟩
  by_cases hi : i < l.length
  · rw [List.getElem?_append_left hi] at h1
    rw [List.getElem?_append_left (by rw [← h.1]; exact hi)] at h2
    exact h.2 i b y h1 h2
  · rw [List.getElem?_append_right (by omega)] at h1
    have hx : xs.length ≤ i := by rw [← h.1]; omega
    rw [List.getElem?_append_right hx, ← h.1] at h2
    cases z : i - l.length with
    | zero =>
      rw [z] at h1 h2
      have e1 : a = b := Option.some.inj h1
      have e2 : x = y := Option.some.inj h2
      rw [← e1, ← e2]
      exact q
    | succ n => rw [z] at h1; simp at h1
theorem All2.drop (h : All2 R l xs) (n : Nat) : All2 R (l.drop n) (xs.drop n) := by
  refine ⟨by rw [List.length_drop, List.length_drop, h.1], fun i a x h1 h2 => ?_⟩
  rw [List.getElem?_drop] at h1 h2
  exact h.2 _ a x h1 h2
theorem All2.mem (h : All2 R l xs) {x : V} (hx : x ∈ xs) : ∃ a, a ∈ l ∧ R a x := by
  obtain ⟨i, e⟩ := List.mem_iff_getElem?.mp hx
  obtain ⟨a, h1, h2⟩ := h.get e
  exact ⟨a, List.mem_of_getElem? h1, h2⟩
end
theorem map_int_set (ns : List Int) (j : Nat) (z : Int) : (ns.map V.int).set j (.int z) = (ns.set j z).map V.int := by rw [List.map_set]
theorem map_int_get {ns : List Int} {i : Nat} {z : Int} (h : ns[i]? = some z) : (ns.map V.int)[i]? = some (.int z) := by rw [List.getElem?_map, h]; rfl
/-- xs[k] of a list of ints -/
theorem at_int {ns : List Int} {k : Int} (h0 : 0 ≤ k) (h1 : k < (ns.length : Int)) : ∃ z, ns[k.toNat]? = some z ∧ atI (ns.map V.int) k = some (.int z) := by
  obtain ⟨v, e1, e2⟩ := atI_in (xs := ns.map V.int) h0 (by rw [List.length_map]; exact h1)
  obtain ⟨z, rfl, e3⟩ := get_map_int e2
  exact ⟨z, e3, e1⟩
theorem flat_ints (ns : List Int) : (ns.map V.int).all flatV = true := by
  rw [List.all_eq_true]
  intro v hv
  obtain ⟨z, _, rfl⟩ := List.mem_map.mp hv
  rfl
theorem inV_ints (d : Int) (ns : List Int) : inV (.int d) (ns.map V.int) = decide (d ∈ ns) := by
  unfold inV
  induction ns with
  | nil => rfl
  | cons n r ih =>
    rw [List.map_cons, List.any_cons, ih]
    have e : eqV (.int n) (.int d) = (n == d) := rfl
    rw [e]
    by_cases h : n = d
    · subst h
      simp
    · have h' : ¬ d = n := fun z => h z.symm
      simp [h, h']

/-! ### own words: a block that sees one name of its frame -/
theorem relabel_has {env : Env} {fv y : Str} : ∀ {names : List (Str × NameKind)} {k : NameKind}, (∀ z ∈ names, z.2 ≠ .cell) → (∀ z ∈ names, z.2 = .free → z.1 = fv) →
    (names.map fun (n, k) => if (k == NameKind.free && env.scope.kind == .function && env.kindOf n == some .cell) then (n, NameKind.cell) else (n, k)).lookup y = some k → (k = .cell ∨ k = .free) → y = fv
  | [], _, _, _, h, _ => by simp at h
  | (n, k0) :: r, k, h1, h2, h, hk => by
    rw [List.map_cons, List.lookup_cons] at h
    have hn0 := h1 (n, k0) List.mem_cons_self
    have hf0 := h2 (n, k0) List.mem_cons_self
    by_cases hc : (k0 == NameKind.free && env.scope.kind == .function && env.kindOf n == some .cell) = true
    · simp only [hc, if_true] at h
      cases e : y == n with
      | true =>
        have : k0 = .free := by
          rw [Bool.and_eq_true, Bool.and_eq_true] at hc
          exact beq_iff_eq.mp hc.1.1
        rw [beq_iff_eq.mp e]
        exact hf0 this
      | false =>
        rw [e] at h
        exact relabel_has (fun z hz => h1 z (List.mem_cons_of_mem _ hz)) (fun z hz => h2 z (List.mem_cons_of_mem _ hz)) h hk
    · simp only [hc, Bool.false_eq_true, if_false] at h
      cases e : y == n with
      | true =>
        rw [e] at h
        have h' : some k0 = some k := h
        cases h'
        rw [beq_iff_eq.mp e]
        rcases hk with z | z
        · exact absurd z hn0
        · exact hf0 z
      | false =>
        rw [e] at h
        exact relabel_has (fun z hz => h1 z (List.mem_cons_of_mem _ hz)) (fun z hz => h2 z (List.mem_cons_of_mem _ hz)) h hk
theorem BlkOk.one {X : Cx} {x fv : Str} {j : Nat} {c : Addr} {scope : Scope} (hclos : closureFor scope X.env = pure [(fv, c)]) (hcell : ∀ y ∈ scope.names, y.2 ≠ .cell) (hfree : ∀ y ∈ scope.names, y.2 = .free → y.1 = fv) (hkind : scope.kind = .function)
    (hnames : ∀ y ∈ scope.names, y.2 = .local → scope.names.lookup y.1 = some .local) (hloc : scope.names.lookup x = some .local) (hc : X.env.cells.lookup fv = some c) (hne : x ≠ fv) (hN : X.N[j]? = some fv) (hk : X.env.scope.names.lookup fv = some .cell)
    (hr : (relabel scope X.env).names.lookup fv = some .cell) : BlkOk X x [j] [x, fv] scope [(fv, c)] where
  clos := hclos
  cell := hcell
  kind := hkind
  names := hnames
  loc := hloc
  sub := fun y d e => by
    rw [List.lookup_cons] at e
    cases z : y == fv with
    | true =>
      rw [z] at e
      have e' : some c = some d := e
      cases e'
      rw [beq_iff_eq.mp z]
      exact hc
    | false => rw [z] at e; simp at e
  has := fun y hy => by
    have : y = fv := by
      rcases hy with h | h
      · exact relabel_has hcell hfree h (.inl rfl)
      · exact relabel_has hcell hfree h (.inr rfl)
    subst this
    exact ⟨c, by rw [List.lookup_cons, beq_self_eq_true]⟩
  hx := rfl
  len := rfl
  nd := by
    rw [List.nodup_cons]
    exact ⟨fun m => hne (List.mem_singleton.mp m), by simp⟩
  see := fun i k y h1 h2 => by
    cases i with
    | zero =>
      have e1 : fv = y := Option.some.inj h1
      have e2 : j = k := Option.some.inj h2
      subst e1 e2
      exact ⟨hN, hk, hr⟩
    | succ i => simp at h2
/-- over a range: an element of a kind each, all else stays -/
theorem comp_rangeP {lo : Int} {n : Nat} {te : TE} {σ' : St} {Q : VK} {H : Hp} {acc : Addr} (R : V → Prop) (hn : n ≤ 1000)
    (he : ∀ i H3 (k : VK), i < n → (∀ v, R v → k v H3) → te (some (.int (lo + i)) :: σ') H3 k) (q : ∀ ys : List V, ys.length = n → (∀ v ∈ ys, R v) → Q (.ref acc) (upd H acc (.lst ys))) : CompW (Itr lo n) te σ' Q H acc := by
  refine ⟨n, fun i ys H2 => i ≤ n ∧ ys.length = i ∧ (∀ v ∈ ys, R v) ∧ H2 = upd H acc (.lst ys), ⟨Nat.zero_le _, rfl, fun v hv => by simp at hv, rfl⟩, ?_⟩
  rintro i ys H2 ⟨hi, hl, hR, rfl⟩
  by_cases hlt : i < n
  · refine .inr ⟨hlt, hlt, ?_⟩
    rintro v H3 ⟨rfl, rfl⟩
    refine he i _ _ hlt fun v hv => ⟨upd_same, Nat.lt_of_le_of_lt (by omega : ys.length ≤ 1000) (by decide), hlt, by rw [List.length_append, hl]; rfl, fun w hw => ?_, by rw [upd_upd]⟩
    rcases List.mem_append.mp hw with z | z
    · exact hR w z
    · rw [List.mem_singleton.mp z]; exact hv
  · have e : i = n := by omega
    subst e
    exact .inl ⟨Nat.le_refl _, q ys hl hR⟩
/-- over a list of ints that stays: a new pair of the item and a written value each -/
theorem comp_pairs {K : PySem.W.Frag} {a : Addr} {ns : List Int} {te : TE} {σ' : St} {Q : VK} {H : Hp} {acc : Addr} {w : V} (ha : H a = some (.lst (ns.map V.int))) (h0 : H acc = none) (hz : ns.length ≤ 1000)
    (he : ∀ (z : Int) H3 (k : VK), (∀ p, H3 p = none → k (.ref p) (upd H3 p (.tup [.int z, w]))) → te (some (.int z) :: σ') H3 k)
    (q : ∀ (ys : List V) (H' : Hp), Same H H' → H' acc = some (.lst ys) → All2 (fun z x => PairAt H' x (Sum.inl z, w)) ns ys → Q (.ref acc) H') : CompW (Itl K a) te σ' Q H acc := by
  have nac : a ≠ acc := ne_of_none ha h0
  refine ⟨ns.length, fun i ys H2 => i ≤ ns.length ∧ Same H H2 ∧ H2 acc = some (.lst ys) ∧ All2 (fun z x => PairAt H2 x (Sum.inl z, w)) (ns.take i) ys, ⟨Nat.zero_le _, same_new h0 _, upd_same, .nil⟩, ?_⟩
  rintro i ys H2 ⟨hi, sm, hacc, hp⟩
  have ha2 := sm _ _ ha
  by_cases hlt : i < ns.length
  · refine .inr ⟨⟨_, .int ns[i], SqL.of ha2, map_int_get (List.getElem?_eq_getElem hlt)⟩, hlt, ?_⟩
    rintro v H3 ⟨rfl, hv⟩
    have ev : v = .int ns[i] := by
      have := hv _ (SqL.of ha2)
      rw [map_int_get (List.getElem?_eq_getElem hlt)] at this
      exact (Option.some.inj this).symm
    subst ev
    refine he _ _ _ fun p hpn => ?_
    have npa : p ≠ acc := (ne_of_none hacc hpn).symm
    have hacc3 : (upd H3 p (.tup [.int ns[i], w])) acc = some (.lst ys) := by rw [upd_ne npa.symm]; exact hacc
    have lys : ys.length = i := by rw [← hp.1, List.length_take]; omega
    refine ⟨hacc3, Nat.lt_of_le_of_lt (by omega : ys.length ≤ 1000) (by decide), hlt, (sm.trans (same_new hpn _)).upd_new h0, upd_same, ?_⟩
    rw [List.take_add_one, List.getElem?_eq_getElem hlt]
    refine All2.snoc (hp.mono fun z x hx => ?_) ⟨p, rfl, by rw [upd_ne npa, upd_same]; rfl⟩
    obtain ⟨b, e1, e2⟩ := hx
    exact ⟨b, e1, by rw [upd_ne (ne_of e2 hacc (fun z => nomatch z)), upd_ne (ne_of_none e2 hpn)]; exact e2⟩
  · have e : i = ns.length := by omega
    subst e
    rw [List.take_length] at hp
    exact .inl ⟨⟨_, SqL.of ha2, by rw [List.length_map]; exact Nat.le_refl _⟩, q ys H2 sm hacc hp⟩
/-! ### own words: what dict(..) of the pairs holds -/
theorem putAll_has (w : V) : ∀ (ns : List Int) (m : List (Key × V)) (z : Int), (valV (putAll m (ns.map fun n => ((Sum.inl n : Key), w))) (Sum.inl z)).isSome = (decide (z ∈ ns) || (valV m (Sum.inl z)).isSome)
  | [], m, z => by
    show (valV m (Sum.inl z)).isSome = _
    simp
  | n :: r, m, z => by
    have ih := putAll_has w r (putK m (Sum.inl n) w) z
    show (valV (putAll (putK m (Sum.inl n) w) (r.map fun n => ((Sum.inl n : Key), w))) (Sum.inl z)).isSome = _
    rw [ih, valV_put]
    by_cases h : z = n
    · subst h
      simp
    · have h' : ¬ ((Sum.inl z : Key) = Sum.inl n) := fun e => h (Sum.inl.inj e)
      simp [h, h']
end L2

set_option Elab.async false
set_option linter.all false
set_option maxRecDepth 100000
namespace L2
open PySem PySem.Spec PyProof.Rows

/-! ### own words: a list comprehension with one clause and one test -/
theorem compLoop_goT {prog : Program} {w : World} {A : Around} {R : Result → Shared → Prop} {s : Shared} {elt target iter c : Expr} {scope : Scope} {pos : Pos} {it acc : Value} {env : Env} (I : Nat → Shared → Prop)
    (turn : ∀ n s, I n s → wpAny (model prog w) A (pyNext it) (fun r s₁ => match r with
      | none => R (.ok .next) s₁
      | some v => wpAny (model prog w) A (letOwnedTupleGo target it v) (fun _ s₂ => wpAny (model prog w) A (assign target env v) (fun _ s₃ => wpAny (model prog w) A (isTrue c env (eval c env)) (fun ok s₄ =>
          if ok = true then wpAny (model prog w) A (eval elt env) (fun x s₅ =>
            wpAny (model prog w) A (call (.builtin "list.append") [acc, x]) (fun _ s₆ => ∃ m, m < n ∧ I m s₆) (fun _ _ => False) s₅) (fun _ _ => False) s₄
          else ∃ m, m < n ∧ I m s₄) (fun _ _ => False) s₃) (fun _ _ => False) s₂) (fun _ _ => False) s₁) (fun _ _ => False) s)
    (n : Nat) (h : I n s) : codeAny (model prog w) A (.compLoop (.ListComp elt [⟨target, iter, [c], 0⟩] scope pos) 0 it acc env) R s := by
  refine codeAny_loop rfl I (fun n s hI => ?_) n h
  show wpAny _ A ((compTurn (.ListComp elt [⟨target, iter, [c], 0⟩] scope pos) 0 it acc env).onRaise (fun x => do noteFrame x env; theTreesLotGoes x)) _ _ s
  refine wpAny_noted ?_
  rw [compTurn_list]
  refine wpAny_bind (wpAny_standAt (wpAny_bind (wpAny_mono (turn n s hI) (fun r s₁ h₁ => ?_) fun _ _ z => False.elim z)))
  cases r with
  | none => exact wpAny_pure h₁
  | some v =>
    refine wpAny_bind (wpAny_mono h₁ (fun _ s₂ h₂ => ?_) fun _ _ z => False.elim z)
    refine wpAny_bind (wpAny_mono h₂ (fun _ s₃ h₃ => wpAny_bind (wpAny_mono (wpAny_tests_one h₃) (fun ok s₄ h₄ => ?_) fun _ _ z => False.elim z)) fun _ _ z => False.elim z)
    cases ok with
    | false => exact wpAny_pure ⟨rfl, h₄⟩
    | true => exact wpAny_bind (wpAny_bind (wpAny_mono h₄ (fun x s₅ h₅ => wpAny_bind (wpAny_mono h₅ (fun _ s₆ h₆ => wpAny_pure (wpAny_pure ⟨rfl, h₆⟩)) fun _ _ z => False.elim z)) fun _ _ z => False.elim z))
def CompWT (J : It) (tt : TT) (te : TE) (σ' : St) (Q : VK) (H : Hp) (acc : Addr) : Prop :=
  ∃ (n : Nat) (W : Nat → List V → Hp → Prop), W 0 [] (upd H acc (.lst [])) ∧ ∀ i ys H2, W i ys H2 → (J.stop i H2 ∧ Q (.ref acc) H2) ∨
    (J.go i H2 ∧ i < n ∧ ∀ v H3, J.yld i H2 v H3 → tt (some v :: σ') H3 fun b H3' => if b = true then te (some v :: σ') H3' fun y H4 => H4 acc = some (.lst ys) ∧ ys.length < sizeLine ∧ W (i + 1) (ys ++ [y]) (upd H4 acc (.lst (ys ++ [y]))) else W (i + 1) ys H3')
theorem comp_coreT {X : Cx} {pins : List (Addr × Obj)} {σ : St} {H : Hp} {s : Shared} {x : Str} {px : Pos} {elt iter c : Expr} {scope : Scope} {pos : Pos} {cl : List (Str × Addr)} {N' : List Str} {fr : List Nat} {te : TE} {tt : TT} {J : It} {fp : List Addr} {it : Addr}
    {tn : Nat → Heap → Prop} {E : Value → Shared → Prop} {RR : Value → Addr → Result → Shared → Prop} {Q : VK} (B : BlkOk X x fr N' scope cl) (hc : X.calm = true) (I : Inv X pins σ H s) (T : Turn X.prog X.w X.K (.Name x px) J fp it tn)
    (st : tn 0 s.heap) (hf : ∀ b ∈ fp, FpOk X pins H b) (hq : ∀ C s' H', PT (blk X N' scope cl C s' H' fp) c tt) (he : ∀ C s' H', PE (blk X N' scope cl C s' H' fp) elt te) (h : ∀ acc, H acc = none → CompWT J tt te (pick σ fr) Q H acc)
    (hRR : ∀ acc C H' s' m, Inv X pins σ H' s' → Q (.ref acc) H' → s'.heap.Ns C m → H' C = none → C ≠ X.env.locals → (C ∈ X.ex ∨ X.s₀.heap.objs.size ≤ C) → (∀ y c, X.env.cells.lookup y = some c → c ≠ C) → (∀ p ∈ X.pn ++ pins, p.1 ≠ C) → RR (.ref acc) C (.ok .next) s') :
    wpAny (model X.prog X.w) X.A (newList []) (fun acc s₃ => wpAny (model X.prog X.w) X.A (newFunctionEnv scope X.env.globals cl [] X.env.qual none .none (some X.env)) (fun cenv s₄ =>
      codeAny (model X.prog X.w) X.A (.compStart (.ListComp elt [⟨.Name x px, iter, [c], 0⟩] scope pos) 0 (.ref it) acc { cenv with scope := relabel scope X.env }) (RR acc cenv.locals) s₄) E s₃) E s := by
  refine wpAny_newObj_type (wpAny_newFunctionEnv B.cell (by intro y hy; simp at hy) (fun h₁ hns₁ hsb₁ => ?_) B.kind)
  have I3 : Inv X pins σ (upd H s.heap.objs.size (.lst [])) { s with heap := s.heap.push { cls := .type "list", data := .seq ([] : List Value).toArray } } := I.lnew (its := []) (t' := s.toks) .nil (Nat.zero_le _)
  obtain ⟨n, W, w0, turn⟩ := h s.heap.objs.size I.fresh
  dsimp only at hns₁ hsb₁ ⊢
  generalize hs3 : ({ s with heap := s.heap.push { cls := .type "list", data := .seq ([] : List Value).toArray } } : Shared) = s3 at *
  have hh3 : s.heap.push { cls := .type "list", data := .seq ([] : List Value).toArray } = s3.heap := by rw [← hs3]
  have hh3' : s.heap.push { cls := .type "list", dict := none, data := .seq ([] : List Value).toArray } = s3.heap := hh3
  rw [hh3'] at hns₁ hsb₁ ⊢
  have lt3 : ∀ b o, s3.heap.get? b = some o → b ≠ s3.heap.objs.size := fun b o e => Nat.ne_of_lt (Heap.lt_size e)
  have keep1 : ∀ b o, s3.heap.get? b = some o → h₁.get? b = some o := fun b o e => hsb₁.extBut b o (lt3 b o e) (Heap.get?_push_of_some _ e)
  have keep0 : ∀ b o, s.heap.get? b = some o → s3.heap.get? b = some o := fun b o e => by rw [← hh3]; exact Heap.get?_push_of_some _ e
  have st3 : tn 0 h₁ := T.keep 0 _ _ st fun b _ o e => keep1 b o (keep0 b o e)
  have obj3 : ∀ b ∈ fp, ∃ o, s3.heap.get? b = some o := fun b hb => by
    obtain ⟨o, e, _⟩ := T.obj 0 _ st b hb
    exact ⟨o, keep0 b o e⟩
  have nstk : ∀ b, b ≠ X.env.locals → b ∉ X.fs → b ∉ frs X.stack := fun b h1 h2 hb => by
    rcases List.mem_cons.mp (I3.stkSub b hb) with z | z
    · exact h1 z
    · exact h2 z
  have ok : (blk X N' scope cl s3.heap.objs.size s3 (upd H s.heap.objs.size (.lst [])) fp).Ok := by
    refine ⟨I.ok.mod, ?_, I.ok.glob, I.ok.blt, Nat.le_refl _, fun y z c h1 h2 => I.ok.inj y z c (B.sub y c h1) (B.sub z c h2), fun y hy => B.has y hy, fun y c e _ => absurd (show false = true from e) Bool.false_ne_true, I.ok.hd, I.ok.frames, .inl rfl, fun b hb => ?_, I3.bs,
      Nat.le_trans I.ok.bsz I3.sz, fun b o e hb => ?_, fun b hb => nstk b (hf b hb).2.1 (hf b hb).2.2.1, I3.stack, I3.stkFree⟩
    · exact B.kind
    · obtain ⟨o, e⟩ := obj3 b hb
      exact ⟨lt3 b o e, fun y c e => (hf b hb).2.2.2.2.1 y c (B.sub y c e)⟩
    · rcases (hf b hb).2.2.2.1 with z | z
      · exact I.ok.noex b o e z
      · exact absurd (Nat.lt_of_lt_of_le (Heap.lt_size (I.ok.bs b o e).1) z) (Nat.lt_irrefl _)
  have cellK : ∀ c v, s3.heap.IsCell c v → h₁.IsCell c v := fun c v ⟨o, ho, hd⟩ => ⟨o, keep1 c o ho, hd⟩
  have stat : ∀ {H' : Hp}, (∀ b ∈ fp, H' b = none) → ∀ b ∈ fp, FpOk (blk X N' scope cl s3.heap.objs.size s3 (upd H s.heap.objs.size (.lst [])) fp) pins H' b := fun hn b hb =>
    ⟨hn b hb, (ok.exf b hb).1, nstk b (hf b hb).2.1 (hf b hb).2.2.1, .inl hb, fun y c e => (hf b hb).2.2.2.2.1 y c (B.sub y c e), (hf b hb).2.2.2.2.2⟩
  have I4 : Inv (blk X N' scope cl s3.heap.objs.size s3 (upd H s.heap.objs.size (.lst [])) fp) pins (none :: pick σ fr) (upd H s.heap.objs.size (.lst [])) { s3 with heap := h₁ } := by
    refine ⟨ok, rfl, I3.bare, Un.kept keep1, ⟨_, hns₁, fun i y v h1 h2 h3 => ?_⟩, fun y c e => ?_, I3.fresh, fun y c e => I3.freeC y c (B.sub y c e), fun p hp => ?_, I3.hok.kept keep1, ?_⟩
    · cases i with
      | zero => cases (show some none = some (some v) from h2)
      | succ i =>
        have h2 : (pick σ fr)[i]? = some (some v) := h2
        unfold pick at h2
        rw [List.getElem?_map] at h2
        cases ej : fr[i]? with
        | none => rw [ej] at h2; cases h2
        | some j =>
          rw [ej] at h2
          have h2' : (σ[j]?).getD none = some v := Option.some.inj h2
          have hσ : σ[j]? = some (some v) := by
            cases q : σ[j]? with
            | none => rw [q] at h2'; cases h2'
            | some o =>
              rw [q] at h2'
              have : o = some v := h2'
              rw [this]
          obtain ⟨b1, b2, b3⟩ := B.see i j y h1 ej
          obtain ⟨m3, _, hl3⟩ := I3.loc
          obtain ⟨u, ru, lk⟩ := hl3 j y v b1 hσ (.inr (.inl b2))
          refine ⟨u, ru, .inr ⟨.inl b3, ?_⟩⟩
          rcases lk with ⟨k, _⟩ | ⟨_, c, e, z⟩
          · have k' : X.env.scope.names.lookup y = some .local := k
            rw [b2] at k'
            cases k'
          · obtain ⟨c', e'⟩ := B.has y (.inl b3)
            have := B.sub y c' e'
            rw [e] at this
            cases this
            exact ⟨_, e', cellK _ _ z⟩
    · obtain ⟨v, z⟩ := I3.cell y c (B.sub y c e)
      exact ⟨v, cellK c v z⟩
    · obtain ⟨e, n0, ne, nf, d⟩ := I3.pin p hp
      exact ⟨keep1 _ _ e, n0, lt3 _ _ e, nstk _ ne nf, d⟩
    · show (none :: pick σ fr).length = N'.length
      rw [B.len, List.length_cons]
      unfold pick
      rw [List.length_map]
  have fin : ∀ {H' : Hp} {σ' : St} {s' : Shared}, Inv (blk X N' scope cl s3.heap.objs.size s3 (upd H s.heap.objs.size (.lst [])) fp) pins σ' H' s' → Q (.ref s.heap.objs.size) H' → RR (.ref s.heap.objs.size) s3.heap.objs.size (.ok .next) s' := fun {H' σ' s'} J q => by
    obtain ⟨m, hn, _⟩ := J.loc
    refine hRR _ _ H' s' m (I3.call' (ch := fp) J.os J.base J.hok J.bare fun b hb => ⟨(hf b hb).2.2.2.1, (hf b hb).2.1, (hf b hb).2.2.2.2.1, (hf b hb).2.2.2.2.2⟩) q hn J.free (Nat.ne_of_gt I3.lt) (.inr I3.sz) (fun y c e => ?_) fun p hp => ?_
    · obtain ⟨v, o, ho, _⟩ := I3.cell y c e
      exact lt3 c o ho
    · exact lt3 _ _ (I3.pin p hp).1
  have loop : ∀ s₃ : Shared, s₃ = { s3 with heap := h₁ } → codeAny (model X.prog X.w) X.A (.compLoop (.ListComp elt [⟨.Name x px, iter, [c], 0⟩] scope pos) 0 (.ref it) (.ref s.heap.objs.size) (compEnvC scope cl s3.heap.objs.size X.env)) (RR (.ref s.heap.objs.size) s3.heap.objs.size) s₃ := by
    rintro s₃ rfl
    refine compLoop_goT (fun m s' => ∃ i ys xo H', Inv (blk X N' scope cl s3.heap.objs.size s3 (upd H s.heap.objs.size (.lst [])) fp) pins (xo :: pick σ fr) H' s' ∧ tn i s'.heap ∧ (∀ b ∈ fp, H' b = none) ∧ W i ys H' ∧ m = n - i) ?_ n ⟨0, [], none, _, I4, st3, fun b hb => ?_, w0, rfl⟩
    · rintro m s' ⟨i, ys, xo, H', I', st', fr', w', rfl⟩
      rcases turn i ys H' w' with ⟨stop, q⟩ | ⟨go, hin, step⟩
      · refine thn (T.done (blk X N' scope cl s3.heap.objs.size s3 (upd H s.heap.objs.size (.lst [])) fp) rfl rfl rfl hc i pins s' _ H' (fun _ _ => False) I' (stat fr') st' stop) fun r s1 ⟨hr, I1⟩ => ?_
        subst hr
        exact fin I1 q
      · refine thn (T.item (blk X N' scope cl s3.heap.objs.size s3 (upd H s.heap.objs.size (.lst [])) fp) rfl rfl rfl hc i pins s' _ H' (fun _ _ => False) I' (stat fr') st' go) fun r s1 ⟨u, hr, h4⟩ => ?_
        subst hr
        refine thn h4 fun _ s5 ⟨v, H5, I5, r5, y5, st5, fr5⟩ => ?_
        have I5' := I5.pinned (stat fr5) (T.obj _ _ st5)
        have kx : (relabel scope X.env).names.lookup x = some .local := lookup_relabel_local B.loc
        refine thn (pg_name (X := blk X N' scope cl s3.heap.objs.size s3 (upd H s.heap.objs.size (.lst [])) fp) (i := 0) (x := x) B.nd B.hx (.inl kx) (.inr kx) _ s5 _ H5 v u
          (fun σ' H6 => σ' = some v :: pick σ fr ∧ H6 = H5) I5' r5 ⟨rfl, rfl⟩) fun _ s6 ⟨σ6, H6, I6, e1, e2⟩ => ?_
        subst e1 e2
        have again : ∀ {H8 : Hp} {zs : List V} {s8 : Shared}, Inv (blk X N' scope cl s3.heap.objs.size s3 (upd H s.heap.objs.size (.lst [])) fp) (pins ++ pinsAt fp s5.heap) (some v :: pick σ fr) H8 s8 → W (i + 1) zs H8 →
            ∃ m, m < n - i ∧ ∃ i ys xo H', Inv (blk X N' scope cl s3.heap.objs.size s3 (upd H s.heap.objs.size (.lst [])) fp) pins (xo :: pick σ fr) H' s8 ∧ tn i s8.heap ∧ (∀ b ∈ fp, H' b = none) ∧ W i ys H' ∧ m = n - i := fun {H8 zs s8} I8 w8 => by
          refine ⟨n - (i + 1), by omega, i + 1, zs, some v, _, I8.unpinned, T.keep _ _ _ st5 fun b hb o e => (I8.pin (b, o) (List.mem_append_right _ (List.mem_append_right _ (mem_pinsAt hb e)))).1, fun b hb => ?_, w8, rfl⟩
          obtain ⟨o, e, d⟩ := T.obj _ _ st5 b hb
          exact (I8.pin (b, o) (List.mem_append_right _ (List.mem_append_right _ (mem_pinsAt hb e)))).2.1
        refine thn (hq _ _ _ _ s6 _ _ _ I6 (step v _ y5)) fun ok s6' ⟨H6', I6', q6'⟩ => ?_
        cases ok with
        | false => exact again I6' q6'
        | true =>
          refine thn (he _ _ _ _ s6' _ _ _ I6' q6') fun y s7 ⟨vy, H7, I7, ry, hacc, hlen, w7⟩ => ?_
          refine thn (mt_append _ s7 _ H7 (.ref s.heap.objs.size) [vy] (.ref s.heap.objs.size) [y] (fun _ H8 => H8 = upd H7 s.heap.objs.size (.lst (ys ++ [vy]))) I7 rfl (.cons ry .nil) ⟨_, ys, vy, rfl, rfl, hacc, hlen, rfl⟩) fun _ s8 ⟨_, H8, I8, _, e8⟩ => ?_
          subst e8
          exact again I8 w7
    · obtain ⟨o, e, _⟩ := T.obj 0 _ st b hb
      rw [upd_ne (Nat.ne_of_lt (Heap.lt_size e))]
      exact (hf b hb).1
  have e4 : ({ s with heap := h₁, toks := s.toks + ([] : List (Str × Value)).length } : Shared) = { s3 with heap := h₁ } := by rw [← hs3]; rfl
  rw [e4]
  exact codeAny_compStart_list (loop _ rfl) (T.self _ 0 _ _ _ st3 (loop _ rfl))

section
variable {X : Cx} {x y : Str} {px py pos spos : Pos} {elt iter c : Expr} {scope : Scope} {cl : List (Str × Addr)} {N' : List Str} {fr : List Nat} {wi : TI} {te : TE} {tt : TT}
/-- [elt for x in iter] as a value -/
def tCompT (wi : TI) (fr : List Nat) (tt : TT) (te : TE) : TE := fun σ H Q => wi σ H fun J H1 => ∀ acc, H1 acc = none → CompWT J tt te (pick σ fr) Q H1 acc
theorem pe_compT (fr : List Nat) (N' : List Str) (B : BlkOk X x fr N' scope cl) (hc : X.calm = true) (hi : PI X (.Name x px) iter wi) (hq : ∀ C s' H' fp, PT (blk X N' scope cl C s' H' fp) c tt) (he : ∀ C s' H' fp, PE (blk X N' scope cl C s' H' fp) elt te) (hs : ∀ x, foldedSetIterable iter X.env x = pure x := by intro _; rfl) :
    PE X (.ListComp elt [⟨.Name x px, iter, [c], 0⟩] scope pos) (tCompT wi fr tt te) := by
  intro pins s σ H Q I h
  rw [eval_ListComp]
  refine wpAny_comprehension_free (use := none) rfl hs B.clos B.kind B.names (thn (hi pins s σ H _ I h) fun v s1 h1 => thn h1 fun itv s2 h2 => ?_)
  obtain ⟨it, fp, tn, J, H2, e, I2, T, st2, f2, q2⟩ := h2
  subst e
  refine comp_coreT (RR := fun acc C => compPost (model X.prog X.w) X.A X.xe none (EP X pins σ Q) acc C) B hc I2 T st2 f2 (fun C s' H' => hq C s' H' fp) (fun C s' H' => he C s' H' fp) q2 ?_
  intro acc C H' s' m I' q hn h0 h1 h3 h4 h5
  refine ⟨m, hn, fun h' sb => ⟨.ref acc, H', I'.turned (t' := s'.toks) (fun b o hb e => (sb.2 b hb).trans e) h0 h1 h3 h4 h5, rfl, q⟩⟩
/-- y = [elt for x in iter] in one row -/
def sCompT (i : Nat) (wi : TI) (fr : List Nat) (tt : TT) (te : TE) : TS := fun D σ H => tCompT wi fr tt te σ H fun v H1 => D.nx (σ.set i (some v)) H1
theorem ps_compT {i : Nat} (fr : List Nat) (N' : List Str) (hN : X.N.Nodup) (hi' : X.N[i]? = some y) (hy : X.env.kindOf y = some .local) (B : BlkOk X x fr N' scope cl) (hc : X.calm = true) (hi : PI X (.Name x px) iter wi)
    (hq : ∀ C s' H' fp, PT (blk X N' scope cl C s' H' fp) c tt) (he : ∀ C s' H' fp, PE (blk X N' scope cl C s' H' fp) elt te) (hsw : swapsWith (.ListComp elt [⟨.Name x px, iter, [c], 0⟩] scope pos) (some (.Name y py)) spos.line X.env = pure true := by rfl) (hs : ∀ x, foldedSetIterable iter X.env x = pure x := by intro _; rfl) :
    PS X (.Assign [.Name y py] (.ListComp elt [⟨.Name x px, iter, [c], 0⟩] scope pos) spos) (sCompT i wi fr tt te) := by
  intro pins s σ H D I h
  rw [exec_Assign_Name_used _ _ _ _ hsw]
  refine wpAny_bind (wpAny_standAt (wpAny_bind ?_))
  show wpAny _ X.A (do let _ ← comprehension (.ListComp elt [⟨.Name x px, iter, [c], 0⟩] scope pos) scope X.env _ (newList []) false (eval iter X.env) (some (assign (.Name y py) X.env))) _ _ s
  refine wpAny_bind (wpAny_mono (wpAny_comprehension_free (use := some (assign (.Name y py) X.env)) (Q := fun _ s' => SP X pins D .next s') rfl hs B.clos B.kind B.names (thn (hi pins s σ H _ I h) fun v s1 h1 => thn h1 fun itv s2 h2 => ?_))
    (fun _ s' hq => wpAny_pure (wpAny_pure hq)) fun _ _ e => e)
  obtain ⟨it, fp, tn, J, H2, e, I2, T, st2, f2, q2⟩ := h2
  subst e
  refine comp_coreT (RR := fun acc C => compPost (model X.prog X.w) X.A X.xe (some (assign (.Name y py) X.env)) (fun _ s' => SP X pins D .next s') acc C) B hc I2 T st2 f2 (fun C s' H' => hq C s' H' fp) (fun C s' H' => he C s' H' fp) q2 ?_
  intro acc C H' s' m I' q hn h0 h1 h3 h4 h5
  show wpAny _ X.A (assign (.Name y py) X.env (.ref acc)) _ _ _
  refine wpAny_assign_Name (store_ok2 (v := .ref acc) I' hN hi' (.inl hy) rfl (fun s'' I'' hsb => ?_) (.inr hy))
  obtain ⟨a, sb, ha⟩ := hsb
  have hCa : C ≠ a := by
    rcases ha with z | z
    · rw [z]; exact h1
    · exact Ne.symm (h4 _ _ z)
  refine ⟨m, hn.sameBut sb hCa, fun h' sb' => ⟨_, H', I''.turned (t' := s''.toks) (fun b o hb e => (sb'.2 b hb).trans e) h0 h1 h3 h4 h5, q⟩⟩
end

end L2

set_option Elab.async false
set_option linter.all false
set_option maxRecDepth 100000
namespace L2
open PySem

/-! ### own words: the lines of a log -/
inductive LN where
  | put (d : Int) (p : Nat) (o n : Int)
  | fin (d : Int)
  deriving DecidableEq
/-- has the dealing an end line -/
def endedB (log : List LN) (d : Int) : Bool := log.any fun ln => match ln with
  | .fin e => e == d
  | .put .. => false
/-- the old of the first put of the page by a dealing that has no end in full -/
def firstLost (full : List LN) : List LN → Nat → Option Int
  | [], _ => none
  | .put d p o _ :: r, q => if p = q ∧ endedB full d = false then some o else firstLost full r q
  | .fin _ :: r, q => firstLost full r q
/-- the new of the last put of the page -/
def lastNew : List LN → Nat → Option Int → Option Int
  | [], _, a => a
  | .put _ p _ n :: r, q, a => lastNew r q (if p = q then some n else a)
  | .fin _ :: r, q, a => lastNew r q a
/-- what is wanted of a page -/
def wantP (log : List LN) (q : Nat) (v : Int) : Int := (firstLost log log q).getD ((lastNew log q none).getD v)
theorem endedB_snoc (log : List LN) (ln : LN) (d : Int) : endedB (log ++ [ln]) d = (endedB log d || match ln with | .fin e => e == d | .put .. => false) := by
  unfold endedB
  rw [List.any_append, List.any_cons, List.any_nil, Bool.or_false]
theorem lastNew_append (a b : List LN) (q : Nat) (x : Option Int) : lastNew (a ++ b) q x = lastNew b q (lastNew a q x) := by
  induction a generalizing x with
  | nil => rfl
  | cons ln r ih => cases ln <;> exact ih _
theorem lastNew_acc (l : List LN) (q : Nat) (x : Option Int) : lastNew l q x = (lastNew l q none).or x := by
  induction l generalizing x with
  | nil => cases x <;> rfl
  | cons ln r ih =>
    cases ln with
    | fin d => exact ih x
    | put d p o n =>
      show lastNew r q (if p = q then some n else x) = (lastNew r q (if p = q then some n else none)).or x
      by_cases h : p = q
      · rw [if_pos h, if_pos h, ih (some n)]
        cases lastNew r q none <;> rfl
      · rw [if_neg h, if_neg h]
        exact ih x
theorem firstLost_append (full a b : List LN) (q : Nat) : firstLost full (a ++ b) q = (firstLost full a q).or (firstLost full b q) := by
  induction a with
  | nil => rfl
  | cons ln r ih =>
    cases ln with
    | fin d => exact ih
    | put d p o n =>
      show (if p = q ∧ endedB full d = false then some o else firstLost full (r ++ b) q) = (if p = q ∧ endedB full d = false then some o else firstLost full r q).or _
      by_cases h : p = q ∧ endedB full d = false
      · rw [if_pos h, if_pos h]; rfl
      · rw [if_neg h, if_neg h]; exact ih
theorem firstLost_congr {full full' : List LN} {q : Nat} : ∀ {l : List LN}, (∀ d o n, LN.put d q o n ∈ l → endedB full d = endedB full' d) → firstLost full l q = firstLost full' l q
  | [], _ => rfl
  | .fin d :: r, h => firstLost_congr (l := r) fun d o n hm => h d o n (List.mem_cons_of_mem _ hm)
  | .put d p o n :: r, h => by
    have ih := firstLost_congr (l := r) fun d o n hm => h d o n (List.mem_cons_of_mem _ hm)
    show (if p = q ∧ endedB full d = false then some o else firstLost full r q) = (if p = q ∧ endedB full' d = false then some o else firstLost full' r q)
    by_cases e : p = q
    · subst e
      rw [h d o n List.mem_cons_self, ih]
    · rw [if_neg fun z => e z.1, if_neg fun z => e z.1]
      exact ih
theorem firstLost_none {full : List LN} {q : Nat} : ∀ {l : List LN}, (∀ d o n, LN.put d q o n ∈ l → endedB full d = true) → firstLost full l q = none
  | [], _ => rfl
  | .fin d :: r, h => firstLost_none (l := r) fun d o n hm => h d o n (List.mem_cons_of_mem _ hm)
  | .put d p o n :: r, h => by
    show (if p = q ∧ endedB full d = false then some o else firstLost full r q) = none
    rw [if_neg]
    · exact firstLost_none (l := r) fun d o n hm => h d o n (List.mem_cons_of_mem _ hm)
    · rintro ⟨rfl, z⟩
      rw [h d o n List.mem_cons_self] at z
      cases z
/-- a page in the drawing of a log: its taker, what the desk has, what is kept -/
structure PgI (log : List LN) (ss : List Int) (q : Nat) (t dv kv : Int) : Prop where
  tb : t = -1 ∨ (0 ≤ t ∧ t ≤ 2)
  l1 : ∀ x, lastNew log q none = some x → x = dv
  l2 : lastNew log q none = none → dv = kv
  fr : t = -1 → dv = kv ∧ ∀ d o n, LN.put d q o n ∈ log → endedB log d = true
  tk : 0 ≤ t → ∃ d, ss[t.toNat]? = some d ∧ firstLost log log q = some kv ∧ ∀ d' o n, LN.put d' q o n ∈ log → endedB log d' = false → d' = d
theorem PgI.want {log : List LN} {ss : List Int} {q : Nat} {t dv kv v : Int} (h : PgI log ss q t dv kv) (hv : lastNew log q none = none → v = kv) : wantP log q v = kv := by
  unfold wantP
  rcases h.tb with z | z
  · obtain ⟨e, hp⟩ := h.fr z
    rw [firstLost_none hp]
    cases e2 : lastNew log q none with
    | none => exact hv e2
    | some x => exact (h.l1 x e2).trans e
  · obtain ⟨d, _, e, _⟩ := h.tk z.1
    rw [e]
    rfl
structure NumI (m : Int) (log : List LN) (ss : List Int) : Prop where
  len : ss.length = 3
  lt : ∀ (s : Nat) (d : Int), ss[s]? = some d → d < m ∧ endedB log d = false
  inj : ∀ (s s' : Nat) (d : Int), ss[s]? = some d → ss[s']? = some d → s = s'
  fi : ∀ d, LN.fin d ∈ log → d < m
  pu : ∀ d p o n, LN.put d p o n ∈ log → d < m
theorem endedB_mem {log : List LN} {d : Int} : endedB log d = true ↔ LN.fin d ∈ log := by
  unfold endedB
  rw [List.any_eq_true]
  constructor
  · rintro ⟨ln, h1, h2⟩
    cases ln with
    | fin e => rw [← eq_of_beq h2]; exact h1
    | put d p o n => cases h2
  · intro h
    exact ⟨_, h, beq_self_eq_true d⟩
theorem NumI.fresh {m : Int} {log : List LN} {ss : List Int} (h : NumI m log ss) {x : Int} (hx : m ≤ x) : endedB log x = false := by
  cases e : endedB log x with
  | false => rfl
  | true => exact absurd (h.fi x (endedB_mem.mp e)) (by omega)
theorem NumI.put {m : Int} {log : List LN} {ss : List Int} (h : NumI m log ss) {d o n m' : Int} {p : Nat} (hd : d < m) (hm : m ≤ m') : NumI m' (log ++ [.put d p o n]) ss := by
  have ee : ∀ x, endedB (log ++ [.put d p o n]) x = endedB log x := fun x => by rw [endedB_snoc, Bool.or_false]
  refine ⟨h.len, fun s x e => ?_, h.inj, fun x hx => ?_, fun x p' o' n' hx => ?_⟩
  · have := h.lt s x e
    exact ⟨by omega, by rw [ee]; exact this.2⟩
  · rcases List.mem_append.mp hx with z | z
    · have := h.fi x z; omega
    · cases List.mem_singleton.mp z
  · rcases List.mem_append.mp hx with z | z
    · have := h.pu x p' o' n' z; omega
    · cases List.mem_singleton.mp z; omega
theorem NumI.fin {m : Int} {log : List LN} {ss : List Int} (h : NumI m log ss) {d x : Int} {s : Nat} (hs : ss[s]? = some d) (hx : m ≤ x) : NumI (x + 1) (log ++ [.fin d]) (ss.set s x) := by
  have hd := h.lt s d hs
  have hsl : s < ss.length := (List.getElem?_eq_some_iff.mp hs).1
  have ee : ∀ y, endedB (log ++ [.fin d]) y = (endedB log y || (d == y)) := fun y => endedB_snoc _ _ _
  have get : ∀ (s' : Nat) (y : Int), (ss.set s x)[s']? = some y → (s' = s ∧ y = x) ∨ (s' ≠ s ∧ ss[s']? = some y) := fun s' y e => by
    by_cases z : s' = s
    · subst z
      rw [List.getElem?_set_self hsl] at e
      exact .inl ⟨rfl, (Option.some.inj e).symm⟩
    · rw [List.getElem?_set_ne (Ne.symm z)] at e
      exact .inr ⟨z, e⟩
  refine ⟨by rw [List.length_set]; exact h.len, fun s' y e => ?_, fun s1 s2 y e1 e2 => ?_, fun y hy => ?_, fun y p' o' n' hy => ?_⟩
  · rcases get s' y e with ⟨_, rfl⟩ | ⟨z, e'⟩
    · refine ⟨by omega, ?_⟩
      rw [ee, h.fresh hx, Bool.false_or]
      exact beq_eq_false_iff_ne.mpr (by omega)
    · have := h.lt s' y e'
      refine ⟨by omega, ?_⟩
      rw [ee, this.2, Bool.false_or]
      refine beq_eq_false_iff_ne.mpr fun q => z ?_
      subst q
      exact h.inj s' s d e' hs
  · rcases get s1 y e1 with ⟨a1, b1⟩ | ⟨a1, b1⟩ <;> rcases get s2 y e2 with ⟨a2, b2⟩ | ⟨a2, b2⟩
    · rw [a1, a2]
    · have := (h.lt s2 y b2).1; omega
    · have := (h.lt s1 y b1).1; omega
    · exact h.inj s1 s2 y b1 b2
  · rcases List.mem_append.mp hy with z | z
    · have := h.fi y z; omega
    · cases List.mem_singleton.mp z; omega
  · rcases List.mem_append.mp hy with z | z
    · have := h.pu y p' o' n' z; omega
    · cases List.mem_singleton.mp z
/-- a put on the page p -/
theorem PgI.put {m : Int} {log : List LN} {ss : List Int} {q p s : Nat} {t dv kv d o num : Int} (N : NumI m log ss) (h : PgI log ss q t dv kv) (hs : ss[s]? = some d) (hs3 : s ≤ 2) (ho : q = p → o = dv) (ht : q = p → 0 ≤ t → t = (s : Int)) :
    PgI (log ++ [.put d p o num]) ss q (if q = p then (s : Int) else t) (if q = p then num else dv) kv := by
  have ee : ∀ x, endedB (log ++ [.put d p o num]) x = endedB log x := fun x => by rw [endedB_snoc, Bool.or_false]
  have fl : ∀ l, firstLost (log ++ [.put d p o num]) l q = firstLost log l q := fun l => firstLost_congr fun x _ _ _ => ee x
  by_cases e : q = p
  · subst e
    rw [if_pos rfl, if_pos rfl]
    have ln : lastNew (log ++ [.put d q o num]) q none = some num := by
      rw [lastNew_append]
      show (if q = q then some num else _) = some num
      rw [if_pos rfl]
    have und := (N.lt s d hs).2
    refine ⟨.inr ⟨by omega, by omega⟩, fun x hx => ?_, fun hx => ?_, fun hx => by omega, fun _ => ⟨d, by rw [Int.toNat_natCast]; exact hs, ?_, fun d' o' n' hm hu => ?_⟩⟩
    · rw [ln] at hx; exact (Option.some.inj hx).symm
    · rw [ln] at hx; cases hx
    · rw [fl, firstLost_append]
      rcases h.tb with z | z
      · obtain ⟨e1, e2⟩ := h.fr z
        rw [firstLost_none e2]
        show (if q = q ∧ endedB log d = false then some o else none) = some kv
        rw [if_pos ⟨rfl, und⟩, ho rfl, e1]
      · obtain ⟨_, _, e1, _⟩ := h.tk z.1
        rw [e1]
        rfl
    · rw [ee] at hu
      rcases List.mem_append.mp hm with z | z
      · rcases h.tb with y | y
        · rw [(h.fr y).2 d' o' n' z] at hu; cases hu
        · obtain ⟨d2, e1, _, e2⟩ := h.tk y.1
          rw [ht rfl y.1, Int.toNat_natCast, hs] at e1
          cases e1
          exact e2 d' o' n' z hu
      · cases List.mem_singleton.mp z; rfl
  · rw [if_neg e, if_neg e]
    have nm : ∀ d' o' n', LN.put d' q o' n' ∈ log ++ [.put d p o num] → LN.put d' q o' n' ∈ log := fun d' o' n' hm => by
      rcases List.mem_append.mp hm with z | z
      · exact z
      · cases List.mem_singleton.mp z; exact absurd rfl e
    have e' : ¬ p = q := fun z => e z.symm
    have ln : lastNew (log ++ [.put d p o num]) q none = lastNew log q none := by
      rw [lastNew_append]
      show (if p = q then some num else _) = _
      rw [if_neg e']
    have lf : firstLost (log ++ [.put d p o num]) (log ++ [.put d p o num]) q = firstLost log log q := by
      rw [fl, firstLost_append]
      have : firstLost log [.put d p o num] q = none := by
        show (if p = q ∧ endedB log d = false then some o else none) = none
        rw [if_neg fun z => e' z.1]
      rw [this]
      cases firstLost log log q <;> rfl
    refine ⟨h.tb, fun x hx => h.l1 x (by rw [← ln]; exact hx), fun hx => h.l2 (by rw [← ln]; exact hx), fun z => ⟨(h.fr z).1, fun d' o' n' hm => ?_⟩, fun z => ?_⟩
    · rw [ee]; exact (h.fr z).2 d' o' n' (nm d' o' n' hm)
    · obtain ⟨d2, e1, e2, e3⟩ := h.tk z
      exact ⟨d2, e1, by rw [lf]; exact e2, fun d' o' n' hm hu => e3 d' o' n' (nm d' o' n' hm) (by rw [← ee]; exact hu)⟩
/-- an end of the slot s -/
theorem PgI.fin {m : Int} {log : List LN} {ss : List Int} {q s : Nat} {t dv kv d x : Int} (N : NumI m log ss) (h : PgI log ss q t dv kv) (hs : ss[s]? = some d) :
    PgI (log ++ [.fin d]) (ss.set s x) q (if t = (s : Int) then -1 else t) dv (if t = (s : Int) then dv else kv) := by
  have ee : ∀ y, endedB (log ++ [.fin d]) y = (endedB log y || (d == y)) := fun y => endedB_snoc _ _ _
  have ln : lastNew (log ++ [.fin d]) q none = lastNew log q none := by rw [lastNew_append]; rfl
  have nm : ∀ d' o' n', LN.put d' q o' n' ∈ log ++ [.fin d] → LN.put d' q o' n' ∈ log := fun d' o' n' hm => by
    rcases List.mem_append.mp hm with z | z
    · exact z
    · cases List.mem_singleton.mp z
  by_cases e : t = (s : Int)
  · rw [if_pos e, if_pos e]
    obtain ⟨d2, e1, e2, e3⟩ := h.tk (by omega)
    rw [e, Int.toNat_natCast, hs] at e1
    cases e1
    refine ⟨.inl rfl, fun y hy => h.l1 y (by rw [← ln]; exact hy), fun _ => rfl, fun _ => ⟨rfl, fun d' o' n' hm => ?_⟩, fun z => by omega⟩
    rw [ee]
    cases u : endedB log d' with
    | true => rfl
    | false =>
      rw [e3 d' o' n' (nm d' o' n' hm) u]
      exact beq_self_eq_true _
  · rw [if_neg e, if_neg e]
    refine ⟨h.tb, fun y hy => h.l1 y (by rw [← ln]; exact hy), fun hy => h.l2 (by rw [← ln]; exact hy), fun z => ⟨(h.fr z).1, fun d' o' n' hm => ?_⟩, fun z => ?_⟩
    · rw [ee, (h.fr z).2 d' o' n' (nm d' o' n' hm)]
      rfl
    · obtain ⟨d2, e1, e2, e3⟩ := h.tk z
      have hne : t.toNat ≠ s := fun w => e (by omega)
      have hd2 : ¬ d2 = d := fun w => hne (N.inj t.toNat s d (by rw [← w]; exact e1) hs)
      refine ⟨d2, by rw [List.getElem?_set_ne (Ne.symm hne)]; exact e1, ?_, fun d' o' n' hm hu => ?_⟩
      · have c : firstLost (log ++ [.fin d]) log q = firstLost log log q := firstLost_congr fun d' o' n' hm => by
          rw [ee]
          cases u : endedB log d' with
          | true => rfl
          | false =>
            rw [e3 d' o' n' hm u, Bool.false_or]
            exact beq_eq_false_iff_ne.mpr fun w => hd2 w.symm
        rw [firstLost_append, c, e2]
        rfl
      · rw [ee, Bool.or_eq_false_iff] at hu
        exact e3 d' o' n' (nm d' o' n' hm) hu.1
/-- the drawing of a log: the numbers of the slots, every page -/
structure KI (n : Nat) (m : Int) (log : List LN) (ds ks ss ts : List Int) : Prop where
  num : NumI m log ss
  pg : ∀ q, q < n → ∃ t dv kv, ts[q]? = some t ∧ ds[q]? = some dv ∧ ks[q]? = some kv ∧ PgI log ss q t dv kv
theorem KI.init {n : Nat} {ds ts : List Int} (hd : ds.length = n) (ht : ∀ q, q < n → ts[q]? = some (-1)) : KI n 3 [] ds ds [0, 1, 2] ts := by
  refine ⟨⟨rfl, fun s d e => ?_, fun s s' d e e' => ?_, fun d h => by simp at h, fun d p o n h => by simp at h⟩, fun q hq => ?_⟩
  · match s, e with
    | 0, e => cases e; exact ⟨by decide, rfl⟩
    | 1, e => cases e; exact ⟨by decide, rfl⟩
    | 2, e => cases e; exact ⟨by decide, rfl⟩
    | s + 3, e => simp at e
  · match s, s', e, e' with
    | 0, 0, _, _ => rfl
    | 1, 1, _, _ => rfl
    | 2, 2, _, _ => rfl
    | 0, 1, e, e' => cases e; cases e'
    | 0, 2, e, e' => cases e; cases e'
    | 1, 0, e, e' => cases e; cases e'
    | 1, 2, e, e' => cases e; cases e'
    | 2, 0, e, e' => cases e; cases e'
    | 2, 1, e, e' => cases e; cases e'
    | s + 3, _, e, _ => simp at e
    | _, s + 3, _, e => simp at e
  · have hq' : q < ds.length := by omega
    refine ⟨-1, ds[q], ds[q], ht q hq, List.getElem?_eq_getElem hq', List.getElem?_eq_getElem hq', ⟨.inl rfl, (fun x hx => by cases hx), fun _ => rfl, fun _ => ⟨rfl, fun d o n h => by simp at h⟩, fun h => by omega⟩⟩
theorem KI.put {n : Nat} {m : Int} {log : List LN} {ds ks ss ts : List Int} {p s : Nat} {d o num : Int} (K : KI n m log ds ks ss ts) (hp : p < n) (hs : ss[s]? = some d) (hs3 : s ≤ 2) (ho : ds[p]? = some o) (ht : ∀ t, ts[p]? = some t → 0 ≤ t → t = (s : Int)) :
    KI n (m + 1) (log ++ [.put d p o num]) (ds.set p num) ks ss (ts.set p (s : Int)) := by
  refine ⟨K.num.put (K.num.lt s d hs).1 (by omega), fun q hq => ?_⟩
  obtain ⟨t, dv, kv, e1, e2, e3, P⟩ := K.pg q hq
  have P' := P.put (p := p) (o := o) (num := num) K.num hs hs3 (fun z => by subst z; rw [ho] at e2; exact Option.some.inj e2) (fun z h => by subst z; exact ht t e1 h)
  refine ⟨_, _, kv, ?_, ?_, e3, P'⟩
  · by_cases z : q = p
    · subst z
      rw [if_pos rfl, List.getElem?_set_self (List.getElem?_eq_some_iff.mp e1).1]
    · rw [if_neg z, List.getElem?_set_ne (Ne.symm z)]; exact e1
  · by_cases z : q = p
    · subst z
      rw [if_pos rfl, List.getElem?_set_self (List.getElem?_eq_some_iff.mp e2).1]
    · rw [if_neg z, List.getElem?_set_ne (Ne.symm z)]; exact e2
/-- part of an end: the first j pages are done -/
def EndI (n j s : Nat) (ds ks ts ks' ts' : List Int) : Prop := ∀ q, q < n → ∃ t dv kv, ts[q]? = some t ∧ ds[q]? = some dv ∧ ks[q]? = some kv ∧ ts'[q]? = some (if q < j ∧ t = (s : Int) then -1 else t) ∧ ks'[q]? = some (if q < j ∧ t = (s : Int) then dv else kv)
theorem EndI.start {n s : Nat} {m : Int} {log : List LN} {ds ks ss ts : List Int} (K : KI n m log ds ks ss ts) : EndI n 0 s ds ks ts ks ts := fun q hq => by
  obtain ⟨t, dv, kv, e1, e2, e3, _⟩ := K.pg q hq
  exact ⟨t, dv, kv, e1, e2, e3, by rw [if_neg fun z => absurd z.1 (Nat.not_lt_zero _)]; exact e1, by rw [if_neg fun z => absurd z.1 (Nat.not_lt_zero _)]; exact e3⟩
theorem EndI.skip {n j s : Nat} {ds ks ts ks' ts' : List Int} {t : Int} (h : EndI n j s ds ks ts ks' ts') (e : ts'[j]? = some t) (ht : t ≠ (s : Int)) : EndI n (j + 1) s ds ks ts ks' ts' := fun q hq => by
  obtain ⟨t0, dv, kv, e1, e2, e3, e4, e5⟩ := h q hq
  refine ⟨t0, dv, kv, e1, e2, e3, ?_, ?_⟩
  all_goals
    by_cases z : q = j
    · subst z
      rw [if_neg fun w => Nat.lt_irrefl _ w.1] at e4 e5
      rw [e4] at e
      cases e
      rw [if_neg fun w => ht w.2]
      assumption
    · by_cases w : q < j ∧ t0 = (s : Int)
      · rw [if_pos ⟨by omega, w.2⟩]
        rw [if_pos w] at e4 e5
        assumption
      · rw [if_neg fun y => w ⟨by omega, y.2⟩]
        rw [if_neg w] at e4 e5
        assumption
theorem EndI.step {n j s : Nat} {ds ks ts ks' ts' : List Int} {dv : Int} (h : EndI n j s ds ks ts ks' ts') (hj : j < n) (e : ts'[j]? = some (s : Int)) (ed : ds[j]? = some dv) : EndI n (j + 1) s ds ks ts (ks'.set j dv) (ts'.set j (-1)) := fun q hq => by
  obtain ⟨t0, dv0, kv, e1, e2, e3, e4, e5⟩ := h q hq
  refine ⟨t0, dv0, kv, e1, e2, e3, ?_, ?_⟩
  · by_cases z : q = j
    · subst z
      rw [if_neg fun w => Nat.lt_irrefl _ w.1] at e4
      rw [e4] at e
      cases e
      rw [if_pos ⟨Nat.lt_succ_self _, rfl⟩, List.getElem?_set_self (List.getElem?_eq_some_iff.mp e4).1]
    · rw [List.getElem?_set_ne (Ne.symm z), e4]
      by_cases w : q < j ∧ t0 = (s : Int)
      · rw [if_pos w, if_pos ⟨by omega, w.2⟩]
      · rw [if_neg w, if_neg fun y => w ⟨by omega, y.2⟩]
  · by_cases z : q = j
    · subst z
      rw [if_neg fun w => Nat.lt_irrefl _ w.1] at e4
      rw [e4] at e
      cases e
      rw [e2] at ed
      cases ed
      rw [if_pos ⟨Nat.lt_succ_self _, rfl⟩, List.getElem?_set_self (List.getElem?_eq_some_iff.mp e5).1]
    · rw [List.getElem?_set_ne (Ne.symm z), e5]
      by_cases w : q < j ∧ t0 = (s : Int)
      · rw [if_pos w, if_pos ⟨by omega, w.2⟩]
      · rw [if_neg w, if_neg fun y => w ⟨by omega, y.2⟩]
theorem EndI.done {n s : Nat} {m : Int} {log : List LN} {ds ks ss ts ks' ts' : List Int} {d : Int} (h : EndI n n s ds ks ts ks' ts') (K : KI n m log ds ks ss ts) (hs : ss[s]? = some d) : KI n (m + 1) (log ++ [.fin d]) ds ks' (ss.set s m) ts' := by
  refine ⟨K.num.fin hs (Int.le_refl _), fun q hq => ?_⟩
  obtain ⟨t, dv, kv, e1, e2, e3, e4, e5⟩ := h q hq
  obtain ⟨t', dv', kv', f1, f2, f3, P⟩ := K.pg q hq
  rw [e1] at f1
  rw [e2] at f2
  rw [e3] at f3
  cases f1
  cases f2
  cases f3
  refine ⟨_, dv, _, ?_, e2, ?_, P.fin (x := m) K.num hs⟩
  · rw [e4]
    by_cases w : t = (s : Int)
    · rw [if_pos ⟨hq, w⟩, if_pos w]
    · rw [if_neg fun y => w y.2, if_neg w]
  · rw [e5]
    by_cases w : t = (s : Int)
    · rw [if_pos ⟨hq, w⟩, if_pos w]
    · rw [if_neg fun y => w y.2, if_neg w]
/-- the takers are below three -/
theorem KI.tb {n : Nat} {m : Int} {log : List LN} {ds ks ss ts : List Int} (K : KI n m log ds ks ss ts) {q : Nat} {t : Int} (hq : q < n) (e : ts[q]? = some t) : t ≤ 2 := by
  obtain ⟨t', _, _, e1, _, _, P⟩ := K.pg q hq
  rw [e] at e1
  cases e1
  rcases P.tb with z | z <;> omega
/-- the wanted pages are those that are kept -/
theorem KI.want {n : Nat} {m : Int} {log : List LN} {ds ks ss ts : List Int} (K : KI n m log ds ks ss ts) {q : Nat} {v kv : Int} (hq : q < n) (e : ks[q]? = some kv) (hv : lastNew log q none = none → v = kv) : wantP log q v = kv := by
  obtain ⟨_, _, kv', _, _, e3, P⟩ := K.pg q hq
  rw [e] at e3
  cases e3
  exact P.want hv
/-- going through the log and back: what point 8 tells, page by page -/
def back (full : List LN) : List LN → Nat → Int → Int
  | [], _, v => v
  | .put d p o _ :: r, q, v => if p = q ∧ endedB full d = false then o else back full r q v
  | .fin _ :: r, q, v => back full r q v
theorem back_eq (full : List LN) (q : Nat) (v : Int) : ∀ l, back full l q v = (firstLost full l q).getD v
  | [] => rfl
  | .fin _ :: r => back_eq full q v r
  | .put d p o _ :: r => by
    show (if p = q ∧ endedB full d = false then o else back full r q v) = (if p = q ∧ endedB full d = false then some o else firstLost full r q).getD v
    by_cases h : p = q ∧ endedB full d = false
    · rw [if_pos h, if_pos h]; rfl
    · rw [if_neg h, if_neg h]; exact back_eq full q v r
def LNat (H : Hp) : LN → V → Prop
  | .put d p o n, x => ∃ a, x = .ref a ∧ H a = some (.tup [.str "put", .int d, .int (p : Nat), .int o, .int n])
  | .fin d, x => ∃ a, x = .ref a ∧ H a = some (.tup [.str "end", .int d])
def LN.ok (c : Nat) : LN → Prop
  | .put _ p _ _ => p < c
  | .fin _ => True
theorem LNat.mono {H H' : Hp} (k : KeepT H H') : ∀ {ln : LN} {x : V}, LNat H ln x → LNat H' ln x
  | .put d p o n, x, ⟨a, e, h⟩ => ⟨a, e, k _ _ h⟩
  | .fin d, x, ⟨a, e, h⟩ => ⟨a, e, k _ _ h⟩
theorem LNat.line {H : Hp} : ∀ {ln : LN} {x : V}, LNat H ln x → Line H x
  | .put d p o n, x, ⟨a, e, h⟩ => ⟨a, _, e, h, Nat.le_of_ble_eq_true rfl, fun f hf => by
    simp only [List.mem_cons, List.not_mem_nil, or_false] at hf
    rcases hf with z | z | z | z | z
    all_goals (rw [z]; first | exact .str _ | exact .int _)⟩
  | .fin d, x, ⟨a, e, h⟩ => ⟨a, _, e, h, Nat.le_of_ble_eq_true rfl, fun f hf => by
    simp only [List.mem_cons, List.not_mem_nil, or_false] at hf
    rcases hf with z | z
    all_goals (rw [z]; first | exact .str _ | exact .int _)⟩
abbrev LogAt (H : Hp) (log : List LN) (xs : List V) : Prop := All2 (LNat H) log xs
theorem ixN_nat {n j : Nat} (h : j < n) : ixN n (j : Int) = some j := by
  rw [ixN_in (Int.natCast_nonneg _) (by omega)]
  rfl
theorem cut_nat (xs : List V) (k : Nat) : cutV xs (some (k : Int)) none = xs.drop k := by
  unfold cutV
  rw [HT.sIx_none, HT.sIx_nat]
  rw [List.take_of_length_le (by rw [List.length_drop]; exact Nat.le_refl _)]
  by_cases h : k ≤ xs.length
  · rw [Nat.min_eq_left h]
  · rw [Nat.min_eq_right (by omega), List.drop_length, List.drop_eq_nil_of_le (by omega)]
theorem cut_ints (ns : List Int) (k : Nat) : cutV (ns.map V.int) (some (k : Int)) none = (ns.drop k).map V.int := by rw [cut_nat, List.map_drop]
theorem head_ints {ns : List Int} {k : Int} (h0 : 0 ≤ k) (h1 : k ≤ ns.length) : cutV (ns.map V.int) none (some k) = (ns.take k.toNat).map V.int := by
  rw [cut_before h0 (by rw [List.length_map]; exact h1), List.map_take]
theorem ints_of : ∀ {ys : List V}, (∀ v ∈ ys, ∃ z : Int, v = .int z) → ∃ ns : List Int, ys = ns.map V.int
  | [], _ => ⟨[], rfl⟩
  | y :: r, h => by
    obtain ⟨z, rfl⟩ := h y List.mem_cons_self
    obtain ⟨ns, rfl⟩ := ints_of (ys := r) fun v hv => h v (List.mem_cons_of_mem _ hv)
    exact ⟨z :: ns, rfl⟩
theorem reps_ints (H : Hp) (ns : List Int) : ∃ l, Reps H l (ns.map V.int) ∧ szs l ≤ ns.length := by
  obtain ⟨l, h1, h2⟩ := reps_of (H := H) (c := 1) (xs := ns.map V.int) fun v hv => by
    obtain ⟨z, _, rfl⟩ := List.mem_map.mp hv
    exact ⟨.int z, .ofInt, Nat.le_of_eq (sz_int z)⟩
  rw [List.length_map] at h2
  exact ⟨l, h1, by omega⟩
theorem line_lt {n : Nat} (h : n ≤ 2000) : n < sizeLine := Nat.lt_of_le_of_lt h (by decide)
theorem pe_ne : ¬ (V.str "end" = V.str "put") := by decide +kernel
theorem ep_ne : ¬ (V.str "put" = V.str "end") := by decide +kernel
end L2

set_option Elab.async false
set_option linter.all false
set_option maxRecDepth 100000
namespace L2
open PySem

/-! ### own words: lists that a def fills -/
/-- a log that grows at r -/
structure GI (H0 : Hp) (n : Nat) (r : Addr) (H : Hp) (i : Nat) (xs : List V) (log : List LN) : Prop where
  sm : Same H0 H
  hl : H r = some (.lst xs)
  lg : LogAt H log xs
  ok : ∀ ln ∈ log, ln.ok n
  le : log.length ≤ i
theorem GI.lt {H0 : Hp} {n : Nat} {r : Addr} {H : Hp} {i : Nat} {xs : List V} {log : List LN} (I : GI H0 n r H i xs log) (h : i ≤ 100) : xs.length < sizeLine := by
  have := I.lg.1
  have := I.le
  exact line_lt (by omega)
theorem GI.next {H0 : Hp} {n : Nat} {r t : Addr} {H : Hp} {i : Nat} {xs : List V} {log : List LN} {ln : LN} {o : HO} (I : GI H0 n r H i xs log) (h0 : H0 r = none) (ht : H t = none) (hln : LNat (upd H t o) ln (.ref t)) (hok : ln.ok n) :
    GI H0 n r (upd (upd H t o) r (.lst (xs ++ [.ref t]))) (i + 1) (xs ++ [.ref t]) (log ++ [ln]) := by
  have hr1 : (upd H t o) r = some (.lst xs) := by rw [upd_ne (ne_of_none I.hl ht)]; exact I.hl
  have k1 : KeepT (upd H t o) (upd (upd H t o) r (.lst (xs ++ [.ref t]))) := keepT_upd hr1
  refine ⟨(I.sm.trans (same_new ht _)).upd_new h0, upd_same, All2.snoc (I.lg.mono fun a x h => h.mono ((same_new ht o).keepT.trans k1)) (hln.mono k1), fun l hl => ?_, ?_⟩
  · rcases List.mem_append.mp hl with z | z
    · exact I.ok l z
    · rw [List.mem_singleton.mp z]; exact hok
  · rw [List.length_append, List.length_singleton]
    have := I.le
    omega
/-- five lists that stand apart, none of them in H0 -/
structure WI (H0 : Hp) (n : Nat) (l dk kp sl tk : Addr) (H : Hp) (i : Nat) (xs : List V) (log : List LN) (ds ks ss ts : List Int) : Prop where
  g : GI H0 n l H i xs log
  hd : H dk = some (.lst (ds.map V.int))
  hk : H kp = some (.lst (ks.map V.int))
  hs : H sl = some (.lst (ss.map V.int))
  ht : H tk = some (.lst (ts.map V.int))
  nd : ds.length = n
  nk : ks.length = n
  ns : ss.length = 3
  nt : ts.length = n
/-- they stand apart -/
structure Five (H0 : Hp) (l dk kp sl tk : Addr) : Prop where
  h1 : H0 l = none
  h2 : H0 dk = none
  h3 : H0 kp = none
  h4 : H0 sl = none
  h5 : H0 tk = none
  n12 : l ≠ dk
  n13 : l ≠ kp
  n14 : l ≠ sl
  n15 : l ≠ tk
  n23 : dk ≠ kp
  n24 : dk ≠ sl
  n25 : dk ≠ tk
  n34 : kp ≠ sl
  n35 : kp ≠ tk
  n45 : sl ≠ tk
section
variable {H0 : Hp} {n : Nat} {l dk kp sl tk : Addr} {H : Hp} {i : Nat} {xs : List V} {log : List LN} {ds ks ss ts : List Int}
theorem GI.other {a : Addr} {o : HO} {us : List V} (I : GI H0 n l H i xs log) (h0 : H0 a = none) (ha : H a = some (.lst us)) (hne : l ≠ a) : GI H0 n l (upd H a o) i xs log :=
  ⟨I.sm.upd_new h0, by rw [upd_ne hne]; exact I.hl, I.lg.mono fun b x h => h.mono (keepT_upd ha), I.ok, I.le⟩
theorem WI.setD (W : WI H0 n l dk kp sl tk H i xs log ds ks ss ts) (A : Five H0 l dk kp sl tk) {ds' : List Int} (h : ds'.length = n) : WI H0 n l dk kp sl tk (upd H dk (.lst (ds'.map V.int))) i xs log ds' ks ss ts :=
  ⟨W.g.other A.h2 W.hd A.n12, upd_same, by rw [upd_ne A.n23.symm]; exact W.hk, by rw [upd_ne A.n24.symm]; exact W.hs, by rw [upd_ne A.n25.symm]; exact W.ht, h, W.nk, W.ns, W.nt⟩
theorem WI.setK (W : WI H0 n l dk kp sl tk H i xs log ds ks ss ts) (A : Five H0 l dk kp sl tk) {ks' : List Int} (h : ks'.length = n) : WI H0 n l dk kp sl tk (upd H kp (.lst (ks'.map V.int))) i xs log ds ks' ss ts :=
  ⟨W.g.other A.h3 W.hk A.n13, by rw [upd_ne A.n23]; exact W.hd, upd_same, by rw [upd_ne A.n34.symm]; exact W.hs, by rw [upd_ne A.n35.symm]; exact W.ht, W.nd, h, W.ns, W.nt⟩
theorem WI.setS (W : WI H0 n l dk kp sl tk H i xs log ds ks ss ts) (A : Five H0 l dk kp sl tk) {ss' : List Int} (h : ss'.length = 3) : WI H0 n l dk kp sl tk (upd H sl (.lst (ss'.map V.int))) i xs log ds ks ss' ts :=
  ⟨W.g.other A.h4 W.hs A.n14, by rw [upd_ne A.n24]; exact W.hd, by rw [upd_ne A.n34]; exact W.hk, upd_same, by rw [upd_ne A.n45.symm]; exact W.ht, W.nd, W.nk, h, W.nt⟩
theorem WI.setT (W : WI H0 n l dk kp sl tk H i xs log ds ks ss ts) (A : Five H0 l dk kp sl tk) {ts' : List Int} (h : ts'.length = n) : WI H0 n l dk kp sl tk (upd H tk (.lst (ts'.map V.int))) i xs log ds ks ss ts' :=
  ⟨W.g.other A.h5 W.ht A.n15, by rw [upd_ne A.n25]; exact W.hd, by rw [upd_ne A.n35]; exact W.hk, by rw [upd_ne A.n45]; exact W.hs, upd_same, W.nd, W.nk, W.ns, h⟩
theorem WI.setL {t : Addr} {o : HO} {ln : LN} (W : WI H0 n l dk kp sl tk H i xs log ds ks ss ts) (A : Five H0 l dk kp sl tk) (ht : H t = none) (hln : LNat (upd H t o) ln (.ref t)) (hok : ln.ok n) :
    WI H0 n l dk kp sl tk (upd (upd H t o) l (.lst (xs ++ [.ref t]))) (i + 1) (xs ++ [.ref t]) (log ++ [ln]) ds ks ss ts :=
  ⟨W.g.next A.h1 ht hln hok, by rw [upd_ne A.n12.symm, upd_ne (ne_of_none W.hd ht)]; exact W.hd, by rw [upd_ne A.n13.symm, upd_ne (ne_of_none W.hk ht)]; exact W.hk, by rw [upd_ne A.n14.symm, upd_ne (ne_of_none W.hs ht)]; exact W.hs, by rw [upd_ne A.n15.symm, upd_ne (ne_of_none W.ht ht)]; exact W.ht,
    W.nd, W.nk, W.ns, W.nt⟩
theorem WI.same {H' : Hp} (W : WI H0 n l dk kp sl tk H i xs log ds ks ss ts) (s : Same H H') : WI H0 n l dk kp sl tk H' i xs log ds ks ss ts :=
  ⟨⟨W.g.sm.trans s, s _ _ W.g.hl, W.g.lg.mono fun a x h => h.mono s.keepT, W.g.ok, W.g.le⟩, s _ _ W.hd, s _ _ W.hk, s _ _ W.hs, s _ _ W.ht, W.nd, W.nk, W.ns, W.nt⟩
end
theorem two_ix {K : PySem.W.Frag} {t : Addr} {x y : V} {H : Hp} {Q : VK} (ht : H t = some (.lst [x, y])) (h1 : Q x H) (h2 : Q y H) (k : Bool) : rIxL K (.ref t) (.int (if k then 1 else 0)) H Q := by
  cases k with
  | false => exact ⟨t, _, 0, x, rfl, rfl, SqL.of ht, rfl, h1⟩
  | true => exact ⟨t, _, 1, y, rfl, rfl, SqL.of ht, rfl, h2⟩
/-- has the log a put of the page -/
def hasPut (log : List LN) (p : Nat) : Prop := ∃ d o n, LN.put d p o n ∈ log
theorem lastNew_some {log : List LN} {p : Nat} (h : hasPut log p) : lastNew log p none ≠ none := by
  obtain ⟨d, o, n, hm⟩ := h
  obtain ⟨a, b, e⟩ := List.append_of_mem hm
  rw [e, lastNew_append]
  show lastNew b p (if p = p then some n else _) ≠ none
  rw [if_pos rfl, lastNew_acc]
  cases lastNew b p none <;> exact fun z => nomatch z
/-! what the law's own way finds -/
def ends (log : List LN) : List Int := log.filterMap fun ln => match ln with
  | .fin d => some d
  | .put .. => none
def onPage (q : Nat) : LN → Bool
  | .put _ p _ _ => decide (p = q)
  | .fin _ => false
def olds (es : List Int) (l : List LN) : List Int := l.filterMap fun ln => match ln with
  | .put d _ o _ => if d ∈ es then none else some o
  | .fin _ => none
def newOf : LN → Int
  | .put _ _ _ n => n
  | .fin _ => 0
theorem ends_mem {log : List LN} {d : Int} : d ∈ ends log ↔ endedB log d = true := by
  rw [endedB_mem]
  unfold ends
  rw [List.mem_filterMap]
  constructor
  · rintro ⟨ln, h1, h2⟩
    cases ln with
    | fin e => cases h2; exact h1
    | put d p o n => cases h2
  · intro h
    exact ⟨_, h, rfl⟩
theorem olds_head {full : List LN} {q : Nat} : ∀ l : List LN, (olds (ends full) (l.filter (onPage q))).head? = firstLost full l q
  | [] => rfl
  | .fin d :: r => olds_head r
  | .put d p o n :: r => by
    have ih := olds_head (full := full) (q := q) r
    show (olds (ends full) (List.filter (onPage q) (LN.put d p o n :: r))).head? = (if p = q ∧ endedB full d = false then some o else firstLost full r q)
    by_cases e : p = q
    · have e1 : List.filter (onPage q) (LN.put d p o n :: r) = LN.put d p o n :: List.filter (onPage q) r := List.filter_cons_of_pos (by show decide (p = q) = true; exact decide_eq_true e)
      rw [e1]
      by_cases hd : d ∈ ends full
      · have hn : ¬ (p = q ∧ endedB full d = false) := fun z => by
          have := ends_mem.mp hd
          rw [z.2] at this
          cases this
        rw [if_neg hn, ← ih]
        show (List.filterMap _ (LN.put d p o n :: _)).head? = _
        rw [List.filterMap_cons_none (by show (if d ∈ ends full then none else some o) = none; rw [if_pos hd])]
        rfl
      · rw [if_pos ⟨e, Bool.eq_false_iff.mpr fun z => hd (ends_mem.mpr z)⟩]
        show (List.filterMap _ (LN.put d p o n :: _)).head? = _
        rw [List.filterMap_cons_some (by show (if d ∈ ends full then none else some o) = some o; rw [if_neg hd])]
        rfl
    · have e1 : List.filter (onPage q) (LN.put d p o n :: r) = List.filter (onPage q) r := List.filter_cons_of_neg (by show ¬ decide (p = q) = true; rw [decide_eq_false e]; exact Bool.false_ne_true)
      rw [e1, if_neg fun z => e z.1]
      exact ih
theorem last_new {q : Nat} : ∀ (l : List LN) (x : Option Int), lastNew l q x = (((l.filter (onPage q)).getLast?).map newOf).or x
  | [], x => by cases x <;> rfl
  | .fin d :: r, x => last_new r x
  | .put d p o n :: r, x => by
    show lastNew r q (if p = q then some n else x) = _
    by_cases e : p = q
    · have e1 : List.filter (onPage q) (LN.put d p o n :: r) = LN.put d p o n :: List.filter (onPage q) r := List.filter_cons_of_pos (by show decide (p = q) = true; exact decide_eq_true e)
      rw [if_pos e, last_new r (some n), e1]
      cases h : List.filter (onPage q) r with
      | nil => rfl
      | cons y z => rw [List.getLast?_cons_cons]; rw [List.getLast?_cons]; rfl
    · have e1 : List.filter (onPage q) (LN.put d p o n :: r) = List.filter (onPage q) r := List.filter_cons_of_neg (by show ¬ decide (p = q) = true; rw [decide_eq_false e]; exact Bool.false_ne_true)
      rw [if_neg e, last_new r x, e1]
end L2

set_option Elab.async false
set_option linter.all false
set_option maxRecDepth 100000
namespace L2
open PySem

/-! ### own words: comprehensions over a list of lines that stays -/
theorem compT_lines {K : PySem.W.Frag} {a : Addr} {xs : List V} {log : List LN} {tt : TT} {te : TE} {σ' : St} {Q : VK} {H : Hp} {acc : Addr} (p : LN → Bool) (g : LN → V → V) (P : Nat → List V → Prop) (ha : H a = some (.lst xs)) (hL : LogAt H log xs) (h0 : H acc = none) (hz : log.length ≤ 1000)
    (ht : ∀ ln x H3 (k : Bool → Hp → Prop), ln ∈ log → LNat H3 ln x → Same H H3 → k (p ln) H3 → tt (some x :: σ') H3 k)
    (he : ∀ ln x H3 (k : VK), ln ∈ log → LNat H3 ln x → Same H H3 → p ln = true → k (g ln x) H3 → te (some x :: σ') H3 k)
    (P0 : P 0 []) (P1 : ∀ (i : Nat) ln x ys, log[i]? = some ln → xs[i]? = some x → P i ys → if p ln = true then P (i + 1) (ys ++ [g ln x]) else P (i + 1) ys)
    (q : ∀ ys, ys.length ≤ log.length → P log.length ys → Q (.ref acc) (upd H acc (.lst ys))) : CompWT (Itl K a) tt te σ' Q H acc := by
  have nac : a ≠ acc := ne_of_none ha h0
  have lx := hL.1
  refine ⟨xs.length, fun i ys H2 => i ≤ xs.length ∧ ys.length ≤ i ∧ P i ys ∧ H2 = upd H acc (.lst ys), ⟨Nat.zero_le _, Nat.le_refl _, P0, rfl⟩, ?_⟩
  rintro i ys H2 ⟨hi, ly, hP, rfl⟩
  have ha2 : (upd H acc (.lst ys)) a = some (.lst xs) := by rw [upd_ne nac]; exact ha
  have sm : Same H (upd H acc (.lst ys)) := same_new h0 _
  by_cases hlt : i < xs.length
  · have hx : xs[i]? = some xs[i] := List.getElem?_eq_getElem hlt
    obtain ⟨ln, hln, hat⟩ := hL.get hx
    refine .inr ⟨⟨xs, xs[i], SqL.of ha2, hx⟩, hlt, ?_⟩
    rintro v H3 ⟨rfl, hv⟩
    have ev : v = xs[i] := by
      have := hv _ (SqL.of ha2)
      rw [hx] at this
      exact (Option.some.inj this).symm
    subst ev
    have hat3 := hat.mono sm.keepT
    have hm := List.mem_of_getElem? hln
    have step := P1 i ln _ ys hln hx hP
    refine ht ln _ _ _ hm hat3 sm ?_
    cases hp : p ln with
    | false =>
      refine iteF ?_
      rw [hp, if_neg Bool.false_ne_true] at step
      exact ⟨hlt, by omega, step, rfl⟩
    | true =>
      refine iteT (he ln _ _ _ hm hat3 sm hp ?_)
      rw [hp, if_pos rfl] at step
      exact ⟨upd_same, Nat.lt_of_le_of_lt (by omega : ys.length ≤ 1000) (by decide), hlt, by rw [List.length_append, List.length_singleton]; omega, step, by rw [upd_upd]⟩
  · have e : i = xs.length := by omega
    subst e
    exact .inl ⟨⟨xs, SqL.of ha2, Nat.le_refl _⟩, q ys (by omega) (by rw [lx]; exact hP)⟩
theorem comp_lines {K : PySem.W.Frag} {a : Addr} {xs : List V} {log : List LN} {te : TE} {σ' : St} {Q : VK} {H : Hp} {acc : Addr} (g : LN → V) (ha : H a = some (.lst xs)) (hL : LogAt H log xs) (h0 : H acc = none) (hz : log.length ≤ 1000)
    (he : ∀ ln x H3 (k : VK), ln ∈ log → LNat H3 ln x → Same H H3 → k (g ln) H3 → te (some x :: σ') H3 k)
    (q : Q (.ref acc) (upd H acc (.lst (log.map g)))) : CompW (Itl K a) te σ' Q H acc := by
  have nac : a ≠ acc := ne_of_none ha h0
  have lx := hL.1
  refine ⟨xs.length, fun i ys H2 => i ≤ xs.length ∧ ys = (log.take i).map g ∧ H2 = upd H acc (.lst ys), ⟨Nat.zero_le _, rfl, rfl⟩, ?_⟩
  rintro i ys H2 ⟨hi, rfl, rfl⟩
  have ha2 : (upd H acc (.lst ((log.take i).map g))) a = some (.lst xs) := by rw [upd_ne nac]; exact ha
  have sm : Same H (upd H acc (.lst ((log.take i).map g))) := same_new h0 _
  by_cases hlt : i < xs.length
  · have hx : xs[i]? = some xs[i] := List.getElem?_eq_getElem hlt
    obtain ⟨ln, hln, hat⟩ := hL.get hx
    refine .inr ⟨⟨xs, xs[i], SqL.of ha2, hx⟩, hlt, ?_⟩
    rintro v H3 ⟨rfl, hv⟩
    have ev : v = xs[i] := by
      have := hv _ (SqL.of ha2)
      rw [hx] at this
      exact (Option.some.inj this).symm
    subst ev
    refine he ln _ _ _ (List.mem_of_getElem? hln) (hat.mono sm.keepT) sm ⟨upd_same, Nat.lt_of_le_of_lt (by rw [List.length_map, List.length_take]; omega : ((log.take i).map g).length ≤ 1000) (by decide), hlt, ?_, by rw [upd_upd]⟩
    rw [List.take_add_one, hln, List.map_append]
    rfl
  · have e : i = xs.length := by omega
    subst e
    refine .inl ⟨⟨xs, SqL.of ha2, Nat.le_refl _⟩, ?_⟩
    rw [← lx, List.take_length]
    exact q
/-- xs[-1:] -/
theorem cut_last (xs : List V) : cutV xs (some (-1)) none = xs.drop (xs.length - 1) := by
  unfold cutV
  rw [HT.sIx_none]
  have e : HT.sIx xs.length 0 (some (-1)) = xs.length - 1 := by
    show (if (-1 : Int) < 0 then ((-1 : Int) + (xs.length : Int)).toNat else min (-1 : Int).toNat xs.length) = _
    rw [if_pos (by decide)]
    omega
  rw [e]
  exact List.take_of_length_le (by rw [List.length_drop]; exact Nat.le_refl _)
theorem drop_last {α : Type} (l : List α) : l.drop (l.length - 1) = l.getLast?.toList := by
  rcases List.eq_nil_or_concat l with rfl | ⟨r, a, e⟩
  · rfl
  · rw [List.concat_eq_append] at e
    subst e
    rw [List.getLast?_concat, List.length_append, List.length_singleton, Nat.add_sub_cancel, List.drop_append_of_le_length (Nat.le_refl _), List.drop_length]
    rfl
def endOf : LN → List Int
  | .fin d => [d]
  | .put .. => []
theorem ends_step {log : List LN} {i : Nat} {ln : LN} (h : log[i]? = some ln) : ends (log.take (i + 1)) = ends (log.take i) ++ endOf ln := by
  unfold ends
  rw [List.take_add_one, h, List.filterMap_append]
  cases ln <;> rfl
theorem page_step {log : List LN} {i q : Nat} {ln : LN} (h : log[i]? = some ln) : (log.take (i + 1)).filter (onPage q) = (log.take i).filter (onPage q) ++ (if onPage q ln = true then [ln] else []) := by
  rw [List.take_add_one, h, List.filter_append]
  cases e : onPage q ln with
  | true => rw [if_pos rfl]; exact congrArg _ (List.filter_cons_of_pos e)
  | false => rw [if_neg Bool.false_ne_true]; exact congrArg _ (List.filter_cons_of_neg (by rw [e]; exact Bool.false_ne_true))
theorem olds_step {es : List Int} {log : List LN} {i : Nat} {d o n : Int} {p : Nat} (h : log[i]? = some (.put d p o n)) : olds es (log.take (i + 1)) = olds es (log.take i) ++ (if d ∈ es then [] else [o]) := by
  unfold olds
  rw [List.take_add_one, h, List.filterMap_append]
  by_cases e : d ∈ es
  · rw [if_pos e]
    refine congrArg _ ?_
    exact List.filterMap_cons_none (by show (if d ∈ es then none else some o) = none; rw [if_pos e])
  · rw [if_neg e]
    refine congrArg _ ?_
    exact List.filterMap_cons_some (by show (if d ∈ es then none else some o) = some o; rw [if_neg e])
/-- the first of: the first lost old, the last new, the page's own -/
theorem want_first (log : List LN) (q : Nat) (v : Int) : ((olds (ends log) (log.filter (onPage q))).take 1 ++ ((log.filter (onPage q)).getLast?.toList.map newOf) ++ [v])[0]? = some (wantP log q v) := by
  unfold wantP
  rw [← olds_head, last_new log none]
  cases h : olds (ends log) (log.filter (onPage q)) with
  | cons a r => rfl
  | nil =>
    cases h2 : (log.filter (onPage q)).getLast? with
    | none => rfl
    | some ln => rfl
/-! ### own words: rules that lean on the written part, said for a block -/
section
variable {X : Cx} {K : PySem.W.Frag}
theorem ix_tupK (h : X.K = K) : IxR X (rIxT K) := by subst h; exact ix_tup
theorem ix_listK (h : X.K = K) : IxR X (rIxL K) := by subst h; exact ix_list
theorem op_inK (h : X.K = K) : OpR X (compareOp .In) (rIn K false) := by subst h; exact op_in_seq
theorem op_notInK (h : X.K = K) : OpR X (compareOp .NotIn) (rIn K true) := by subst h; exact op_notIn_seq
end
end L2

set_option Elab.async false
set_option linter.all false
set_option maxRecDepth 100000
namespace L2
open PySem PySem.Spec PyProof.Rows

/-! ### own words: list(a dict): its keys; sum(a list of ints) -/
theorem vals_of_get : ∀ {xs : List V} {us : List Value}, us.length = xs.length → (∀ (j : Nat) (u : Value), us[j]? = some u → ∃ x, xs[j]? = some x ∧ RelV x u) → Vals xs us
  | [], [], _, _ => .nil
  | [], _ :: _, h, _ => by simp at h
  | _ :: _, [], h, _ => by simp at h
  | x :: xs, u :: us, h, f => by
    obtain ⟨y, e, r⟩ := f 0 u rfl
    have e' : x = y := Option.some.inj e
    subst e'
    refine .cons r (vals_of_get (by simpa using h) fun j u' hu => ?_)
    obtain ⟨z, e2, r2⟩ := f (j + 1) u' (by simpa using hu)
    exact ⟨z, by simpa using e2, r2⟩
section
variable {X : Cx}
def rListD : List V → Hp → VK → Prop := fun xs H Q => ∃ d kvs, xs = [.ref d] ∧ H d = some (.dK kvs) ∧ ∀ l, H l = none → Q (.ref l) (upd H l (.lst (kvs.map fun z => kV z.1)))
theorem call_listD (hh : X.A.handled = none) : CallR X (.type "list") rListD := by
  intro pins s σ H xs us Q I rv h
  obtain ⟨d, kvs, rfl, hd, q⟩ := h
  obtain ⟨u, rfl, ru⟩ := rv.one
  cases ru
  obtain ⟨z, hds, vs, rel, dd⟩ := dk_of I.hok hd
  obtain ⟨ep, da⟩ := dd.dictAt
  have hl : kvs.length = vs.length := rel.length
  refine PySem.W.kdl_call (PySem.W.kdl_dict hds) hh da (by rw [← hl]; exact z) fun h' tk acc' c' hk hD hacc => ?_
  have hv : Vals (kvs.map fun z => kV z.1) acc'.toList := by
    refine vals_of_get (by rw [List.length_map, Array.length_toList, hacc.1, hl]) fun j u hu => ?_
    obtain ⟨k, x, e, hk⟩ := hacc.2 j u (by rw [← Array.getElem?_toList]; exact hu)
    have hj : j < kvs.length := by rw [hl]; exact (List.getElem?_eq_some_iff.mp e).1
    have hkeys := rel.keys
    have e2 : (kvs.map (·.1))[j]? = some k := by rw [hkeys, List.getElem?_map, e]; rfl
    rw [List.getElem?_map, List.getElem?_eq_getElem hj] at e2
    have e3 : kvs[j].1 = k := Option.some.inj e2
    refine ⟨kV k, by rw [List.getElem?_map, List.getElem?_eq_getElem hj, ← e3]; rfl, ?_⟩
    rcases keyIs_shape hk with ⟨i, t, rfl, rfl⟩ | ⟨y, t, rfl, rfl⟩
    · exact ⟨t, rfl⟩
    · exact ⟨t, rfl⟩
  refine ⟨.ref s.heap.objs.size, _, I.laid (t' := tk) (o := .lst (kvs.map fun z => kV z.1)) hk (Nat.le_refl _) ⟨by rw [List.length_map]; exact z, acc'.toList, c', hv, by rw [Array.toArray_toList]; exact hD⟩, rfl, q _ I.fresh⟩
theorem preSum_take : ∀ (ns : List Int) (j : Nat), j ≤ ns.length → preSum (fun i => ns.getD i 0) j = (ns.take j).sum
  | _, 0, _ => rfl
  | ns, j + 1, h => by
    have hj : j < ns.length := by omega
    show preSum (fun i => ns.getD i 0) j + ns.getD j 0 = _
    rw [preSum_take ns j (by omega), List.take_add_one, List.getElem?_eq_getElem hj, List.sum_append, List.getD_eq_getElem?_getD, List.getElem?_eq_getElem hj]
    simp
def rSum (K : PySem.W.Frag) : List V → Hp → VK → Prop := fun xs H Q => ∃ (l : Addr) (ns : List Int), xs = [.ref l] ∧ SqL K H l (ns.map V.int) ∧ Q (.int ns.sum) H
theorem call_sum (hh : X.A.handled = none) : CallR X (.builtin "sum") (rSum X.K) := by
  intro pins s σ H xs us Q I rv h
  obtain ⟨l, ns, rfl, hl, q⟩ := h
  obtain ⟨u, rfl, ru⟩ := rv.one
  cases ru
  obtain ⟨its, r, p, hz⟩ := I.list hl
  have lz := r.length
  rw [List.length_map] at lz
  refine call_sum_walkAnyS ?_
  refine wpAny_pyIter_list p.isList ?_
  have hne : l ≠ s.heap.objs.size := by
    obtain ⟨o, ho, _⟩ := p.isList
    exact Nat.ne_of_lt (Heap.lt_size ho)
  refine ⟨s.heap.objs.size, _, _, _, its.toArray.size, _, _, fun i => ns.getD i 0, rfl, (Walks.list (A := X.A.in1) hh s.heap.objs.size l hne its.toArray).toS, ⟨⟨_, Heap.get?_push_size _ rfl, rfl, rfl⟩, p.isList.push _⟩, fun b hb => ?_, fun i v hv => ?_, fun s' t' M => ?_⟩
  · rw [Heap.size_push]
    rcases List.mem_cons.mp hb with z | z
    · rw [z]; exact Nat.lt_succ_self _
    · rw [List.mem_singleton.mp z]
      obtain ⟨o, ho, _⟩ := p.isList
      exact Nat.lt_succ_of_lt (Heap.lt_size ho)
  · have hv' : its[i]? = some v := by simpa using hv
    have hi : i < ns.length := by rw [lz]; exact (List.getElem?_eq_some_iff.mp hv').1
    obtain ⟨u, e, ru⟩ := r.get (map_int_get (List.getElem?_eq_getElem hi))
    rw [hv'] at e
    cases e
    obtain ⟨t, et⟩ := ru
    refine ⟨t, ?_⟩
    have eg : ns.getD i 0 = ns[i] := by rw [List.getD_eq_getElem?_getD, List.getElem?_eq_getElem hi]; rfl
    show _ = Value.int (ns.getD i 0) t
    rw [et, eg]
  · have e : preSum (fun i => ns.getD i 0) its.toArray.size = ns.sum := by
      rw [List.size_toArray, ← lz, preSum_take ns ns.length (Nat.le_refl _), List.take_length]
    rw [e]
    have kk : ∀ b o, s.heap.get? b = some o → s'.heap.get? b = some o := fun b o eb => M.heap b o (fun hb => absurd (List.mem_singleton.mp hb) (Nat.ne_of_lt (Heap.lt_size eb))) (Heap.get?_push_of_some _ eb)
    obtain ⟨h', g', d', t0, os'⟩ := s'
    obtain rfl : g' = s.gens := M.gens
    obtain rfl : d' = s.drawn := M.drawn
    obtain rfl : os' = s.os := M.os
    exact ⟨.int ns.sum, H, I.kept (t' := t0) kk, ⟨t', rfl⟩, q⟩
end
end L2

set_option Elab.async false
set_option linter.all false
set_option maxRecDepth 100000
namespace L2
open PySem PySem.Spec PyProof.Rows

/-! ### own words: list(reversed(a list)) -/
theorem lri_nolen : typeLookup (.type "list_reverseiterator") "__len__" = pure none := by rw [typeLookup_type, builtinLookup_eq_fast]; kernel_rfl
theorem lri_hint : typeLookup (.type "list_reverseiterator") "__length_hint__" = pure (some (.builtin "list_reverseiterator.__length_hint__")) := by rw [typeLookup_type, builtinLookup_eq_fast]; kernel_rfl
theorem rev_hint {prog : Program} {w : World} {A : Around} {E : Value → Shared → Prop} {s : Shared} {r : Addr} {Q : Bool → Shared → Prop} (hT : s.TypeIs (.ref r) "list_reverseiterator") (h : Q false s) : wpAny (model prog w) A (Builtin.List.listLengthHint (.ref r)) Q E s := by
  unfold Builtin.List.listLengthHint
  refine wpAny_bind (wpAny_specialOf hT lri_nolen ?_)
  show wpAny _ A (specialOf (Value.ref r) (Str.ofString "__length_hint__") >>= _) _ _ _
  refine wpAny_bind (wpAny_specialOf hT lri_hint ?_)
  generalize hid : ("list_reverseiterator.__length_hint__" : String) = id0
  wp_delta
  rw [show splitId id0 = some ("list_reverseiterator", "__length_hint__") from by subst hid; decide +kernel]
  subst hid
  refine wpAny_bind (wpAny_isInstance (T := "list_reverseiterator") (b := true) hT (by rw [isSubtype_type]; kernel_rfl) ?_)
  refine wpAny_ite_split (fun hab => absurd hab (by decide)) (fun _ => ?_)
  refine wpAny_ite_split (fun _ => ?_) (fun hab => absurd (by decide +kernel) hab)
  refine wpAny_ite_split (fun hab => absurd hab (by decide +kernel)) (fun _ => ?_)
  exact wpAny_pure h
theorem rev_list {prog : Program} {w : World} {A : Around} {E : Value → Shared → Prop} {s : Shared} {it l : Addr} {items : Array Value} {Q : Value → Shared → Prop} (hh : A.handled = none) (hit : s.heap.IsRevIter it l ((items.size : Int) - 1)) (hl : s.heap.IsList l items) (hne : l ≠ it) (hn : items.size ≤ sizeLine)
    (hQ : ∀ h' tk acc c, (∀ b o, b ≠ it → s.heap.get? b = some o → h'.get? b = some o) → h'.get? s.heap.objs.size = some { cls := .type "list", dict := none, data := .seq acc c, slots := #[] } → ItemsOf (fun i v => items[items.size - 1 - i]? = some v) acc items.size → Q (.ref s.heap.objs.size) { s with heap := h', toks := tk }) :
    wpAny (model prog w) A (call (.type "list") [.ref it]) Q E s := by
  refine callType_codes (Q₁ := fun ob s₁ => ob = .ref s.heap.objs.size ∧ s₁ = { s with heap := s.heap.push { cls := .type "list", data := .seq #[] } }) PySem.F.called_list (PySem.F.typeCall_list_1 _) PySem.F.entry_list_init (code_list_new _ ⟨rfl, rfl⟩) fun ob s₁ hob => ?_
  obtain ⟨rfl, rfl⟩ := hob
  have hitl : it < s.heap.objs.size := by obtain ⟨o, ho, _⟩ := hit; exact Heap.lt_size ho
  have hll : l < s.heap.objs.size := by obtain ⟨o, ho, _⟩ := hl; exact Heap.lt_size ho
  have g1 : (s.heap.push { cls := .type "list", data := .seq #[] }).get? s.heap.objs.size = some { cls := .type "list", data := .seq #[] } := Heap.get?_push_size _ rfl
  refine ⟨⟨_, g1, rfl⟩, PySem.F.args_list_init_2 _ _, ?_⟩
  show wpAny _ _ (do let old ← Builtin.List.listItems (.ref s.heap.objs.size); Builtin.List.listUpdate (.ref s.heap.objs.size) (fun _ => #[]); letGo old.toList.reverse; Builtin.List.listExtendWith (.ref s.heap.objs.size) (.ref it) .none) _ _ _
  refine wpAny_bind ?_
  unfold Builtin.List.listItems
  refine wpAny_bind (wpAny_seqItems g1 rfl (wpAny_pure ?_))
  show wpAny _ _ (updateSeq s.heap.objs.size (fun _ => #[]) >>= fun _ => letGo (#[] : Array Value).toList.reverse >>= fun _ => Builtin.List.listExtendWith (.ref s.heap.objs.size) (.ref it) .none) _ _ _
  refine wpAny_bind (wpAny_updateSeq g1 rfl ?_)
  have g2 := Heap.get?_update_self (Obj.mapSeq (fun _ => (#[] : Array Value))) g1 rfl
  have old2 : ∀ b o, s.heap.get? b = some o → ((s.heap.push { cls := .type "list", data := .seq #[] }).update s.heap.objs.size (Obj.mapSeq (fun _ => (#[] : Array Value)))).get? b = some o :=
    fun b o e => (Heap.get?_update_other _ _ (Nat.ne_of_gt (Heap.lt_size e))).trans (Heap.get?_push_of_some _ e)
  refine wpAny_bind (wpAny_letGo ?_)
  have Wk := (Walks.listRev (prog := prog) (w := w) (A := A.in1.in1) hh it l hne items)
  have hSf : s.heap.objs.size ∉ [it, l] := fun hm => by
    rcases List.mem_cons.mp hm with z | z
    · exact Nat.ne_of_gt hitl z
    · exact Nat.ne_of_gt hll (List.mem_singleton.mp z)
  have e0 : (items.size : Int) - 1 - ((0 : Nat) : Int) = (items.size : Int) - 1 := by omega
  have key : ∀ (h : Heap) (c₁ tk : Nat), (∀ b o, s.heap.get? b = some o → h.get? b = some o) → h.get? s.heap.objs.size = some { cls := .type "list", data := .seq #[] c₁ } →
      codeAny (model prog w) A.in1 (.builtin "list.extend.loop" ⟨[.ref s.heap.objs.size, .ref it, .none], []⟩) (wants (fun r s₂ => r = .none ∧ Q (.ref s.heap.objs.size) s₂) E) { s with heap := h, toks := tk } := by
    intro h c₁ tk hk g
    refine codeAny_extend_loopS Wk.toS hn s.heap.objs.size hSf .none items.size 0 _ #[] c₁ rfl (Nat.zero_le _) ⟨Nat.zero_le _, by rw [e0]; exact hit.at fun o e => hk it o e, hl.at fun o e => hk l o e⟩ g (ItemsOf.nil _) fun s' acc' c' hm g' hacc => ?_
    rw [Moved.eq_with hm]
    refine ⟨rfl, hQ s'.heap s'.toks acc' c' (fun b o hb e => hm.heap b o (fun hmem => ?_) (hk b o e)) g' hacc⟩
    rcases List.mem_cons.mp hmem with z | z
    · exact absurd (Heap.lt_size e) (by rw [z]; exact Nat.lt_irrefl _)
    · exact hb (List.mem_singleton.mp z)
  have hT : Shared.TypeIs { s with heap := (s.heap.push { cls := .type "list", data := .seq #[] }).update s.heap.objs.size (Obj.mapSeq (fun _ => (#[] : Array Value))) } (.ref it) "list_reverseiterator" := (hit.at fun o e => old2 it o e).typeIs
  unfold Builtin.List.listExtendWith
  refine wpAny_bind (wpAny_typeOf hT ?_)
  have h1 : Builtin.List.listSameRef (.ref s.heap.objs.size) (.ref it) = false := by simp [Builtin.List.listSameRef, Nat.ne_of_gt hitl]
  rw [if_neg (by rw [h1]; decide)]
  refine wpAny_bind (wpAny_pyIter_revIter (hit.at fun o e => old2 it o e) ?_)
  refine wpAny_bind (wpAny_holding (rev_hint hT ?_))
  refine wpAny_ite_split (fun _ => ?_) (fun _ => wpAny_pure ⟨plainId_quiet PySem.F.plain_extend_loop _, key _ _ _ old2 g2⟩)
  refine wpAny_bind (wpAny_rule ?_)
  refine wpAny_bind ?_
  show wpAny _ _ (updateSeq s.heap.objs.size (·.push .none) >>= fun _ => updateSeq s.heap.objs.size (·.pop)) _ _ _
  refine wpAny_bind (wpAny_updateSeq g2 rfl ?_)
  have g3 := Heap.get?_update_self (Obj.mapSeq (·.push Value.none)) g2 rfl
  refine wpAny_updateSeq (hz := by seq_fits) g3 rfl ?_
  have g4 := Heap.get?_update_self (Obj.mapSeq (·.pop)) g3 rfl
  refine wpAny_pure ⟨plainId_quiet PySem.F.plain_extend_loop _, key _ _ _ (fun b o e => ?_) g4⟩
  exact (Heap.get?_update_other _ _ (Nat.ne_of_gt (Heap.lt_size e))).trans ((Heap.get?_update_other _ _ (Nat.ne_of_gt (Heap.lt_size e))).trans (old2 b o e))
section
variable {X : Cx}
def tListRev (K : PySem.W.Frag) (te : TE) : TE := fun σ H Q => te σ H fun x H1 => ∃ a xs, x = .ref a ∧ SqL K H1 a xs ∧ ∀ l, H1 l = none → Q (.ref l) (upd H1 l (.lst xs.reverse))
theorem pe_listRev {e : Expr} {te : TE} {p1 p2 p3 p4 : Pos} (hh : X.A.handled = none) (hg : Gl X "list") (hm : X.mg "list" = none) (hg2 : Gl X "reversed") (hm2 : X.mg "reversed" = none) (he : PE X e te)
    (hs : starEach [.Call (.Name "reversed" p2) [e] [] p3] X.env = [(false, eval (.Call (.Name "reversed" p2) [e] [] p3) X.env)] := by rfl) (hs2 : starEach [e] X.env = [(false, eval e X.env)] := by rfl) :
    PE X (.Call (.Name "list" p1) [.Call (.Name "reversed" p2) [e] [] p3] [] p4) (tListRev X.K te) := by
  intro pins s σ H Q I h
  refine Call_ (ld_blt I hg hm boot_list (PyProof.Rows.callWith_type1 ?_ hs rfl))
  rw [hs]
  show wpAny _ _ (spliced [(false, eval (.Call (.Name "reversed" p2) [e] [] p3) X.env)]) _ _ s
  refine Calls.spliced_cons ?_
  refine Call_ (ld_blt I hg2 hm2 boot_reversed (PyProof.Rows.callWith_type1 ?_ hs2 rfl))
  rw [hs2]
  show wpAny _ _ (spliced [(false, eval e X.env)]) _ _ s
  refine Calls.spliced_cons (thn (he pins s σ H _ I h) fun u s1 ⟨x, H1, I1, r1, a, xs, ex, hx, q⟩ => ?_)
  subst ex
  cases r1
  obtain ⟨its, rv, pl, hz⟩ := I1.list hx
  have lz := rv.length
  refine Calls.spliced_nil (call_reversed_list pl.isList ?_)
  refine Calls.spliced_nil ?_
  have hne : a ≠ s1.heap.objs.size := by
    obtain ⟨o, ho, _⟩ := pl.isList
    exact Nat.ne_of_lt (Heap.lt_size ho)
  refine rev_list (items := its.toArray) hh ⟨_, Heap.get?_push_size _ rfl, rfl, rfl⟩ (pl.isList.push _) hne (by rw [List.size_toArray]; omega) fun h' tk acc c hk hD hacc => ?_
  have hk1 : ∀ b o, s1.heap.get? b = some o → h'.get? b = some o := fun b o eb => hk b o (Nat.ne_of_lt (Heap.lt_size eb)) (Heap.get?_push_of_some _ eb)
  have hv : Vals xs.reverse acc.toList := by
    refine vals_of_get (by rw [List.length_reverse, Array.length_toList, hacc.1, List.size_toArray, lz]) fun j u hu => ?_
    have e1 := hacc.2 j u (by rw [← Array.getElem?_toList]; exact hu)
    have hj : j < xs.length := by
      have := (List.getElem?_eq_some_iff.mp hu).1
      rw [Array.length_toList, hacc.1, List.size_toArray] at this
      omega
    rw [List.size_toArray] at e1
    have e2 : its[its.length - 1 - j]? = some u := by simpa using e1
    have hj2 : its.length - 1 - j < xs.length := by omega
    obtain ⟨u2, e3, r3⟩ := rv.get (List.getElem?_eq_getElem hj2)
    rw [e2] at e3
    cases e3
    refine ⟨_, ?_, r3⟩
    rw [List.getElem?_reverse hj]
    have e4 : xs.length - 1 - j = its.length - 1 - j := by omega
    rw [e4]
    exact List.getElem?_eq_getElem hj2
  rw [Heap.size_push] at hD
  have e5 : (s1.heap.push (revObj a ((its.toArray.size : Int) - 1))).objs.size = s1.heap.objs.size + 1 := Heap.size_push ..
  have hfr : H1 (s1.heap.objs.size + 1) = none := I1.hok.fresh (Nat.le_succ _)
  show EP X pins σ Q (.ref (s1.heap.push (revObj a ((its.toArray.size : Int) - 1))).objs.size) _
  rw [e5]
  refine ⟨.ref (s1.heap.objs.size + 1), upd H1 (s1.heap.objs.size + 1) (.lst xs.reverse), ?_, rfl, q _ hfr⟩
  refine Inv.laid (s := s1) (t' := tk) (a := s1.heap.objs.size + 1) (o := .lst xs.reverse) I1 hk1 (Nat.le_succ _) ⟨by rw [List.length_reverse]; exact hz, acc.toList, c, hv, by rw [Array.toArray_toList]; exact hD⟩
end
end L2

set_option Elab.async false
set_option linter.all false
set_option maxRecDepth 100000
namespace L2
open PySem PySem.Spec PyProof.Rows

/-! ### own words: for x in reversed(a list) -/
/-- the list at a, of n items, from its last item on -/
def Itv (K : PySem.W.Frag) (a : Addr) (n : Nat) : It :=
  ⟨fun i H => i < n ∧ ∃ xs x, SqL K H a xs ∧ xs[n - 1 - i]? = some x, fun i H x H' => H' = H ∧ ∀ xs, SqL K H a xs → xs[n - 1 - i]? = some x, fun i _ => i = n⟩
theorem turn_rev {P : Program} {w : World} {K : PySem.W.Frag} {tg : Expr} (a it : Addr) (n : Nat) : Turn P w K tg (Itv K a n) [it] it (fun i h => h.IsRevIter it a ((n : Int) - 1 - (i : Int))) where
  mem := by simp
  obj := fun i h st b hb => by
    have e : b = it := by simpa using hb
    subst e
    obtain ⟨o, e, c, d⟩ := st
    exact ⟨o, e, fun v z => by rw [d] at z; cases z⟩
  keep := fun i h h' st k => st.at fun o e => k it (by simp) o e
  item := by
    intro X hP hw hK hc i pins s σ H E I hf st hg
    subst hP hw hK
    obtain ⟨hn, xs, x, hq, hx⟩ := hg
    obtain ⟨its, rv, p, hz⟩ := I.list hq
    obtain ⟨u, hu, ru⟩ := rv.get hx
    obtain ⟨f0, f1, f2, f3, f4, f5⟩ := hf it (by simp)
    have ei : (n : Int) - 1 - (i : Int) = ((n - 1 - i : Nat) : Int) := by omega
    have st1 : s.heap.IsRevIter it a ((n - 1 - i : Nat) : Int) := by rw [← ei]; exact st
    refine wpAny_pyNext_rev_item st1 p.isList (x := u) (by simpa using hu) fun h' st' sb => ?_
    have I1 : Inv X pins σ H { s with heap := h' } := I.turned (t' := s.toks) (fun b o hb e => (sb.2 b hb).trans e) f0 f1 f3 f4 f5
    have ej : ((n - 1 - i : Nat) : Int) - 1 = (n : Int) - 1 - ((i + 1 : Nat) : Int) := by omega
    rw [ej] at st'
    obtain ⟨o, e, c, d⟩ := id st'
    exact ⟨u, rfl, go_of (s := { s with heap := h' }) e c d (by decide) ⟨x, H, I1, ru, ⟨rfl, fun ys hy => by rw [I.list_inj hy hq]; exact hx⟩, st', fun b hb => (hf b hb).1⟩⟩
  done := by
    intro X hP hw hK hc i pins s σ H E I hf st hg
    subst hP hw hK
    have hg : i = n := hg
    subst hg
    obtain ⟨f0, f1, f2, f3, f4, f5⟩ := hf it (by simp)
    have ei : (i : Int) - 1 - (i : Int) = -1 := by omega
    rw [ei] at st
    exact wpAny_pyNext_rev_end (I.ok.hd hc) st fun h' eb => ⟨rfl, I.turned (t' := s.toks) (fun b o hb e => eb b o hb e) f0 f1 f3 f4 f5⟩
  self := fun _ _ _ _ _ st h => wpAny_pyIter_revIter st h
section
variable {X : Cx} {tg : Expr}
def iRev (K : PySem.W.Frag) (te : TE) : TI := fun σ H R => te σ H fun x H1 => ∃ a xs, x = .ref a ∧ SqL K H1 a xs ∧ R (Itv K a xs.length) H1
theorem pi_rev {l : Expr} {tl : TE} {p pos : Pos} (hg : Gl X "reversed") (hm : X.mg "reversed" = none) (hl : PE X l tl) (hs : starEach [l] X.env = [(false, eval l X.env)] := by rfl) : PI X tg (.Call (.Name "reversed" p) [l] [] pos) (iRev X.K tl) := by
  intro pins s σ H R I h
  refine Call_ (ld_blt I hg hm boot_reversed (PyProof.Rows.callWith_type1 ?_ hs rfl))
  rw [hs]
  show wpAny _ _ (spliced [(false, eval l X.env)]) _ _ s
  refine Calls.spliced_cons (thn (hl pins s σ H _ I h) fun u s1 ⟨x, H1, I1, r1, a, xs, ex, hx, q⟩ => ?_)
  subst ex
  cases r1
  obtain ⟨its, rv, pl, hz⟩ := I1.list hx
  have lz := rv.length
  refine Calls.spliced_nil (call_reversed_list pl.isList ?_)
  have st : (s1.heap.push (revObj a ((its.toArray.size : Int) - 1))).IsRevIter s1.heap.objs.size a ((xs.length : Int) - 1 - ((0 : Nat) : Int)) := by
    have e : ((its.toArray.size : Nat) : Int) - 1 = (xs.length : Int) - 1 - ((0 : Nat) : Int) := by rw [List.size_toArray]; omega
    rw [← e]
    exact ⟨_, Heap.get?_push_size _ rfl, rfl, rfl⟩
  refine wpAny_pyIter_revIter (s := { s1 with heap := s1.heap.push (revObj a ((its.toArray.size : Int) - 1)) }) st ?_
  refine ⟨s1.heap.objs.size, [s1.heap.objs.size], _, _, H1, rfl, I1.kept (t' := s1.toks) fun b o e => Heap.get?_push_of_some _ e, turn_rev a _ xs.length, st, fun b hb => ?_, q⟩
  have e : b = s1.heap.objs.size := by simpa using hb
  subst e
  exact I1.fpOk (Nat.le_refl _) (I1.hok.fresh (Nat.le_refl _))
end
/-- over a list that the body leaves as it is: the item i counted from the end -/
theorem for_rev {K : PySem.W.Frag} {a : Addr} {xs : List V} {g : TG} {tb : TS} {D : Ends} {σ : St} {H : Hp} (Pv : Nat → St → Hp → Prop) (h0 : Pv 0 σ H) (hl : ∀ i σ H, i ≤ xs.length → Pv i σ H → SqL K H a xs)
    (hs : ∀ i x σ H, i < xs.length → xs[xs.length - 1 - i]? = some x → Pv i σ H → g x σ H fun σ2 H2 => tb { D with nx := Pv (i + 1), ct := Pv (i + 1), bk := D.nx } σ2 H2) (hd : ∀ σ H, Pv xs.length σ H → D.nx σ H) :
    ∃ W : Nat → Nat → St → Hp → Prop, (∃ m, W 0 m σ H) ∧ ∀ i m σ H, W i m σ H →
      ((Itv K a xs.length).stop i H ∧ D.nx σ H) ∨ ((Itv K a xs.length).go i H ∧ ∃ N : St → Hp → Prop, (∀ σ' H', N σ' H' → ∃ m', m' < m ∧ W (i + 1) m' σ' H') ∧ ∀ x H', (Itv K a xs.length).yld i H x H' → g x σ H' fun σ2 H2 => tb { D with nx := N, ct := N, bk := D.nx } σ2 H2) := by
  refine ⟨fun i m σ H => m = xs.length - i ∧ i ≤ xs.length ∧ Pv i σ H, ⟨xs.length, by simp, Nat.zero_le _, h0⟩, ?_⟩
  rintro i m σ H ⟨rfl, hi, p⟩
  have q := hl i σ H hi p
  by_cases hlt : i < xs.length
  · have hj : xs.length - 1 - i < xs.length := by omega
    refine .inr ⟨⟨hlt, xs, xs[xs.length - 1 - i], q, List.getElem?_eq_getElem hj⟩, Pv (i + 1), fun σ' H' p' => ⟨xs.length - (i + 1), by omega, rfl, hlt, p'⟩, fun x H' y => ?_⟩
    obtain ⟨e, y⟩ := y
    subst e
    exact hs i x σ _ hlt (y xs q) p
  · have e : i = xs.length := by omega
    subst e
    exact .inl ⟨rfl, hd σ H p⟩
/-! ### own words: pairs of the ended dealings -/
/-- over a list of lines that stays: a new pair of the dealing and a written value for each end -/
theorem compT_ends {K : PySem.W.Frag} {a : Addr} {xs : List V} {log : List LN} {tt : TT} {te : TE} {σ' : St} {Q : VK} {H : Hp} {acc : Addr} {w : V} (ha : H a = some (.lst xs)) (hL : LogAt H log xs) (h0 : H acc = none) (hz : log.length ≤ 1000)
    (ht : ∀ ln x H3 (k : Bool → Hp → Prop), LNat H3 ln x → k (match ln with | .fin _ => true | .put .. => false) H3 → tt (some x :: σ') H3 k)
    (he : ∀ d x H3 (k : VK), LNat H3 (.fin d) x → (∀ p, H3 p = none → k (.ref p) (upd H3 p (.tup [.int d, w]))) → te (some x :: σ') H3 k)
    (q : ∀ (ys : List V) (H' : Hp), Same H H' → H' acc = some (.lst ys) → All2 (fun z x => PairAt H' x (Sum.inl z, w)) (ends log) ys → ys.length ≤ log.length → Q (.ref acc) H') : CompWT (Itl K a) tt te σ' Q H acc := by
  have lx := hL.1
  refine ⟨xs.length, fun i ys H2 => i ≤ xs.length ∧ Same H H2 ∧ H2 acc = some (.lst ys) ∧ ys.length ≤ i ∧ All2 (fun z x => PairAt H2 x (Sum.inl z, w)) (ends (log.take i)) ys, ⟨Nat.zero_le _, same_new h0 _, upd_same, Nat.le_refl _, .nil⟩, ?_⟩
  rintro i ys H2 ⟨hi, sm, hacc, ly, hp⟩
  have ha2 := sm _ _ ha
  by_cases hlt : i < xs.length
  · have hx : xs[i]? = some xs[i] := List.getElem?_eq_getElem hlt
    obtain ⟨ln, hln, hat⟩ := hL.get hx
    refine .inr ⟨⟨xs, xs[i], SqL.of ha2, hx⟩, hlt, ?_⟩
    rintro v H3 ⟨rfl, hv⟩
    have ev : v = xs[i] := by
      have := hv _ (SqL.of ha2)
      rw [hx] at this
      exact (Option.some.inj this).symm
    subst ev
    have hat3 := hat.mono sm.keepT
    refine ht ln _ _ _ hat3 ?_
    cases ln with
    | put d p o n =>
      refine iteF ⟨hlt, sm, hacc, by omega, ?_⟩
      rw [ends_step hln]
      show All2 _ (ends (log.take i) ++ []) ys
      rw [List.append_nil]
      exact hp
    | fin d =>
      refine iteT (he d _ _ _ hat3 fun p hpn => ?_)
      have npa : p ≠ acc := (ne_of_none hacc hpn).symm
      have hacc3 : (upd H3 p (.tup [.int d, w])) acc = some (.lst ys) := by rw [upd_ne npa.symm]; exact hacc
      refine ⟨hacc3, Nat.lt_of_le_of_lt (by omega : ys.length ≤ 1000) (by decide), hlt, (sm.trans (same_new hpn _)).upd_new h0, upd_same, by rw [List.length_append, List.length_singleton]; omega, ?_⟩
      rw [ends_step hln]
      refine All2.snoc (hp.mono fun z x hx => ?_) ⟨p, rfl, by rw [upd_ne npa, upd_same]; rfl⟩
      obtain ⟨b, e1, e2⟩ := hx
      exact ⟨b, e1, by rw [upd_ne (ne_of e2 hacc (fun z => nomatch z)), upd_ne (ne_of_none e2 hpn)]; exact e2⟩
  · have e : i = xs.length := by omega
    subst e
    have e2 : log.take xs.length = log := List.take_of_length_le (by omega)
    rw [e2] at hp
    exact .inl ⟨⟨xs, SqL.of ha2, Nat.le_refl _⟩, q ys H2 sm hacc hp (by omega)⟩
/-! ### own words: the two passes of coming up -/
/-- the first i lines of the log are done, forwards -/
def Fwd (log : List LN) (i : Nat) (ps ns : List Int) : Prop := ns.length = ps.length ∧ ∀ (q : Nat) (v : Int), ps[q]? = some v → ns[q]? = some ((lastNew (log.take i) q none).getD v)
theorem Fwd.start (log : List LN) (ps : List Int) : Fwd log 0 ps ps := ⟨rfl, fun q v h => h⟩
theorem lastNew_step {log : List LN} {i : Nat} {ln : LN} (h : log[i]? = some ln) (q : Nat) : lastNew (log.take (i + 1)) q none = lastNew [ln] q (lastNew (log.take i) q none) := by
  rw [List.take_add_one, h, lastNew_append]
  rfl
theorem Fwd.put {log : List LN} {i : Nat} {ps ns : List Int} {d o n : Int} {p : Nat} (F : Fwd log i ps ns) (h : log[i]? = some (.put d p o n)) : Fwd log (i + 1) ps (ns.set p n) := by
  refine ⟨by rw [List.length_set]; exact F.1, fun q v hv => ?_⟩
  have e := F.2 q v hv
  rw [lastNew_step h]
  show _ = some ((if p = q then some n else lastNew (log.take i) q none).getD v)
  by_cases z : p = q
  · subst z
    rw [if_pos rfl, List.getElem?_set_self (List.getElem?_eq_some_iff.mp e).1]
    rfl
  · rw [if_neg z, List.getElem?_set_ne z]
    exact e
theorem Fwd.fin {log : List LN} {i : Nat} {ps ns : List Int} {d : Int} (F : Fwd log i ps ns) (h : log[i]? = some (.fin d)) : Fwd log (i + 1) ps ns := by
  refine ⟨F.1, fun q v hv => ?_⟩
  rw [lastNew_step h]
  exact F.2 q v hv
/-- the last i lines of the log are done, backwards -/
def Bwd (log : List LN) (i : Nat) (ps ns : List Int) : Prop := ns.length = ps.length ∧ ∀ (q : Nat) (v : Int), ps[q]? = some v → ns[q]? = some ((firstLost log (log.drop (log.length - i)) q).getD v)
theorem Bwd.start (log : List LN) (ps : List Int) : Bwd log 0 ps ps := ⟨rfl, fun q v h => by
  rw [Nat.sub_zero, List.drop_length]
  exact h⟩
theorem drop_step {α : Type} {l : List α} {i : Nat} {a : α} (hi : i < l.length) (h : l[l.length - 1 - i]? = some a) : l.drop (l.length - (i + 1)) = a :: l.drop (l.length - i) := by
  have e1 : l.length - (i + 1) = l.length - 1 - i := by omega
  have e2 : l.length - i = l.length - 1 - i + 1 := by omega
  rw [e1, e2]
  obtain ⟨hk, e⟩ := List.getElem?_eq_some_iff.mp h
  rw [← e]
  exact List.drop_eq_getElem_cons hk
theorem Bwd.lost {log : List LN} {i : Nat} {ps ns : List Int} {d o n : Int} {p : Nat} (F : Bwd log i ps ns) (hi : i < log.length) (h : log[log.length - 1 - i]? = some (.put d p o n)) (hd : endedB log d = false) : Bwd log (i + 1) ps (ns.set p o) := by
  refine ⟨by rw [List.length_set]; exact F.1, fun q v hv => ?_⟩
  have e := F.2 q v hv
  rw [drop_step hi h]
  show _ = some ((if p = q ∧ endedB log d = false then some o else firstLost log (log.drop (log.length - i)) q).getD v)
  by_cases z : p = q
  · subst z
    rw [if_pos ⟨rfl, hd⟩, List.getElem?_set_self (List.getElem?_eq_some_iff.mp e).1]
    rfl
  · rw [if_neg fun w => z w.1, List.getElem?_set_ne z]
    exact e
theorem Bwd.kept {log : List LN} {i : Nat} {ps ns : List Int} {d o n : Int} {p : Nat} (F : Bwd log i ps ns) (hi : i < log.length) (h : log[log.length - 1 - i]? = some (.put d p o n)) (hd : endedB log d = true) : Bwd log (i + 1) ps ns := by
  refine ⟨F.1, fun q v hv => ?_⟩
  rw [drop_step hi h]
  show _ = some ((if p = q ∧ endedB log d = false then some o else firstLost log (log.drop (log.length - i)) q).getD v)
  rw [if_neg fun w => by rw [hd] at w; cases w.2]
  exact F.2 q v hv
theorem Bwd.fin {log : List LN} {i : Nat} {ps ns : List Int} {d : Int} (F : Bwd log i ps ns) (hi : i < log.length) (h : log[log.length - 1 - i]? = some (.fin d)) : Bwd log (i + 1) ps ns := by
  refine ⟨F.1, fun q v hv => ?_⟩
  rw [drop_step hi h]
  exact F.2 q v hv
theorem want_of {log : List LN} {ps ms ns : List Int} (F : Fwd log log.length ps ms) (B : Bwd log log.length ms ns) : ns.length = ps.length ∧ ∀ (q : Nat) (v : Int), ps[q]? = some v → ns[q]? = some (wantP log q v) := by
  refine ⟨B.1.trans F.1, fun q v hv => ?_⟩
  have e := B.2 q _ (F.2 q v hv)
  rw [Nat.sub_self, List.take_length] at e
  exact e
end L2

set_option Elab.async false
set_option linter.all false
set_option maxRecDepth 100000
namespace L2
open PySem PySem.Spec PyProof.Rows

/-! ### own words: a list comprehension with any target (m names of its own) and one test -/
structure BlkG (X : Cx) (m : Nat) (fr : List Nat) (N' : List Str) (scope : Scope) (cl : List (Str × Addr)) : Prop where
  clos : closureFor scope X.env = pure cl
  cell : ∀ y ∈ scope.names, y.2 ≠ .cell
  kind : scope.kind = .function
  names : ∀ y ∈ scope.names, y.2 = .local → scope.names.lookup y.1 = some .local
  sub : ∀ y c, cl.lookup y = some c → X.env.cells.lookup y = some c
  has : ∀ y, ((relabel scope X.env).names.lookup y = some .cell ∨ (relabel scope X.env).names.lookup y = some .free) → ∃ c, cl.lookup y = some c
  len : N'.length = m + fr.length
  nd : N'.Nodup
  see : ∀ (i j : Nat) (y : Str), N'[i + m]? = some y → fr[i]? = some j → X.N[j]? = some y ∧ X.env.scope.names.lookup y = some .cell ∧ (relabel scope X.env).names.lookup y = some .cell
theorem BlkG.one2 {X : Cx} {x1 x2 fv : Str} {j : Nat} {c : Addr} {scope : Scope} (hclos : closureFor scope X.env = pure [(fv, c)]) (hcell : ∀ y ∈ scope.names, y.2 ≠ .cell) (hfree : ∀ y ∈ scope.names, y.2 = .free → y.1 = fv) (hkind : scope.kind = .function)
    (hnames : ∀ y ∈ scope.names, y.2 = .local → scope.names.lookup y.1 = some .local) (hc : X.env.cells.lookup fv = some c) (hnd : [x1, x2, fv].Nodup) (hN : X.N[j]? = some fv) (hk : X.env.scope.names.lookup fv = some .cell)
    (hr : (relabel scope X.env).names.lookup fv = some .cell) : BlkG X 2 [j] [x1, x2, fv] scope [(fv, c)] where
  clos := hclos
  cell := hcell
  kind := hkind
  names := hnames
  sub := fun y d e => by
    rw [List.lookup_cons] at e
    cases z : y == fv with
    | true =>
      rw [z] at e
      have e' : some c = some d := e
      cases e'
      rw [beq_iff_eq.mp z]
      exact hc
    | false => rw [z] at e; simp at e
  has := fun y hy => by
    have : y = fv := by
      rcases hy with h | h
      · exact relabel_has hcell hfree h (.inl rfl)
      · exact relabel_has hcell hfree h (.inr rfl)
    subst this
    exact ⟨c, by rw [List.lookup_cons, beq_self_eq_true]⟩
  len := rfl
  nd := hnd
  see := fun i k y h1 h2 => by
    cases i with
    | zero =>
      have e1 : fv = y := Option.some.inj h1
      have e2 : j = k := Option.some.inj h2
      subst e1 e2
      exact ⟨hN, hk, hr⟩
    | succ i => simp at h2
/-- a name of the block's own -/
theorem pg_own {X : Cx} {N' : List Str} {scope : Scope} {cl : List (Str × Addr)} {C : Addr} {s : Shared} {H : Hp} {fp : List Addr} {x : Str} {px : Pos} {i : Nat} (hN : N'.Nodup) (hi : N'[i]? = some x) (hx : scope.names.lookup x = some .local) : PG (blk X N' scope cl C s H fp) (.Name x px) (gName i) := by
  have kx : (relabel scope X.env).names.lookup x = some .local := lookup_relabel_local hx
  exact pg_name (X := blk X N' scope cl C s H fp) (i := i) hN hi (.inl kx) (.inr kx)
theorem pg_tupK {X : Cx} {K : PySem.W.Frag} {es : List Expr} {k : Nat} {t : TGs} {n : Nat} {pos : Pos} (hK : X.K = K) (hc : X.calm = true) (h : PGs X es t)
    (hn : (assignEach es X.env).length = n := by rfl) (hst : (assignEach es X.env).findIdx? (·.1) = none := by rfl) : PG X (.Tuple es k pos) (gTup K n t) := by
  subst hK
  exact pg_tup hc h hn hst
def CompG (J : It) (m : Nat) (g : TG) (tt : TT) (te : TE) (σ' : St) (Q : VK) (H : Hp) (acc : Addr) : Prop :=
  ∃ (n : Nat) (W : Nat → List V → Hp → Prop), W 0 [] (upd H acc (.lst [])) ∧ ∀ i ys H2, W i ys H2 → (J.stop i H2 ∧ Q (.ref acc) H2) ∨
    (J.go i H2 ∧ i < n ∧ ∀ v H3 ts, J.yld i H2 v H3 → ts.length = m → g v (ts ++ σ') H3 fun σ2 H4 => ∃ ts', ts'.length = m ∧ σ2 = ts' ++ σ' ∧ tt (ts' ++ σ') H4 fun b H5 => if b = true then te (ts' ++ σ') H5 fun y H6 => H6 acc = some (.lst ys) ∧ ys.length < sizeLine ∧ W (i + 1) (ys ++ [y]) (upd H6 acc (.lst (ys ++ [y]))) else W (i + 1) ys H5)
theorem comp_coreG {X : Cx} {pins : List (Addr × Obj)} {σ : St} {H : Hp} {s : Shared} {tg : Expr} {g : TG} {m : Nat} {elt iter c : Expr} {scope : Scope} {pos : Pos} {cl : List (Str × Addr)} {N' : List Str} {fr : List Nat} {te : TE} {tt : TT} {J : It} {fp : List Addr} {it : Addr}
    {tn : Nat → Heap → Prop} {E : Value → Shared → Prop} {RR : Value → Addr → Result → Shared → Prop} {Q : VK} (B : BlkG X m fr N' scope cl) (hc : X.calm = true) (I : Inv X pins σ H s) (T : Turn X.prog X.w X.K tg J fp it tn)
    (st : tn 0 s.heap) (hf : ∀ b ∈ fp, FpOk X pins H b) (hg : ∀ C s' H', PG (blk X N' scope cl C s' H' fp) tg g) (hq : ∀ C s' H', PT (blk X N' scope cl C s' H' fp) c tt) (he : ∀ C s' H', PE (blk X N' scope cl C s' H' fp) elt te) (h : ∀ acc, H acc = none → CompG J m g tt te (pick σ fr) Q H acc)
    (hRR : ∀ acc C H' s' m, Inv X pins σ H' s' → Q (.ref acc) H' → s'.heap.Ns C m → H' C = none → C ≠ X.env.locals → (C ∈ X.ex ∨ X.s₀.heap.objs.size ≤ C) → (∀ y c, X.env.cells.lookup y = some c → c ≠ C) → (∀ p ∈ X.pn ++ pins, p.1 ≠ C) → RR (.ref acc) C (.ok .next) s') :
    wpAny (model X.prog X.w) X.A (newList []) (fun acc s₃ => wpAny (model X.prog X.w) X.A (newFunctionEnv scope X.env.globals cl [] X.env.qual none .none (some X.env)) (fun cenv s₄ =>
      codeAny (model X.prog X.w) X.A (.compStart (.ListComp elt [⟨tg, iter, [c], 0⟩] scope pos) 0 (.ref it) acc { cenv with scope := relabel scope X.env }) (RR acc cenv.locals) s₄) E s₃) E s := by
  refine wpAny_newObj_type (wpAny_newFunctionEnv B.cell (by intro y hy; simp at hy) (fun h₁ hns₁ hsb₁ => ?_) B.kind)
  have I3 : Inv X pins σ (upd H s.heap.objs.size (.lst [])) { s with heap := s.heap.push { cls := .type "list", data := .seq ([] : List Value).toArray } } := I.lnew (its := []) (t' := s.toks) .nil (Nat.zero_le _)
  obtain ⟨n, W, w0, turn⟩ := h s.heap.objs.size I.fresh
  dsimp only at hns₁ hsb₁ ⊢
  generalize hs3 : ({ s with heap := s.heap.push { cls := .type "list", data := .seq ([] : List Value).toArray } } : Shared) = s3 at *
  have hh3 : s.heap.push { cls := .type "list", data := .seq ([] : List Value).toArray } = s3.heap := by rw [← hs3]
  have hh3' : s.heap.push { cls := .type "list", dict := none, data := .seq ([] : List Value).toArray } = s3.heap := hh3
  rw [hh3'] at hns₁ hsb₁ ⊢
  have lt3 : ∀ b o, s3.heap.get? b = some o → b ≠ s3.heap.objs.size := fun b o e => Nat.ne_of_lt (Heap.lt_size e)
  have keep1 : ∀ b o, s3.heap.get? b = some o → h₁.get? b = some o := fun b o e => hsb₁.extBut b o (lt3 b o e) (Heap.get?_push_of_some _ e)
  have keep0 : ∀ b o, s.heap.get? b = some o → s3.heap.get? b = some o := fun b o e => by rw [← hh3]; exact Heap.get?_push_of_some _ e
  have st3 : tn 0 h₁ := T.keep 0 _ _ st fun b _ o e => keep1 b o (keep0 b o e)
  have obj3 : ∀ b ∈ fp, ∃ o, s3.heap.get? b = some o := fun b hb => by
    obtain ⟨o, e, _⟩ := T.obj 0 _ st b hb
    exact ⟨o, keep0 b o e⟩
  have nstk : ∀ b, b ≠ X.env.locals → b ∉ X.fs → b ∉ frs X.stack := fun b h1 h2 hb => by
    rcases List.mem_cons.mp (I3.stkSub b hb) with z | z
    · exact h1 z
    · exact h2 z
  have ok : (blk X N' scope cl s3.heap.objs.size s3 (upd H s.heap.objs.size (.lst [])) fp).Ok := by
    refine ⟨I.ok.mod, ?_, I.ok.glob, I.ok.blt, Nat.le_refl _, fun y z c h1 h2 => I.ok.inj y z c (B.sub y c h1) (B.sub z c h2), fun y hy => B.has y hy, fun y c e _ => absurd (show false = true from e) Bool.false_ne_true, I.ok.hd, I.ok.frames, .inl rfl, fun b hb => ?_, I3.bs,
      Nat.le_trans I.ok.bsz I3.sz, fun b o e hb => ?_, fun b hb => nstk b (hf b hb).2.1 (hf b hb).2.2.1, I3.stack, I3.stkFree⟩
    · exact B.kind
    · obtain ⟨o, e⟩ := obj3 b hb
      exact ⟨lt3 b o e, fun y c e => (hf b hb).2.2.2.2.1 y c (B.sub y c e)⟩
    · rcases (hf b hb).2.2.2.1 with z | z
      · exact I.ok.noex b o e z
      · exact absurd (Nat.lt_of_lt_of_le (Heap.lt_size (I.ok.bs b o e).1) z) (Nat.lt_irrefl _)
  have cellK : ∀ c v, s3.heap.IsCell c v → h₁.IsCell c v := fun c v ⟨o, ho, hd⟩ => ⟨o, keep1 c o ho, hd⟩
  have stat : ∀ {H' : Hp}, (∀ b ∈ fp, H' b = none) → ∀ b ∈ fp, FpOk (blk X N' scope cl s3.heap.objs.size s3 (upd H s.heap.objs.size (.lst [])) fp) pins H' b := fun hn b hb =>
    ⟨hn b hb, (ok.exf b hb).1, nstk b (hf b hb).2.1 (hf b hb).2.2.1, .inl hb, fun y c e => (hf b hb).2.2.2.2.1 y c (B.sub y c e), (hf b hb).2.2.2.2.2⟩
  have I4 : Inv (blk X N' scope cl s3.heap.objs.size s3 (upd H s.heap.objs.size (.lst [])) fp) pins (List.replicate m none ++ pick σ fr) (upd H s.heap.objs.size (.lst [])) { s3 with heap := h₁ } := by
    refine ⟨ok, rfl, I3.bare, Un.kept keep1, ⟨_, hns₁, fun i y v h1 h2 h3 => ?_⟩, fun y c e => ?_, I3.fresh, fun y c e => I3.freeC y c (B.sub y c e), fun p hp => ?_, I3.hok.kept keep1, ?_⟩
    · by_cases him : i < m
      · rw [List.getElem?_append_left (by rw [List.length_replicate]; exact him), List.getElem?_replicate, if_pos him] at h2
        cases h2
      · rw [List.getElem?_append_right (by rw [List.length_replicate]; omega), List.length_replicate] at h2
        unfold pick at h2
        rw [List.getElem?_map] at h2
        cases ej : fr[i - m]? with
        | none => rw [ej] at h2; cases h2
        | some j =>
          rw [ej] at h2
          have h2' : (σ[j]?).getD none = some v := Option.some.inj h2
          have hσ : σ[j]? = some (some v) := by
            cases q : σ[j]? with
            | none => rw [q] at h2'; cases h2'
            | some o =>
              rw [q] at h2'
              have : o = some v := h2'
              rw [this]
          obtain ⟨b1, b2, b3⟩ := B.see (i - m) j y (by rw [Nat.sub_add_cancel (Nat.le_of_not_lt him)]; exact h1) ej
          obtain ⟨m3, _, hl3⟩ := I3.loc
          obtain ⟨u, ru, lk⟩ := hl3 j y v b1 hσ (.inr (.inl b2))
          refine ⟨u, ru, .inr ⟨.inl b3, ?_⟩⟩
          rcases lk with ⟨k, _⟩ | ⟨_, c, e, z⟩
          · have k' : X.env.scope.names.lookup y = some .local := k
            rw [b2] at k'
            cases k'
          · obtain ⟨c', e'⟩ := B.has y (.inl b3)
            have := B.sub y c' e'
            rw [e] at this
            cases this
            exact ⟨_, e', cellK _ _ z⟩
    · obtain ⟨v, z⟩ := I3.cell y c (B.sub y c e)
      exact ⟨v, cellK c v z⟩
    · obtain ⟨e, n0, ne, nf, d⟩ := I3.pin p hp
      exact ⟨keep1 _ _ e, n0, lt3 _ _ e, nstk _ ne nf, d⟩
    · show (List.replicate m none ++ pick σ fr).length = N'.length
      rw [B.len, List.length_append, List.length_replicate]
      unfold pick
      rw [List.length_map]
  have fin : ∀ {H' : Hp} {σ' : St} {s' : Shared}, Inv (blk X N' scope cl s3.heap.objs.size s3 (upd H s.heap.objs.size (.lst [])) fp) pins σ' H' s' → Q (.ref s.heap.objs.size) H' → RR (.ref s.heap.objs.size) s3.heap.objs.size (.ok .next) s' := fun {H' σ' s'} J q => by
    obtain ⟨m, hn, _⟩ := J.loc
    refine hRR _ _ H' s' m (I3.call' (ch := fp) J.os J.base J.hok J.bare fun b hb => ⟨(hf b hb).2.2.2.1, (hf b hb).2.1, (hf b hb).2.2.2.2.1, (hf b hb).2.2.2.2.2⟩) q hn J.free (Nat.ne_of_gt I3.lt) (.inr I3.sz) (fun y c e => ?_) fun p hp => ?_
    · obtain ⟨v, o, ho, _⟩ := I3.cell y c e
      exact lt3 c o ho
    · exact lt3 _ _ (I3.pin p hp).1
  have loop : ∀ s₃ : Shared, s₃ = { s3 with heap := h₁ } → codeAny (model X.prog X.w) X.A (.compLoop (.ListComp elt [⟨tg, iter, [c], 0⟩] scope pos) 0 (.ref it) (.ref s.heap.objs.size) (compEnvC scope cl s3.heap.objs.size X.env)) (RR (.ref s.heap.objs.size) s3.heap.objs.size) s₃ := by
    rintro s₃ rfl
    refine compLoop_goT (fun k s' => ∃ i ys ts H', Inv (blk X N' scope cl s3.heap.objs.size s3 (upd H s.heap.objs.size (.lst [])) fp) pins (ts ++ pick σ fr) H' s' ∧ ts.length = m ∧ tn i s'.heap ∧ (∀ b ∈ fp, H' b = none) ∧ W i ys H' ∧ k = n - i) ?_ n ⟨0, [], List.replicate m none, _, I4, List.length_replicate, st3, fun b hb => ?_, w0, rfl⟩
    · rintro k s' ⟨i, ys, ts, H', I', lts, st', fr', w', rfl⟩
      rcases turn i ys H' w' with ⟨stop, q⟩ | ⟨go, hin, step⟩
      · refine thn (T.done (blk X N' scope cl s3.heap.objs.size s3 (upd H s.heap.objs.size (.lst [])) fp) rfl rfl rfl hc i pins s' _ H' (fun _ _ => False) I' (stat fr') st' stop) fun r s1 ⟨hr, I1⟩ => ?_
        subst hr
        exact fin I1 q
      · refine thn (T.item (blk X N' scope cl s3.heap.objs.size s3 (upd H s.heap.objs.size (.lst [])) fp) rfl rfl rfl hc i pins s' _ H' (fun _ _ => False) I' (stat fr') st' go) fun r s1 ⟨u, hr, h4⟩ => ?_
        subst hr
        refine thn h4 fun _ s5 ⟨v, H5, I5, r5, y5, st5, fr5⟩ => ?_
        have I5' := I5.pinned (stat fr5) (T.obj _ _ st5)
        refine thn (hg _ _ _ _ s5 _ H5 v u _ I5' r5 (step v _ ts y5 lts)) fun _ s6 ⟨σ6, H6, I6, ts', lts', e1, q6⟩ => ?_
        subst e1
        have again : ∀ {H8 : Hp} {zs : List V} {s8 : Shared}, Inv (blk X N' scope cl s3.heap.objs.size s3 (upd H s.heap.objs.size (.lst [])) fp) (pins ++ pinsAt fp s5.heap) (ts' ++ pick σ fr) H8 s8 → W (i + 1) zs H8 →
            ∃ k, k < n - i ∧ ∃ i ys ts H', Inv (blk X N' scope cl s3.heap.objs.size s3 (upd H s.heap.objs.size (.lst [])) fp) pins (ts ++ pick σ fr) H' s8 ∧ ts.length = m ∧ tn i s8.heap ∧ (∀ b ∈ fp, H' b = none) ∧ W i ys H' ∧ k = n - i := fun {H8 zs s8} I8 w8 => by
          refine ⟨n - (i + 1), by omega, i + 1, zs, ts', _, I8.unpinned, lts', T.keep _ _ _ st5 fun b hb o e => (I8.pin (b, o) (List.mem_append_right _ (List.mem_append_right _ (mem_pinsAt hb e)))).1, fun b hb => ?_, w8, rfl⟩
          obtain ⟨o, e, d⟩ := T.obj _ _ st5 b hb
          exact (I8.pin (b, o) (List.mem_append_right _ (List.mem_append_right _ (mem_pinsAt hb e)))).2.1
        refine thn (hq _ _ _ _ s6 _ _ _ I6 q6) fun ok s6' ⟨H6', I6', q6'⟩ => ?_
        cases ok with
        | false => exact again I6' q6'
        | true =>
          refine thn (he _ _ _ _ s6' _ _ _ I6' q6') fun y s7 ⟨vy, H7, I7, ry, hacc, hlen, w7⟩ => ?_
          refine thn (mt_append _ s7 _ H7 (.ref s.heap.objs.size) [vy] (.ref s.heap.objs.size) [y] (fun _ H8 => H8 = upd H7 s.heap.objs.size (.lst (ys ++ [vy]))) I7 rfl (.cons ry .nil) ⟨_, ys, vy, rfl, rfl, hacc, hlen, rfl⟩) fun _ s8 ⟨_, H8, I8, _, e8⟩ => ?_
          subst e8
          exact again I8 w7
    · obtain ⟨o, e, _⟩ := T.obj 0 _ st b hb
      rw [upd_ne (Nat.ne_of_lt (Heap.lt_size e))]
      exact (hf b hb).1
  have e4 : ({ s with heap := h₁, toks := s.toks + ([] : List (Str × Value)).length } : Shared) = { s3 with heap := h₁ } := by rw [← hs3]; rfl
  rw [e4]
  exact codeAny_compStart_list (loop _ rfl) (T.self _ 0 _ _ _ st3 (loop _ rfl))

section
variable {X : Cx} {y : Str} {py pos spos : Pos} {tg : Expr} {g : TG} {m : Nat} {elt iter c : Expr} {scope : Scope} {cl : List (Str × Addr)} {N' : List Str} {fr : List Nat} {wi : TI} {te : TE} {tt : TT}
/-- [elt for x in iter] as a value -/
def tCompG (wi : TI) (m : Nat) (g : TG) (fr : List Nat) (tt : TT) (te : TE) : TE := fun σ H Q => wi σ H fun J H1 => ∀ acc, H1 acc = none → CompG J m g tt te (pick σ fr) Q H1 acc
theorem pe_compG (fr : List Nat) (N' : List Str) (B : BlkG X m fr N' scope cl) (hc : X.calm = true) (hi : PI X tg iter wi) (hg : ∀ C s' H' fp, PG (blk X N' scope cl C s' H' fp) tg g) (hq : ∀ C s' H' fp, PT (blk X N' scope cl C s' H' fp) c tt) (he : ∀ C s' H' fp, PE (blk X N' scope cl C s' H' fp) elt te) (hs : ∀ x, foldedSetIterable iter X.env x = pure x := by intro _; rfl) :
    PE X (.ListComp elt [⟨tg, iter, [c], 0⟩] scope pos) (tCompG wi m g fr tt te) := by
  intro pins s σ H Q I h
  rw [eval_ListComp]
  refine wpAny_comprehension_free (use := none) rfl hs B.clos B.kind B.names (thn (hi pins s σ H _ I h) fun v s1 h1 => thn h1 fun itv s2 h2 => ?_)
  obtain ⟨it, fp, tn, J, H2, e, I2, T, st2, f2, q2⟩ := h2
  subst e
  refine comp_coreG (RR := fun acc C => compPost (model X.prog X.w) X.A X.xe none (EP X pins σ Q) acc C) B hc I2 T st2 f2 (fun C s' H' => hg C s' H' fp) (fun C s' H' => hq C s' H' fp) (fun C s' H' => he C s' H' fp) q2 ?_
  intro acc C H' s' m I' q hn h0 h1 h3 h4 h5
  refine ⟨m, hn, fun h' sb => ⟨.ref acc, H', I'.turned (t' := s'.toks) (fun b o hb e => (sb.2 b hb).trans e) h0 h1 h3 h4 h5, rfl, q⟩⟩
/-- y = [elt for x in iter] in one row -/
def sCompG (i : Nat) (wi : TI) (m : Nat) (g : TG) (fr : List Nat) (tt : TT) (te : TE) : TS := fun D σ H => tCompG wi m g fr tt te σ H fun v H1 => D.nx (σ.set i (some v)) H1
theorem ps_compG {i : Nat} (fr : List Nat) (N' : List Str) (hN : X.N.Nodup) (hi' : X.N[i]? = some y) (hy : X.env.kindOf y = some .local) (B : BlkG X m fr N' scope cl) (hc : X.calm = true) (hi : PI X tg iter wi)
    (hg : ∀ C s' H' fp, PG (blk X N' scope cl C s' H' fp) tg g) (hq : ∀ C s' H' fp, PT (blk X N' scope cl C s' H' fp) c tt) (he : ∀ C s' H' fp, PE (blk X N' scope cl C s' H' fp) elt te) (hsw : swapsWith (.ListComp elt [⟨tg, iter, [c], 0⟩] scope pos) (some (.Name y py)) spos.line X.env = pure true := by rfl) (hs : ∀ x, foldedSetIterable iter X.env x = pure x := by intro _; rfl) :
    PS X (.Assign [.Name y py] (.ListComp elt [⟨tg, iter, [c], 0⟩] scope pos) spos) (sCompG i wi m g fr tt te) := by
  intro pins s σ H D I h
  rw [exec_Assign_Name_used _ _ _ _ hsw]
  refine wpAny_bind (wpAny_standAt (wpAny_bind ?_))
  show wpAny _ X.A (do let _ ← comprehension (.ListComp elt [⟨tg, iter, [c], 0⟩] scope pos) scope X.env _ (newList []) false (eval iter X.env) (some (assign (.Name y py) X.env))) _ _ s
  refine wpAny_bind (wpAny_mono (wpAny_comprehension_free (use := some (assign (.Name y py) X.env)) (Q := fun _ s' => SP X pins D .next s') rfl hs B.clos B.kind B.names (thn (hi pins s σ H _ I h) fun v s1 h1 => thn h1 fun itv s2 h2 => ?_))
    (fun _ s' hq => wpAny_pure (wpAny_pure hq)) fun _ _ e => e)
  obtain ⟨it, fp, tn, J, H2, e, I2, T, st2, f2, q2⟩ := h2
  subst e
  refine comp_coreG (RR := fun acc C => compPost (model X.prog X.w) X.A X.xe (some (assign (.Name y py) X.env)) (fun _ s' => SP X pins D .next s') acc C) B hc I2 T st2 f2 (fun C s' H' => hg C s' H' fp) (fun C s' H' => hq C s' H' fp) (fun C s' H' => he C s' H' fp) q2 ?_
  intro acc C H' s' m I' q hn h0 h1 h3 h4 h5
  show wpAny _ X.A (assign (.Name y py) X.env (.ref acc)) _ _ _
  refine wpAny_assign_Name (store_ok2 (v := .ref acc) I' hN hi' (.inl hy) rfl (fun s'' I'' hsb => ?_) (.inr hy))
  obtain ⟨a, sb, ha⟩ := hsb
  have hCa : C ≠ a := by
    rcases ha with z | z
    · rw [z]; exact h1
    · exact Ne.symm (h4 _ _ z)
  refine ⟨m, hn.sameBut sb hCa, fun h' sb' => ⟨_, H', I''.turned (t' := s''.toks) (fun b o hb e => (sb'.2 b hb).trans e) h0 h1 h3 h4 h5, q⟩⟩
end

end L2

set_option Elab.async false
set_option linter.all false
set_option maxRecDepth 100000
namespace L2
open PySem

/-! ### own words: lines, strokes, deeds as data -/
def LN.D : LN → D
  | .put d p o n => .tup [.str "put", .int d, .int (p : Nat), .int o, .int n]
  | .fin d => .tup [.str "end", .int d]
inductive SM where
  | line (ln : LN)
  | page (p : Nat) (n : Int)
  | cut (k : Nat)
def SM.D : SM → D
  | .line ln => .tup [.str "line", ln.D]
  | .page p n => .tup [.str "page", .int (p : Nat), .int n]
  | .cut k => .tup [.str "cut", .int (k : Nat)]
inductive Deed where
  | begin
  | put (d p n : Int)
  | fin (d : Int)
  | drop (d : Int)
  | look (p : Int)
  | carry (p : Int)
  | cut
def Deed.D : Deed → D
  | .begin => .tup [.str "begin"]
  | .put d p n => .tup [.str "put", .int d, .int p, .int n]
  | .fin d => .tup [.str "end", .int d]
  | .drop d => .tup [.str "drop", .int d]
  | .look p => .tup [.str "look", .int p]
  | .carry p => .tup [.str "carry", .int p]
  | .cut => .tup [.str "cut"]
inductive Ans where
  | num (i : Int)
  | word (x : Str)
def Ans.D : Ans → D
  | .num i => .int i
  | .word x => .str x
def Ans.v : Ans → V
  | .num i => .int i
  | .word x => .str x
/-! data without lists stays where tuples stay -/
mutual
def D.flat : D → Bool
  | .int _ => true
  | .str _ => true
  | .tup l => flats l
  | .lst _ => false
def flats : List D → Bool
  | [] => true
  | d :: r => d.flat && flats r
end
mutual
theorem Rep.keep {H H' : Hp} (k : KeepT H H') : ∀ (d : D) (v : V), d.flat = true → Rep H d v → Rep H' d v
  | .int _, _, _, h => h
  | .str _, _, _, h => h
  | .tup l, _, f, h => by
    unfold Rep at h ⊢
    obtain ⟨a, xs, e, q, r⟩ := h
    unfold D.flat at f
    exact ⟨a, xs, e, k _ _ q, Reps.keep k l xs f r⟩
  | .lst l, _, f, _ => by unfold D.flat at f; cases f
theorem Reps.keep {H H' : Hp} (k : KeepT H H') : ∀ (l : List D) (xs : List V), flats l = true → Reps H l xs → Reps H' l xs
  | [], _, _, h => h
  | d :: r, _, f, h => by
    unfold Reps at h ⊢
    unfold flats at f
    rw [Bool.and_eq_true] at f
    obtain ⟨x, t, e, q, z⟩ := h
    exact ⟨x, t, e, Rep.keep k d x f.1 q, Reps.keep k r t f.2 z⟩
end
theorem flats_map {α : Type} {f : α → D} (h : ∀ a, (f a).flat = true) : ∀ l : List α, flats (l.map f) = true
  | [] => by unfold flats; rfl
  | a :: r => by
    rw [List.map_cons]
    unfold flats
    rw [h a, flats_map h r]
    rfl
theorem LN.D_flat (ln : LN) : ln.D.flat = true := by cases ln <;> rfl
theorem SM.D_flat (s : SM) : s.D.flat = true := by
  cases s with
  | line ln => cases ln <;> rfl
  | page p n => rfl
  | cut k => rfl
theorem Deed.D_flat (d : Deed) : d.D.flat = true := by cases d <;> rfl
theorem Ans.D_flat (a : Ans) : a.D.flat = true := by cases a <;> rfl
theorem Ans.rep {H : Hp} (a : Ans) : Rep H a.D a.v := by
  cases a with
  | num i => exact .ofInt
  | word x => exact .ofStr
/-- the items of a tuple, one after the other -/
theorem rep_tup1 {H : Hp} {a : D} {v : V} (h : Rep H (.tup [a]) v) : ∃ c x, v = .ref c ∧ H c = some (.tup [x]) ∧ Rep H a x := by
  obtain ⟨c, xs, rfl, hc, r⟩ := h.tup_inv
  obtain ⟨x, t, rfl, h1, r⟩ := r.inv
  cases r.inv0
  exact ⟨c, x, rfl, hc, h1⟩
theorem rep_tup2 {H : Hp} {a b : D} {v : V} (h : Rep H (.tup [a, b]) v) : ∃ c x y, v = .ref c ∧ H c = some (.tup [x, y]) ∧ Rep H a x ∧ Rep H b y := by
  obtain ⟨c, xs, rfl, hc, r⟩ := h.tup_inv
  obtain ⟨x, t, rfl, h1, r⟩ := r.inv
  obtain ⟨y, t, rfl, h2, r⟩ := r.inv
  cases r.inv0
  exact ⟨c, x, y, rfl, hc, h1, h2⟩
theorem rep_tup3 {H : Hp} {a b d : D} {v : V} (h : Rep H (.tup [a, b, d]) v) : ∃ c x y z, v = .ref c ∧ H c = some (.tup [x, y, z]) ∧ Rep H a x ∧ Rep H b y ∧ Rep H d z := by
  obtain ⟨c, xs, rfl, hc, r⟩ := h.tup_inv
  obtain ⟨x, t, rfl, h1, r⟩ := r.inv
  obtain ⟨y, t, rfl, h2, r⟩ := r.inv
  obtain ⟨z, t, rfl, h3, r⟩ := r.inv
  cases r.inv0
  exact ⟨c, x, y, z, rfl, hc, h1, h2, h3⟩
theorem rep_tup4 {H : Hp} {a b d e : D} {v : V} (h : Rep H (.tup [a, b, d, e]) v) : ∃ c x y z u, v = .ref c ∧ H c = some (.tup [x, y, z, u]) ∧ Rep H a x ∧ Rep H b y ∧ Rep H d z ∧ Rep H e u := by
  obtain ⟨c, xs, rfl, hc, r⟩ := h.tup_inv
  obtain ⟨x, t, rfl, h1, r⟩ := r.inv
  obtain ⟨y, t, rfl, h2, r⟩ := r.inv
  obtain ⟨z, t, rfl, h3, r⟩ := r.inv
  obtain ⟨u, t, rfl, h4, r⟩ := r.inv
  cases r.inv0
  exact ⟨c, x, y, z, u, rfl, hc, h1, h2, h3, h4⟩
theorem rep_tup5 {H : Hp} {a b d e f : D} {v : V} (h : Rep H (.tup [a, b, d, e, f]) v) : ∃ c x y z u w, v = .ref c ∧ H c = some (.tup [x, y, z, u, w]) ∧ Rep H a x ∧ Rep H b y ∧ Rep H d z ∧ Rep H e u ∧ Rep H f w := by
  obtain ⟨c, xs, rfl, hc, r⟩ := h.tup_inv
  obtain ⟨x, t, rfl, h1, r⟩ := r.inv
  obtain ⟨y, t, rfl, h2, r⟩ := r.inv
  obtain ⟨z, t, rfl, h3, r⟩ := r.inv
  obtain ⟨u, t, rfl, h4, r⟩ := r.inv
  obtain ⟨w, t, rfl, h5, r⟩ := r.inv
  cases r.inv0
  exact ⟨c, x, y, z, u, w, rfl, hc, h1, h2, h3, h4, h5⟩
theorem LNat.ofRep {H : Hp} {ln : LN} {x : V} (h : Rep H ln.D x) : LNat H ln x := by
  cases ln with
  | put d p o n =>
    obtain ⟨c, x1, x2, x3, x4, x5, rfl, hc, h1, h2, h3, h4, h5⟩ := rep_tup5 h
    cases h1.str_inv
    cases h2.int_inv
    cases h3.int_inv
    cases h4.int_inv
    cases h5.int_inv
    exact ⟨c, rfl, hc⟩
  | fin d =>
    obtain ⟨c, x1, x2, rfl, hc, h1, h2⟩ := rep_tup2 h
    cases h1.str_inv
    cases h2.int_inv
    exact ⟨c, rfl, hc⟩
theorem LNat.toRep {H : Hp} {ln : LN} {x : V} (h : LNat H ln x) : Rep H ln.D x := by
  cases ln with
  | put d p o n =>
    obtain ⟨c, rfl, hc⟩ := h
    exact .ofTup hc (.cons .ofStr (.cons .ofInt (.cons .ofInt (.cons .ofInt (.cons .ofInt .nil)))))
  | fin d =>
    obtain ⟨c, rfl, hc⟩ := h
    exact .ofTup hc (.cons .ofStr (.cons .ofInt .nil))
/-! ### own words: the house, as the document tells it -/
structure Hs where
  cellar : List Int
  desk : List Int
  log : List LN
  puts : List (Int × List (Nat × Int))
  room : Int
  begun : Nat
  strokes : List SM
namespace Hs
def isOpen (h : Hs) (d : Int) : Bool := h.puts.any fun z => z.1 == d
def bound (h : Hs) : Int := (h.puts.map fun z => (z.2.length : Int) + 1).sum
def putsOf (h : Hs) (d : Int) : List (Nat × Int) := ((h.puts.find? fun z => z.1 == d).map (·.2)).getD []
def taker (h : Hs) (p : Nat) : Option Int := (h.puts.find? fun z => z.2.any fun y => y.1 == p).map (·.1)
def stroke (h : Hs) (s : SM) : Hs := match s with
  | .line ln => { h with strokes := h.strokes ++ [s], log := h.log ++ [ln] }
  | .page p n => { h with strokes := h.strokes ++ [s], cellar := h.cellar.set p n }
  | .cut k => { h with strokes := h.strokes ++ [s], log := h.log.drop k }
end Hs
/-- the number of lines before the first needed one -/
def needIx (ce de : List Int) (op : Int → Bool) : List LN → Nat
  | [] => 0
  | .fin _ :: r => needIx ce de op r + 1
  | .put d p _ _ :: r => if op d = true ∨ (r.any (onPage p) = false ∧ ce[p]? ≠ de[p]?) then 0 else needIx ce de op r + 1
namespace Hs
def cutIn (h : Hs) : Hs := if 0 < needIx h.cellar h.desk h.isOpen h.log then h.stroke (.cut (needIx h.cellar h.desk h.isOpen h.log)) else h
def carryIn (h : Hs) (p : Nat) : Hs := if h.cellar[p]? = h.desk[p]? then h else h.stroke (.page p (h.desk.getD p 0))
def roomy (h : Hs) (more : Int) : Bool := decide ((h.log.length : Int) + h.bound + more ≤ h.room)
def madeRoom (h : Hs) : Hs := ((List.range h.desk.length).foldl carryIn h).cutIn
def full (h : Hs) (more : Int) : Hs × Bool := if h.roomy more = true then (h, false) else (h.madeRoom, !h.madeRoom.roomy more)
def putIn (h : Hs) (d : Int) (p : Nat) (n : Int) : Hs := { h.stroke (.line (.put d p (h.desk.getD p 0) n)) with desk := h.desk.set p n }
def undo (h : Hs) (d : Int) : Hs := (h.putsOf d).reverse.foldl (fun h z => h.putIn d z.1 z.2) h
def endIn (h : Hs) (d : Int) : Hs := { h.stroke (.line (.fin d)) with puts := h.puts.filter fun z => z.1 != d }
def took (h : Hs) (d : Int) (p : Nat) : Hs := { h with puts := h.puts.map fun z => if z.1 = d then (z.1, z.2 ++ [(p, h.desk.getD p 0)]) else z }
def began (h : Hs) : Hs := { h with begun := h.begun + 1 }
def opened (h : Hs) : Hs := { h with puts := h.puts ++ [(((h.begun : Int) - 1), [])] }
/-- the words of a refusal that is not for room -/
def refusal (h : Hs) : Deed → Option Str
  | .begin => none
  | .put d p _ => if h.isOpen d = false then some "no dealing" else if p < 0 ∨ (h.desk.length : Int) ≤ p then some "no page" else if h.taker p.toNat = none ∨ h.taker p.toNat = some d then none else some "taken"
  | .fin d => if h.isOpen d = false then some "no dealing" else none
  | .drop d => if h.isOpen d = false then some "no dealing" else none
  | .look p => if p < 0 ∨ (h.desk.length : Int) ≤ p then some "no page" else none
  | .carry p => if p < 0 ∨ (h.desk.length : Int) ≤ p then some "no page" else none
  | .cut => none
def deed (h : Hs) : Deed → Hs × Ans
  | .begin => if (h.began.full 1).2 = true then ((h.began.full 1).1, .word "no room") else ((h.began.full 1).1.opened, .num h.begun)
  | .put d p n => if (h.full 2).2 = true then ((h.full 2).1, .word "no room") else ((((h.full 2).1.took d p.toNat).putIn d p.toNat n), .word "done")
  | .fin d => (h.endIn d, .word "done")
  | .drop d => ((h.undo d).endIn d, .word "done")
  | .look p => (h, .num (h.desk.getD p.toNat 0))
  | .carry p => (h.carryIn p.toNat, .word "done")
  | .cut => (h.cutIn, .word "done")
def answered (h : Hs) (x : Deed) : Hs × Ans := match h.refusal x with
  | some w => (h, .word w)
  | none => h.deed x
end Hs
end L2

set_option Elab.async false
set_option linter.all false
set_option maxRecDepth 100000
namespace L2
open PySem

theorem atI_int {ns : List Int} {i : Nat} {v : Int} (h : ns[i]? = some v) : atI (ns.map V.int) ((i : Nat) : Int) = some (.int v) := atI_nat (map_int_get h)
/-! ### own words: the strokes of coming up -/
def pageS (ps ks : List Int) : Nat → List SM
  | 0 => []
  | i + 1 => pageS ps ks i ++ (if ks[i]? = ps[i]? then [] else [SM.page i ((ks[i]?).getD 0)])
def cutS (n : Nat) : List SM := if n = 0 then [] else [.cut n]
def upS (ps ks : List Int) (n : Nat) : List SM := pageS ps ks ks.length ++ cutS n
theorem pageS_len (ps ks : List Int) : ∀ i, (pageS ps ks i).length ≤ i
  | 0 => Nat.le_refl _
  | i + 1 => by
    have := pageS_len ps ks i
    show (pageS ps ks i ++ _).length ≤ _
    rw [List.length_append]
    split
    · rw [List.length_nil]; omega
    · rw [List.length_singleton]; omega
theorem cutS_len (n : Nat) : (cutS n).length ≤ 1 := by
  unfold cutS
  split
  · exact Nat.zero_le _
  · exact Nat.le_refl _
theorem upS_len (ps ks : List Int) (n : Nat) : (upS ps ks n).length ≤ ks.length + 1 := by
  unfold upS
  rw [List.length_append]
  have := pageS_len ps ks ks.length
  have := cutS_len n
  omega
theorem pageS_same {ps ks : List Int} {i : Nat} {k : Int} (h1 : ks[i]? = some k) (h2 : ps[i]? = some k) : pageS ps ks (i + 1) = pageS ps ks i := by
  show pageS ps ks i ++ (if ks[i]? = ps[i]? then [] else _) = _
  rw [if_pos (h1.trans h2.symm), List.append_nil]
theorem pageS_diff {ps ks : List Int} {i : Nat} {k p : Int} (h1 : ks[i]? = some k) (h2 : ps[i]? = some p) (h : ¬ k = p) : pageS ps ks (i + 1) = pageS ps ks i ++ [.page i k] := by
  show pageS ps ks i ++ (if ks[i]? = ps[i]? then [] else _) = _
  rw [if_neg (by rw [h1, h2]; exact fun z => h (Option.some.inj z)), h1]
  rfl
/-- a stroke made anew -/
theorem rep_page {H : Hp} {a : Addr} {p : Nat} {n : Int} (h : H a = some (.tup [.str "page", .int (p : Nat), .int n])) : Rep H (SM.page p n).D (.ref a) :=
  Rep.ofTup h (.cons .ofStr (.cons .ofInt (.cons .ofInt .nil)))
theorem rep_cut {H : Hp} {a : Addr} {k : Nat} (h : H a = some (.tup [.str "cut", .int (k : Nat)])) : Rep H (SM.cut k).D (.ref a) :=
  Rep.ofTup h (.cons .ofStr (.cons .ofInt .nil))
theorem reps_snoc {H : Hp} {l : List SM} {s : SM} {zs : List V} {v : V} (h : Reps H (l.map SM.D) zs) (r : Rep H s.D v) : Reps H ((l ++ [s]).map SM.D) (zs ++ [v]) := by
  rw [List.map_append]
  exact h.append (.cons r .nil)
theorem flat_strokes (l : List SM) : flats (l.map SM.D) = true := flats_map SM.D_flat l
theorem szs_strokes : ∀ l : List SM, szs (l.map SM.D) ≤ l.length * 8
  | [] => by rw [List.map_nil, szs_nil]; exact Nat.zero_le _
  | s :: r => by
    have := szs_strokes r
    rw [List.map_cons, szs_cons, List.length_cons]
    have h : s.D.sz ≤ 8 := by
      cases s with
      | line ln => cases ln <;> exact Nat.le_of_ble_eq_true rfl
      | page p n => exact Nat.le_of_ble_eq_true rfl
      | cut k => exact Nat.le_of_ble_eq_true rfl
    omega
/-- over enumerate of the wanted numbers: a page stroke where they differ -/
theorem compG_pages {K : PySem.W.Frag} {nu : Addr} {ks ps : List Int} {tt : TT} {te : TE} {σ' : St} {Q : VK} {H : Hp} {acc : Addr} (hn : H nu = some (.lst (ks.map V.int))) (h0 : H acc = none) (hz : ks.length ≤ 1000) (hl : ks.length = ps.length)
    (ht : ∀ (i : Nat) (k p : Int) H3 (c : Bool → Hp → Prop), ks[i]? = some k → ps[i]? = some p → Same H H3 → c (!decide (V.int k = V.int p)) H3 → tt (some (.int (i : Nat)) :: some (.int k) :: σ') H3 c)
    (he : ∀ (i : Nat) (k : Int) H3 (c : VK), Same H H3 → (∀ a, H3 a = none → c (.ref a) (upd H3 a (.tup [.str "page", .int (i : Nat), .int k]))) → te (some (.int (i : Nat)) :: some (.int k) :: σ') H3 c)
    (q : ∀ (ys : List V) (H' : Hp), Same H H' → H' acc = some (.lst ys) → Reps H' ((pageS ps ks ks.length).map SM.D) ys → ys.length ≤ ks.length → Q (.ref acc) H') : CompG (Ite K nu) 2 (gTup K 2 (gCons (gName 0) (gCons (gName 1) gNil))) tt te σ' Q H acc := by
  refine ⟨ks.length, fun i ys H2 => i ≤ ks.length ∧ Same H H2 ∧ H2 acc = some (.lst ys) ∧ ys.length ≤ i ∧ Reps H2 ((pageS ps ks i).map SM.D) ys, ⟨Nat.zero_le _, same_new h0 _, upd_same, Nat.le_refl _, .nil⟩, ?_⟩
  rintro i ys H2 ⟨hi, sm, hacc, ly, hr⟩
  have hn2 := sm _ _ hn
  by_cases hlt : i < ks.length
  · have hk : ks[i]? = some ks[i] := List.getElem?_eq_getElem hlt
    have hp : ps[i]? = some (ps[i]'(by omega)) := List.getElem?_eq_getElem (by omega)
    generalize ks[i] = k at hk
    generalize ps[i]'(by omega) = p at hp
    refine .inr ⟨⟨_, .int k, SqL.of hn2, map_int_get hk⟩, hlt, ?_⟩
    rintro v H3 ts ⟨pr, x, npr, rfl, rfl, hx⟩ lts
    have ex : x = .int k := by
      have := hx _ (SqL.of hn2)
      rw [map_int_get hk] at this
      exact (Option.some.inj this).symm
    subst ex
    obtain ⟨t1, t2, rfl⟩ : ∃ t1 t2, ts = [t1, t2] := by
      match ts, lts with
      | [a, b], _ => exact ⟨a, b, rfl⟩
    refine ⟨pr, _, rfl, SqT.of upd_same, rfl, _, _, rfl, _, _, rfl, rfl, [some (.int (i : Nat)), some (.int k)], rfl, rfl, ?_⟩
    have s3 := sm.trans (same_new npr (.tup [.int (i : Nat), .int k]))
    have acc3 := (same_new npr (.tup [.int (i : Nat), .int k])) _ _ hacc
    have r3 := Reps.mono (same_new npr (.tup [.int (i : Nat), .int k])) _ _ hr
    generalize upd H2 pr (.tup [.int (i : Nat), .int k]) = H3 at s3 acc3 r3 ⊢
    refine ht i k p H3 _ hk hp s3 ?_
    by_cases e : k = p
    · subst e
      have d : (!decide (V.int k = V.int k)) = false := by rw [decide_eq_true rfl]; rfl
      rw [d]
      refine iteF ⟨hlt, s3, acc3, by omega, ?_⟩
      rw [pageS_same hk hp]
      exact r3
    · have d : (!decide (V.int k = V.int p)) = true := by rw [decide_eq_false (fun z => e (by injection z))]; rfl
      rw [d]
      refine iteT (he i k H3 _ s3 fun a ha => ?_)
      have naa : a ≠ acc := (ne_of_none acc3 ha).symm
      have s4 := same_new ha (.tup [.str "page", .int (i : Nat), .int k])
      refine ⟨s4 _ _ acc3, Nat.lt_of_le_of_lt (by omega : ys.length ≤ 1000) (by decide), hlt, (s3.trans s4).upd_new h0, upd_same, by rw [List.length_append, List.length_singleton]; omega, ?_⟩
      rw [pageS_diff hk hp e]
      have kt : KeepT (upd H3 a (.tup [.str "page", .int (i : Nat), .int k])) (upd (upd H3 a (.tup [.str "page", .int (i : Nat), .int k])) acc (.lst (ys ++ [.ref a]))) := fun b xs hb => by
        rw [upd_ne (ne_of hb (s4 _ _ acc3) (fun z => nomatch z))]
        exact hb
      refine reps_snoc (Reps.keep kt _ _ (flat_strokes _) (Reps.mono s4 _ _ r3)) (rep_page ?_)
      rw [upd_ne naa, upd_same]
  · have e : i = ks.length := by omega
    subst e
    exact .inl ⟨⟨_, SqL.of hn2, by rw [List.length_map]; exact Nat.le_refl _⟩, q ys H2 sm hacc hr ly⟩
end L2

set_option Elab.async false
set_option linter.all false
set_option maxRecDepth 100000
namespace L2
open PySem

/-! ### own words: strokes by values, and a Cellar -/
inductive SK where
  | line (v : V)
  | page (p : Nat) (n : Int)
  | cut (k : Int)
def SKat (H : Hp) : SK → V → Prop
  | .line v, x => ∃ a, x = .ref a ∧ H a = some (.tup [.str "line", v])
  | .page p n, x => ∃ a, x = .ref a ∧ H a = some (.tup [.str "page", .int (p : Nat), .int n])
  | .cut k, x => ∃ a, x = .ref a ∧ H a = some (.tup [.str "cut", .int k])
def SK.ok (c : Nat) : SK → Prop
  | .page p _ => p < c
  | _ => True
def SK.pg (ps : List V) : SK → List V
  | .page p n => ps.set p (.int n)
  | _ => ps
def SK.lg (ls : List V) : SK → List V
  | .line v => ls ++ [v]
  | .cut k => cutV ls (some k) none
  | _ => ls
theorem SKat.mono {H H' : Hp} (k : KeepT H H') : ∀ {sk : SK} {x : V}, SKat H sk x → SKat H' sk x
  | .line v, x, ⟨a, e, h⟩ => ⟨a, e, k _ _ h⟩
  | .page p n, x, ⟨a, e, h⟩ => ⟨a, e, k _ _ h⟩
  | .cut c, x, ⟨a, e, h⟩ => ⟨a, e, k _ _ h⟩
/-- strokes side by side with the values that stand for them -/
inductive SKs (H : Hp) : List SK → List V → Prop where
  | nil : SKs H [] []
  | snoc {sks : List SK} {xs : List V} {sk : SK} {x : V} (h : SKs H sks xs) (q : SKat H sk x) : SKs H (sks ++ [sk]) (xs ++ [x])
theorem SKs.mono {H H' : Hp} (k : KeepT H H') {sks : List SK} {xs : List V} (h : SKs H sks xs) : SKs H' sks xs := by
  induction h with
  | nil => exact .nil
  | snoc _ q ih => exact .snoc ih (q.mono k)
theorem SKs.len {H : Hp} {sks : List SK} {xs : List V} (h : SKs H sks xs) : sks.length = xs.length := by
  induction h with
  | nil => rfl
  | snoc _ q ih => rw [List.length_append, List.length_append, ih]; rfl
theorem SKs.get {H : Hp} {sks : List SK} {xs : List V} (h : SKs H sks xs) : ∀ (i : Nat) (x : V), xs[i]? = some x → ∃ sk, sks[i]? = some sk ∧ SKat H sk x := by
  induction h with
  | nil => intro i x e; simp at e
  | @snoc sks xs sk x0 h q ih =>
    intro i x e
    have hl := h.len
    by_cases hi : i < xs.length
    · rw [List.getElem?_append_left hi] at e
      obtain ⟨sk', e', q'⟩ := ih i x e
      exact ⟨sk', by rw [List.getElem?_append_left (by omega)]; exact e', q'⟩
    · rw [List.getElem?_append_right (by omega)] at e
      have hi0 : i - xs.length = 0 := by
        cases z : i - xs.length with
        | zero => rfl
        | succ n => rw [z] at e; simp at e
      rw [hi0] at e
      have e' : x0 = x := Option.some.inj e
      subst e'
      refine ⟨sk, ?_, q⟩
      rw [List.getElem?_append_right (by omega), hl, hi0]
      rfl
theorem fold_take {α β : Type} (f : β → α → β) (b : β) (l : List α) (i : Nat) (x : α) (h : l[i]? = some x) : (l.take (i + 1)).foldl f b = f ((l.take i).foldl f b) x := by
  rw [List.take_add_one, h, List.foldl_append]
  rfl
theorem pg_len (sk : SK) (ps : List V) : (SK.pg ps sk).length = ps.length := by
  cases sk with
  | page p n => exact List.length_set
  | _ => rfl
theorem pgs_len : ∀ (sks : List SK) (ps : List V), (sks.foldl SK.pg ps).length = ps.length
  | [], _ => rfl
  | sk :: r, ps => by rw [List.foldl_cons, pgs_len r, pg_len]
theorem lg_len (sk : SK) (ls : List V) : (SK.lg ls sk).length ≤ ls.length + 1 := by
  cases sk with
  | line v => exact Nat.le_of_eq (List.length_append ..)
  | cut k => exact Nat.le_succ_of_le (cutV_length ls _ _)
  | page p n => exact Nat.le_succ _
theorem lgs_len : ∀ (sks : List SK) (ls : List V), (sks.foldl SK.lg ls).length ≤ ls.length + sks.length
  | [], _ => Nat.le_refl _
  | sk :: r, ls => by
    have h1 := lgs_len r (SK.lg ls sk)
    have h2 := lg_len sk ls
    rw [List.foldl_cons, List.length_cons]
    omega
theorem cut_mem {xs : List V} {lo hi : Option Int} {v : V} (h : v ∈ cutV xs lo hi) : v ∈ xs := List.mem_of_mem_drop (List.mem_of_mem_take h)
/-- what the strokes bring into the pages and the log -/
def SK.good (H : Hp) : SK → Prop
  | .line v => Line H v
  | _ => True
theorem pgs_ints : ∀ (sks : List SK) (ps : List V), (∀ v ∈ ps, Atom v) → ∀ v ∈ sks.foldl SK.pg ps, Atom v
  | [], _, h => h
  | sk :: r, ps, h => by
    refine pgs_ints r _ ?_
    cases sk with
    | page p n =>
      intro v hv
      rcases List.mem_or_eq_of_mem_set hv with z | z
      · exact h v z
      · rw [z]; exact .int n
    | _ => exact h
theorem lgs_lines {H : Hp} : ∀ (sks : List SK) (ls : List V), (∀ sk ∈ sks, sk.good H) → (∀ v ∈ ls, Line H v) → ∀ v ∈ sks.foldl SK.lg ls, Line H v
  | [], _, _, h => h
  | sk :: r, ls, hg, h => by
    refine lgs_lines r _ (fun x hx => hg x (List.mem_cons_of_mem _ hx)) ?_
    have g0 := hg sk List.mem_cons_self
    cases sk with
    | line w =>
      intro v hv
      rcases List.mem_append.mp hv with z | z
      · exact h v z
      · rw [List.mem_singleton.mp z]; exact g0
    | cut k => exact fun v hv => h v (cut_mem hv)
    | page p n => exact h
theorem SKat.rep {H : Hp} {sk : SK} {x : V} (h : SKat H sk x) (g : sk.good H) : ∃ d, Rep H d x ∧ d.sz ≤ 9 := by
  cases sk with
  | line v =>
    obtain ⟨a, rfl, e⟩ := h
    obtain ⟨d, r, z⟩ := Line.rep (show Line H v from g)
    exact ⟨.tup [.str "line", d], .ofTup e (.cons .ofStr (.cons r .nil)), by rw [sz_tup, szs_cons, szs_cons, szs_nil, sz_str]; omega⟩
  | page p n =>
    obtain ⟨a, rfl, e⟩ := h
    exact ⟨.tup [.str "page", .int p, .int n], .ofTup e (.cons .ofStr (.cons .ofInt (.cons .ofInt .nil))), by rw [sz_tup, szs_cons, szs_cons, szs_cons, szs_nil, sz_str, sz_int, sz_int]; omega⟩
  | cut k =>
    obtain ⟨a, rfl, e⟩ := h
    exact ⟨.tup [.str "cut", .int k], .ofTup e (.cons .ofStr (.cons .ofInt .nil)), by rw [sz_tup, szs_cons, szs_cons, szs_nil, sz_str, sz_int]; omega⟩
theorem SKs.rep {H : Hp} {sks : List SK} {xs : List V} (h : SKs H sks xs) (g : ∀ sk ∈ sks, sk.good H) : ∀ v ∈ xs, ∃ d, Rep H d v ∧ d.sz ≤ 9 := by
  induction h with
  | nil => intro v hv; simp at hv
  | @snoc sks xs sk x h q ih =>
    intro v hv
    rcases List.mem_append.mp hv with z | z
    · exact ih (fun s hs => g s (List.mem_append_left _ hs)) v z
    · rw [List.mem_singleton.mp z]
      exact q.rep (g sk (List.mem_append_right _ (List.mem_singleton.mpr rfl)))
theorem pl_ne : ¬ (V.str "page" = V.str "line") := by decide +kernel
theorem cl_ne : ¬ (V.str "cut" = V.str "line") := by decide +kernel
theorem cp_ne : ¬ (V.str "cut" = V.str "page") := by decide +kernel
theorem pc_ne : ¬ (V.str "page" = V.str "cut") := by decide +kernel
theorem take_all {H : Hp} {sks : List SK} {xs : List V} (h : SKs H sks xs) : sks.take xs.length = sks := by
  rw [← h.len]
  exact List.take_length
def spOne : Sp := fun vs H Q _ => ∃ (p l : Addr) (x : V) (ps ls : List V) (sk : SK), vs = [.ref p, .ref l, x] ∧ H p = some (.lst ps) ∧ H l = some (.lst ls) ∧ SKat H sk x ∧ sk.ok ps.length ∧ ps.length ≤ 100 ∧ ls.length ≤ 1000 ∧
  ∀ (r p' l' : Addr) (H' : Hp), Same H H' → H' r = some (.tup [.ref p', .ref l']) → H' p' = some (.lst (SK.pg ps sk)) → H' l' = some (.lst (SK.lg ls sk)) → Q (.ref r) H'
def spAll : Sp := fun vs H Q _ => ∃ (p l s : Addr) (ps ls xs : List V) (sks : List SK), vs = [.ref p, .ref l, .ref s] ∧ H p = some (.lst ps) ∧ H l = some (.lst ls) ∧ H s = some (.lst xs) ∧ SKs H sks xs ∧ (∀ sk ∈ sks, sk.ok ps.length) ∧ ps.length ≤ 100 ∧ ls.length ≤ 100 ∧ sks.length ≤ 100 ∧
  ∀ (r p' l' : Addr) (H' : Hp), Same H H' → H' r = some (.tup [.ref p', .ref l']) → H' p' = some (.lst (sks.foldl SK.pg ps)) → H' l' = some (.lst (sks.foldl SK.lg ls)) → Q (.ref r) H'
/-- behind: the log may grow as long as it stays below 2000 lines -/
def spBehind : Sp := fun vs H Q _ => ∃ (p l s : Addr) (ps ls xs : List V) (sks : List SK), vs = [.ref p, .ref l, .ref s] ∧ H p = some (.lst ps) ∧ H l = some (.lst ls) ∧ H s = some (.lst xs) ∧ SKs H sks xs ∧ (∀ sk ∈ sks, sk.ok ps.length) ∧ (∀ i, ((sks.take i).foldl SK.lg ls).length ≤ 1999) ∧
  ∀ (r p' l' : Addr) (H' : Hp), Same H H' → H p' = none → H l' = none → p' ≠ l' → H' r = some (.tup [.ref p', .ref l']) → H' p' = some (.lst (sks.foldl SK.pg ps)) → H' l' = some (.lst (sks.foldl SK.lg ls)) → Q (.ref r) H'
theorem spAll_behind {vs : List V} {H : Hp} {Q : VK} {E : XK} (h : spAll vs H Q E) : spBehind vs H Q E := by
  obtain ⟨p, l, s, ps, ls, xs, sks, e, hp, hl, hs, hS, hok, zp, zl, zs, q⟩ := h
  refine ⟨p, l, s, ps, ls, xs, sks, e, hp, hl, hs, hS, hok, fun i => ?_, fun r p' l' H' s _ _ _ => q r p' l' H' s⟩
  have h1 := lgs_len (sks.take i) ls
  rw [List.length_take] at h1
  omega
/-! ### a Cellar -/
theorem lp_ne : ¬ (("log" : Str) = "pages") := by decide +kernel
theorem pl2_ne : ¬ (("pages" : Str) = "log") := by decide +kernel
def cflds (pg lg : Addr) : List (Str × V) := putF "log" (.ref lg) (putF "pages" (.ref pg) [])
theorem cflds_eq (pg lg : Addr) : cflds pg lg = ([("pages", V.ref pg), ("log", V.ref lg)] : List (Str × V)) := by
  show (if ("pages" : Str) = "log" then [(("pages" : Str), V.ref lg)] else (("pages" : Str), V.ref pg) :: putF "log" (V.ref lg) []) = _
  rw [if_neg pl2_ne]
  rfl
theorem cflds_pages (pg lg : Addr) : (cflds pg lg).lookup ("pages" : Str) = some (.ref pg) := by
  unfold cflds
  rw [lookup_putF, if_neg pl2_ne, lookup_putF, if_pos rfl]
theorem cflds_log (pg lg : Addr) : (cflds pg lg).lookup ("log" : Str) = some (.ref lg) := by
  unfold cflds
  rw [lookup_putF, if_pos rfl]
theorem cflds_no (pg lg : Addr) {m : Str} (h1 : ¬ m = "log") (h2 : ¬ m = "pages") : (cflds pg lg).lookup m = none := by
  unfold cflds
  rw [lookup_putF, if_neg h1, lookup_putF, if_neg h2]
  rfl
theorem cflds_put (pg lg lg' : Addr) : putF "log" (.ref lg') (cflds pg lg) = cflds pg lg' := by
  rw [cflds_eq, cflds_eq]
  show (if ("pages" : Str) = "log" then _ else (("pages" : Str), V.ref pg) :: (if ("log" : Str) = "log" then [(("log" : Str), V.ref lg')] else _)) = _
  rw [if_neg pl2_ne, if_pos rfl]
structure CellAt (C : Addr) (H : Hp) (c pg lg : Addr) (ps ls : List V) : Prop where
  ob : ∃ dx, H c = some (.ins C dx (cflds pg lg))
  hp : H pg = some (.lst ps)
  hl : H lg = some (.lst ls)
  ne : pg ≠ lg
structure TxtCellar (K : PySem.W.Frag) (mg : Str → Option Value) (C : Addr) : Prop where
  cl : Cls K C
  nP : NoAttr K C "pages"
  nL : NoAttr K C "log"
  mgC : mg "Cellar" = some (.ref C)
def spCInit (C : Addr) : Sp := fun vs H Q _ => ∃ (c dx a b : Addr) (ps ls : List V), vs = [.ref c, .ref a, .ref b] ∧ H c = some (.ins C dx []) ∧ H a = some (.lst ps) ∧ H b = some (.lst ls) ∧
  ∀ (pg lg : Addr) (H' : Hp), H pg = none → H lg = none → CellAt C H' c pg lg ps ls → (∀ b o, H b = some o → b ≠ c → H' b = some o) → Q .non H'
def spDo (C : Addr) : Sp := fun vs H Q _ => ∃ (c pg lg : Addr) (x : V) (ps ls : List V) (sk : SK), vs = [.ref c, x] ∧ CellAt C H c pg lg ps ls ∧ SKat H sk x ∧ sk.ok ps.length ∧ ls.length ≤ 1999 ∧
  ∀ (lg' : Addr) (H' : Hp), CellAt C H' c pg lg' (SK.pg ps sk) (SK.lg ls sk) → (lg' = lg ∨ H lg' = none) → (∀ b o, H b = some o → b ≠ c → b ≠ pg → b ≠ lg → H' b = some o) → Q .non H'
end L2

set_option Elab.async false
set_option linter.all false
set_option maxRecDepth 100000
namespace L2
open PySem

/-! ### own words: coming up, stopped -/
theorem wantP_idem (log : List LN) (q : Nat) (v : Int) : wantP log q (wantP log q v) = wantP log q v := by
  unfold wantP
  cases firstLost log log q with
  | some x => rfl
  | none =>
    cases lastNew log q none with
    | some x => rfl
    | none => rfl
theorem wantP_nil (q : Nat) (v : Int) : wantP [] q v = v := rfl
/-- what is wanted of each page -/
def Wt (ps : List Int) (log : List LN) (ks : List Int) : Prop := ks.length = ps.length ∧ ∀ (q : Nat) (v : Int), ps[q]? = some v → ks[q]? = some (wantP log q v)
theorem Wt.uniq {ps : List Int} {log : List LN} {ks ks' : List Int} (h : Wt ps log ks) (h' : Wt ps log ks') : ks' = ks := by
  refine List.ext_getElem? fun q => ?_
  by_cases hq : q < ps.length
  · rw [h.2 q _ (List.getElem?_eq_getElem hq), h'.2 q _ (List.getElem?_eq_getElem hq)]
  · rw [List.getElem?_eq_none (by rw [h'.1]; omega), List.getElem?_eq_none (by rw [h.1]; omega)]
theorem Wt.done (ks : List Int) : Wt ks [] ks := ⟨rfl, fun q v h => h⟩
def pgF (ps : List Int) : SM → List Int
  | .page p n => ps.set p n
  | _ => ps
theorem pgF_len (ps : List Int) (s : SM) : (pgF ps s).length = ps.length := by
  cases s with
  | page p n => exact List.length_set ..
  | line _ => rfl
  | cut _ => rfl
theorem pgFs_len : ∀ (l : List SM) (ps : List Int), (l.foldl pgF ps).length = ps.length
  | [], _ => rfl
  | s :: r, ps => by rw [List.foldl_cons, pgFs_len r, pgF_len]
theorem pageS_all {ps ks : List Int} (hl : ks.length = ps.length) : ∀ i, i ≤ ks.length → ∀ q : Nat, ((pageS ps ks i).foldl pgF ps)[q]? = if q < i then ks[q]? else ps[q]?
  | 0, _, q => by
    rw [if_neg (Nat.not_lt_zero _)]
    rfl
  | i + 1, hi, q => by
    have ih := pageS_all hl i (by omega)
    have hk : ks[i]? = some ks[i] := List.getElem?_eq_getElem (by omega)
    have hp : ps[i]? = some (ps[i]'(by omega)) := List.getElem?_eq_getElem (by omega)
    generalize ks[i] = k at hk
    generalize ps[i]'(by omega) = p at hp
    by_cases e : k = p
    · subst e
      rw [pageS_same hk hp, ih q]
      by_cases hq : q < i
      · rw [if_pos hq, if_pos (by omega)]
      · rw [if_neg hq]
        by_cases z : q = i
        · subst z
          rw [if_pos (by omega), hk, hp]
        · rw [if_neg (by omega)]
    · rw [pageS_diff hk hp e, List.foldl_append]
      show (((pageS ps ks i).foldl pgF ps).set i k)[q]? = _
      by_cases z : q = i
      · subst z
        rw [if_pos (by omega), hk, List.getElem?_set_self (by rw [pgFs_len]; omega)]
      · rw [List.getElem?_set_ne (Ne.symm z), ih q]
        by_cases hq : q < i
        · rw [if_pos hq, if_pos (by omega)]
        · rw [if_neg hq, if_neg (by omega)]
theorem pageS_full {ps ks : List Int} (hl : ks.length = ps.length) : (pageS ps ks ks.length).foldl pgF ps = ks := by
  refine List.ext_getElem? fun q => ?_
  rw [pageS_all hl _ (Nat.le_refl _)]
  by_cases hq : q < ks.length
  · rw [if_pos hq]
  · rw [if_neg hq, List.getElem?_eq_none (by omega), List.getElem?_eq_none (by omega)]
theorem pageS_mem {ps ks : List Int} : ∀ {i : Nat} {s : SM}, s ∈ pageS ps ks i → i ≤ ks.length → ∃ q k, s = .page q k ∧ q < i ∧ ks[q]? = some k
  | 0, s, h, _ => by cases h
  | i + 1, s, h, hi => by
    rcases List.mem_append.mp h with z | z
    · obtain ⟨q, k, e, h1, h2⟩ := pageS_mem z (by omega)
      exact ⟨q, k, e, by omega, h2⟩
    · have hk : ks[i]? = some ks[i] := List.getElem?_eq_getElem (by omega)
      rw [hk] at z
      split at z
      · cases z
      · rw [List.mem_singleton.mp z]
        exact ⟨i, ks[i], rfl, by omega, hk⟩
/-- some of the pages are as wanted, the others as before -/
theorem part_of {ps ks : List Int} : ∀ (l : List SM) (qs : List Int), qs.length = ps.length → (∀ s ∈ l, ∃ q k, s = SM.page q k ∧ ks[q]? = some k) → (∀ q : Nat, qs[q]? = ps[q]? ∨ qs[q]? = ks[q]?) → ∀ q : Nat, (l.foldl pgF qs)[q]? = ps[q]? ∨ (l.foldl pgF qs)[q]? = ks[q]?
  | [], qs, _, _, h => h
  | s :: r, qs, hl, hs, h => by
    obtain ⟨q0, k, rfl, hk⟩ := hs s List.mem_cons_self
    refine part_of r (qs.set q0 k) (by rw [List.length_set]; exact hl) (fun s hm => hs s (List.mem_cons_of_mem _ hm)) fun q => ?_
    by_cases z : q = q0
    · subst z
      by_cases hq : q < qs.length
      · rw [List.getElem?_set_self hq]
        exact .inr hk.symm
      · rw [List.getElem?_eq_none (by rw [List.length_set]; omega), List.getElem?_eq_none (by omega)]
        exact .inl rfl
    · rw [List.getElem?_set_ne (Ne.symm z)]
      exact h q
theorem Wt.part {ps qs ks : List Int} {log : List LN} (h : Wt ps log ks) (hl : qs.length = ps.length) (hq : ∀ q : Nat, qs[q]? = ps[q]? ∨ qs[q]? = ks[q]?) : Wt qs log ks := by
  refine ⟨h.1.trans hl.symm, fun q v hv => ?_⟩
  have hp : q < ps.length := by
    have := (List.getElem?_eq_some_iff.mp hv).1
    omega
  have e := h.2 q _ (List.getElem?_eq_getElem hp)
  rcases hq q with z | z
  · rw [hv] at z
    exact h.2 q v z.symm
  · rw [hv, e] at z
    have z' : v = wantP log q ps[q] := Option.some.inj z
    rw [z', wantP_idem]
    exact e
/-- pages and log behind the first h strokes of coming up -/
def upTo (ps ks : List Int) (log : List LN) (h : Nat) : List Int × List LN :=
  if (upS ps ks log.length).length ≤ h then (ks, []) else (((upS ps ks log.length).take h).foldl pgF ps, log)
theorem upS_take {ps ks : List Int} {n h : Nat} (hh : h < (upS ps ks n).length) : (upS ps ks n).take h = (pageS ps ks ks.length).take h := by
  unfold upS at hh ⊢
  rw [List.length_append] at hh
  have := cutS_len n
  rw [List.take_append_of_le_length (by omega)]
theorem upTo_wt {ps ks : List Int} {log : List LN} (h : Wt ps log ks) (j : Nat) : Wt (upTo ps ks log j).1 (upTo ps ks log j).2 ks := by
  unfold upTo
  split
  · exact Wt.done ks
  · rename_i z
    rw [upS_take (by omega)]
    refine h.part (pgFs_len _ _) (part_of _ _ rfl (fun s hs => ?_) fun q => .inl rfl)
    obtain ⟨q, k, e, _, hk⟩ := pageS_mem (List.mem_of_mem_take hs) (Nat.le_refl _)
    exact ⟨q, k, e, hk⟩
theorem upTo_len {ps ks : List Int} {log : List LN} (h : ks.length = ps.length) (j : Nat) : (upTo ps ks log j).1.length = ps.length := by
  unfold upTo
  split
  · exact h
  · exact pgFs_len _ _
theorem upTo_log {ps ks : List Int} {log : List LN} {j : Nat} {ln : LN} (h : ln ∈ (upTo ps ks log j).2) : ln ∈ log := by
  unfold upTo at h
  split at h
  · cases h
  · exact h
theorem upTo_loglen (ps ks : List Int) (log : List LN) (j : Nat) : (upTo ps ks log j).2.length ≤ log.length := by
  unfold upTo
  split
  · exact Nat.zero_le _
  · exact Nat.le_refl _
theorem upTo_full {ps ks : List Int} {log : List LN} {j : Nat} (hj : ks.length + 1 ≤ j) : upTo ps ks log j = (ks, []) := by
  unfold upTo
  rw [if_pos (Nat.le_trans (upS_len ps ks log.length) hj)]
/-! strokes as data, and by values -/
def SM.sk : SM → SK
  | .line _ => .cut 0
  | .page p n => .page p n
  | .cut k => .cut (k : Nat)
def SM.noLine : SM → Prop
  | .line _ => False
  | _ => True
theorem sk_at {H : Hp} {s : SM} {v : V} (h : Rep H s.D v) (n : s.noLine) : SKat H s.sk v := by
  cases s with
  | line ln => exact n.elim
  | page p n =>
    obtain ⟨c, x, y, z, rfl, hc, h1, h2, h3⟩ := rep_tup3 h
    cases h1.str_inv
    cases h2.int_inv
    cases h3.int_inv
    exact ⟨c, rfl, hc⟩
  | cut k =>
    obtain ⟨c, x, y, rfl, hc, h1, h2⟩ := rep_tup2 h
    cases h1.str_inv
    cases h2.int_inv
    exact ⟨c, rfl, hc⟩
theorem upS_noLine {ps ks : List Int} {n : Nat} {s : SM} (h : s ∈ upS ps ks n) : s.noLine := by
  rcases List.mem_append.mp h with z | z
  · obtain ⟨q, k, rfl, _⟩ := pageS_mem z (Nat.le_refl _)
    trivial
  · unfold cutS at z
    split at z
    · cases z
    · rw [List.mem_singleton.mp z]
      trivial
theorem upS_ok {ps ks : List Int} {n : Nat} (hl : ks.length = ps.length) {s : SM} (h : s ∈ upS ps ks n) : s.sk.ok ps.length := by
  rcases List.mem_append.mp h with z | z
  · obtain ⟨q, k, rfl, hq, _⟩ := pageS_mem z (Nat.le_refl _)
    show q < ps.length
    omega
  · unfold cutS at z
    split at z
    · cases z
    · rw [List.mem_singleton.mp z]
      trivial
/-- the pages by values -/
theorem pg_vals : ∀ (l : List SM) (ps : List Int), (∀ s ∈ l, s.noLine) → (l.map SM.sk).foldl SK.pg (ps.map V.int) = (l.foldl pgF ps).map V.int
  | [], _, _ => rfl
  | s :: r, ps, h => by
    rw [List.map_cons, List.foldl_cons, List.foldl_cons, ← pg_vals r (pgF ps s) fun s hs => h s (List.mem_cons_of_mem _ hs)]
    congr 1
    cases s with
    | line ln => exact (h _ List.mem_cons_self).elim
    | page p n => exact map_int_set ..
    | cut k => rfl
theorem lg_pages : ∀ (l : List SM) (ls : List V), (∀ s ∈ l, ∃ q k, s = SM.page q k) → (l.map SM.sk).foldl SK.lg ls = ls
  | [], _, _ => rfl
  | s :: r, ls, h => by
    obtain ⟨q, k, rfl⟩ := h s List.mem_cons_self
    exact lg_pages r ls fun s hs => h s (List.mem_cons_of_mem _ hs)
/-- pages and log by values behind the first j strokes of coming up -/
theorem upTo_pages {ps ks : List Int} {log : List LN} (hl : ks.length = ps.length) (j : Nat) : (((upS ps ks log.length).take j).map SM.sk).foldl SK.pg (ps.map V.int) = (upTo ps ks log j).1.map V.int := by
  rw [pg_vals _ _ fun s hs => upS_noLine (List.mem_of_mem_take hs)]
  unfold upTo
  split
  · rename_i z
    rw [List.take_of_length_le z]
    unfold upS
    rw [List.foldl_append, pageS_full hl]
    unfold cutS
    split <;> rfl
  · rfl
theorem upTo_logV {ps ks : List Int} {log : List LN} {ls : List V} (hl : log.length = ls.length) (j : Nat) : (((upS ps ks log.length).take j).map SM.sk).foldl SK.lg ls = if (upS ps ks log.length).length ≤ j then [] else ls := by
  have pgs : ∀ s ∈ pageS ps ks ks.length, ∃ q k, s = SM.page q k := fun s hs => by
    obtain ⟨q, k, e, _⟩ := pageS_mem hs (Nat.le_refl _)
    exact ⟨q, k, e⟩
  split
  · rename_i z
    rw [List.take_of_length_le z]
    unfold upS
    rw [List.map_append, List.foldl_append, lg_pages _ _ pgs]
    unfold cutS
    split
    · rename_i e
      show ls = []
      exact List.eq_nil_of_length_eq_zero (by omega)
    · show cutV ls (some ((log.length : Nat) : Int)) none = []
      rw [cut_nat, List.drop_eq_nil_of_le (by omega)]
  · rename_i z
    rw [upS_take (by omega)]
    exact lg_pages _ _ fun s hs => pgs s (List.mem_of_mem_take hs)
theorem sks_of' {H : Hp} : ∀ (n : Nat) {l : List SM} {zs : List V}, l.length = n → Reps H (l.map SM.D) zs → (∀ s ∈ l, s.noLine) → SKs H (l.map SM.sk) zs
  | 0, l, zs, e, h, _ => by
    have e' := List.eq_nil_of_length_eq_zero e
    subst e'
    rw [Reps.inv0 h]
    exact .nil
  | n + 1, l, zs, e, h, nl => by
    have hne : l ≠ [] := fun z => by rw [z] at e; cases e
    have el := List.dropLast_concat_getLast hne
    generalize l.dropLast = l' at el
    generalize l.getLast hne = s at el
    subst el
    rw [List.map_append] at h ⊢
    obtain ⟨ys, x, rfl, h1, h2⟩ := Reps.snoc h
    have e' : l'.length = n := by rw [List.length_append, List.length_singleton] at e; omega
    exact .snoc (sks_of' n e' h1 fun s hs => nl s (List.mem_append_left _ hs)) (sk_at h2 (nl s (List.mem_append_right _ (List.mem_singleton.mpr rfl))))
theorem sks_of {H : Hp} {l : List SM} {zs : List V} (h : Reps H (l.map SM.D) zs) (n : ∀ s ∈ l, s.noLine) : SKs H (l.map SM.sk) zs := sks_of' _ rfl h n
theorem reps_take {H : Hp} : ∀ {l : List D} {zs : List V} (j : Nat), Reps H l zs → Reps H (l.take j) (zs.take j)
  | [], zs, j, h => by
    rw [h.inv0, List.take_nil, List.take_nil]
    exact .nil
  | d :: r, zs, 0, h => by
    rw [List.take_zero, List.take_zero]
    exact .nil
  | d :: r, zs, j + 1, h => by
    obtain ⟨x, t, rfl, h1, h2⟩ := h.inv
    rw [List.take_succ_cons, List.take_succ_cons]
    exact .cons h1 (reps_take j h2)
theorem cut_to (xs : List V) (k : Nat) : cutV xs none (some (k : Int)) = xs.take k := by
  by_cases h : k ≤ xs.length
  · rw [cut_before (by omega) (by omega)]
    rfl
  · unfold cutV
    rw [HT.sIx_none, HT.sIx_nat, Nat.min_eq_right (by omega), List.drop_zero, Nat.sub_zero, List.take_length, List.take_of_length_le (by omega)]
end L2

set_option Elab.async false
set_option linter.all false
set_option maxRecDepth 100000
namespace K07
open PySem L2
/-! ### the text by places -/
def top (i : Nat) : Stmt := PySem.Challenge.pw_quillhouse_k07_whole_stopped_in_coming_u.main.body.getD i (.Pass ⟨0, 0, 0, 0⟩)
abbrev sBehind : Stmt := top 2
abbrev sWant : Stmt := top 4
abbrev sUp : Stmt := top 5
abbrev sCame : Stmt := top 7
abbrev sDraw : Stmt := top 9
abbrev sWhole : Stmt := top 10
abbrev sAt : Stmt := top 11
abbrev sAlike : Stmt := top 12
abbrev sOne : Stmt := top 13
abbrev sRep : Stmt := top 14
abbrev sIsLine : Stmt := top 15
abbrev sIsStroke : Stmt := top 16
abbrev sAre : Stmt := top 17
abbrev sLogOf : Stmt := top 18
abbrev sWrit : Stmt := top 19
abbrev sSome : Stmt := top 20
abbrev sCount : Stmt := top 21
abbrev sLaw : Stmt := top 22
abbrev sCInit : Stmt := inClass (top 1) 0
abbrev sDo : Stmt := inClass (top 1) 1
/-! ### small facts -/
theorem ifT {c A B : Prop} [Decidable c] (hc : c) (h : A) : if decide c = true then A else B := by
  rw [decide_eq_true hc]
  exact iteT h
theorem ifF {c A B : Prop} [Decidable c] (hc : ¬ c) (h : B) : if decide c = true then A else B := by
  rw [decide_eq_false hc]
  exact iteF h
theorem ifNT {c A B : Prop} [Decidable c] (hc : ¬ c) (h : A) : if (!decide c) = true then A else B := by
  rw [decide_eq_false hc]
  exact iteT h
theorem bList : bootBuiltins "list" = some (.type "list") := by decide +kernel
theorem bTuple : bootBuiltins "tuple" = some (.type "tuple") := by decide +kernel
theorem bInt : bootBuiltins "int" = some (.type "int") := by decide +kernel
theorem bStr : bootBuiltins "str" = some (.type "str") := by decide +kernel
theorem bBool : bootBuiltins "bool" = some (.type "bool") := by decide +kernel
theorem bDict : bootBuiltins "dict" = some (.type "dict") := by decide +kernel
theorem bIsi : bootBuiltins "isinstance" = some (.builtin "isinstance") := by decide +kernel
section
variable (K : PySem.W.Frag)
theorem isi_int_int : PySem.W.kitOne K (.type "int") (.type "int") = some true := by kernel_rfl
theorem isi_int_bool : PySem.W.kitOne K (.type "int") (.type "bool") = some false := by kernel_rfl
theorem isi_int_str : PySem.W.kitOne K (.type "int") (.type "str") = some false := by kernel_rfl
theorem isi_str_str : PySem.W.kitOne K (.type "str") (.type "str") = some true := by kernel_rfl
theorem isi_list_list : PySem.W.kitOne K (.type "list") (.type "list") = some true := by kernel_rfl
theorem isi_list_tuple : PySem.W.kitOne K (.type "list") (.type "tuple") = some false := by kernel_rfl
theorem isi_tuple_list : PySem.W.kitOne K (.type "tuple") (.type "list") = some false := by kernel_rfl
theorem isi_tuple_tuple : PySem.W.kitOne K (.type "tuple") (.type "tuple") = some true := by kernel_rfl
theorem isa_int : PySem.W.kitAny K (.type "int") ([ "list", "tuple"].map Value.type) = some false := by kernel_rfl
theorem isa_str : PySem.W.kitAny K (.type "str") ([ "list", "tuple"].map Value.type) = some false := by kernel_rfl
theorem isa_list : PySem.W.kitAny K (.type "list") ([ "list", "tuple"].map Value.type) = some true := by kernel_rfl
theorem isa_tuple : PySem.W.kitAny K (.type "tuple") ([ "list", "tuple"].map Value.type) = some true := by kernel_rfl
end
/-- the built-in names that no def of the text hides -/
structure Blt (mg : Str → Option Value) : Prop where
  lst : mg "list" = none
  tup : mg "tuple" = none
  int : mg "int" = none
  str : mg "str" = none
  bl : mg "bool" = none
  isi : mg "isinstance" = none
  len : mg "len" = none
  rng : mg "range" = none
  enu : mg "enumerate" = none
  dct : mg "dict" = none
  rev : mg "reversed" = none
/-! ### the promises of the law's small defs -/
def spDraw : Sp := fun vs H Q _ => ∃ n p m : Int, vs = [.int n, .int p, .int m] ∧ 0 < p ∧ 0 < m ∧ ∀ r : Int, 0 ≤ r → r < m → Q (.int r) H
def spWhole : Sp := fun vs H Q _ => ∃ i : Int, vs = [.int i] ∧ Q (.bl true) H
def spAt (K : PySem.W.Frag) : Sp := fun vs H Q _ => ∃ (a : Addr) (ns : List Int) (k : Int), vs = [.ref a, .int k] ∧ SqL K H a (ns.map V.int) ∧ 0 ≤ k ∧ ∀ z : Int, Q (.int z) H
def spAlike : Sp := fun vs H Q _ => ∃ (x y : V) (d : D), vs = [x, y] ∧ Rep H d x ∧ Rep H d y ∧ d.sz ≤ 5000 ∧ ∀ H', Same H H' → Q (.bl true) H'
section
variable {P : Program} {w : World} {K : PySem.W.Frag} {mg : Str → Option Value} {base : Heap} {f : Addr} {fd : FuncData}
/-! ### the law's small defs -/
theorem scDraw : FnScope ["_law_number", "_law_prime", "_law_many"] ["_law_number", "_law_prime", "_law_many"] (defScope sDraw) := ⟨rfl, rfl, rfl, by decide +kernel, rfl, by decide +kernel, by decide +kernel⟩
theorem ok_draw (F : Fun K "_law_draw" "_law_draw" sDraw f fd) : FnOk P w K mg base CX0 1 f fd ["_law_number", "_law_prime", "_law_many"] spDraw := by
  refine F.ok scDraw (fun vs H Q E h => ?_) (fun cdv A outer s H vs Q E hr h => ?_)
  · obtain ⟨n, p, m, rfl, _⟩ := h
    rfl
  obtain ⟨n, p, m, rfl, hp, hm, q⟩ := h
  refine ⟨_, pss_one (ps_ret (pe_op op_mod (pe_op op_mod (pe_op op_mul (pv 0) pe_int) (pv 1)) (pv 2))), ?_⟩
  refine ⟨_, rfl, _, _, rfl, rfl, .inr ⟨by decide, by decide⟩, _, rfl, _, _, rfl, rfl, hp, _, rfl, _, _, rfl, rfl, hm, ?_⟩
  exact q _ (Int.emod_nonneg _ (by omega)) (Int.emod_lt_of_pos _ hm)
theorem scWhole : FnScope ["_law_found"] ["_law_found"] (defScope sWhole) := ⟨rfl, rfl, rfl, by decide +kernel, rfl, by decide +kernel, by decide +kernel⟩
theorem ok_whole (F : Fun K "_law_whole" "_law_whole" sWhole f fd) (B : Blt mg) : FnOk P w K mg base CX0 1 f fd ["_law_found"] spWhole := by
  refine F.ok scWhole (fun vs H Q E h => ?_) (fun cdv A outer s H vs Q E hr h => ?_)
  · obtain ⟨i, rfl, _⟩ := h
    rfl
  obtain ⟨i, rfl, q⟩ := h
  refine ⟨_, pss_one (ps_ret (pe_and (pe_callB call_isi rfl B.isi bIsi (pa_cons (pv 0) (pa_cons (pe_bltn (v := .ty "int") rfl B.int bInt rfl) pa_nil)))
    (pe_one (pe_not (pe_callB call_isi rfl B.isi bIsi (pa_cons (pv 0) (pa_cons (pe_bltn (v := .ty "bool") rfl B.bl bBool rfl) pa_nil))))))), ?_⟩
  refine ⟨_, rfl, _, _, _, _, rfl, .int i, isi_int_int K, _, rfl, iteT ?_⟩
  exact ⟨_, rfl, _, _, _, _, rfl, .int i, isi_int_bool K, _, rfl, q⟩
theorem scAt : FnScope ["_law_script", "_law_k"] ["_law_script", "_law_k"] (defScope sAt) := ⟨rfl, rfl, rfl, by decide +kernel, rfl, by decide +kernel, by decide +kernel⟩
theorem ok_at (F : Fun K "_law_at" "_law_at" sAt f fd) (B : Blt mg) : FnOk P w K mg base CX0 1 f fd ["_law_script", "_law_k"] (spAt K) := by
  refine F.ok scAt (fun vs H Q E h => ?_) (fun cdv A outer s H vs Q E hr h => ?_)
  · obtain ⟨a, ns, k, rfl, _⟩ := h
    rfl
  obtain ⟨a, ns, k, rfl, hS, h0, q⟩ := h
  refine ⟨_, pss_cons (ps_if (pt_cmpR op_lt (pv 1) (pe_callB call_len_seq rfl B.len PySem.boot_len (pa_cons (pv 0) pa_nil)) (nomark _)) (pss_one (ps_ret (pe_ix ix_list (pv 0) (pv 1) (fun _ _ => rfl)))) pss_nil) (pss_one (ps_ret pe_int)), ?_⟩
  refine ⟨_, rfl, _, rfl, a, _, rfl, .inl hS, _, _, rfl, rfl, _, rfl, ?_⟩
  refine ite2 (fun c => ?_) (fun c => ?_)
  · have c' : k < (((ns.map V.int).length : Nat) : Int) := of_decide_eq_true c
    obtain ⟨v, h1, h2⟩ := atI_in h0 c'
    obtain ⟨z, rfl, _⟩ := get_map_int h2
    exact ⟨_, rfl, _, rfl, a, _, _, _, rfl, rfl, hS, h1, q z⟩
  · exact q 0
/-! ### _law_alike -/
theorem scAlike : FnScope ["_law_found", "_law_due", "_law_left", "_law_right", "_law_one", "_law_two"] ["_law_found", "_law_due"] (defScope sAlike) := ⟨rfl, rfl, rfl, by decide +kernel, rfl, by decide +kernel, by decide +kernel⟩
theorem last_of {α : Type} (l : List α) (a : α) : (l ++ [a])[(l ++ [a]).length - 1]? = some a := by
  rw [List.length_append, List.length_singleton, Nat.add_sub_cancel, List.getElem?_append_right (Nat.le_refl _), Nat.sub_self]
  rfl
theorem ok_alike {g : Addr} {gd : FuncData} (F : Fun K "_law_alike" "_law_alike" sAlike f fd) (B : Blt mg) (GW : FnOk P w K mg base CX0 1 g gd ["_law_found"] spWhole) (bW : Binds K gd ["_law_found"] []) (kW : PySem.W.keepIn K (.ref g) = true) (mW : mg "_law_whole" = some (.ref g)) :
    FnOk P w K mg base CX0 2 f fd ["_law_found", "_law_due"] spAlike := by
  refine F.ok scAlike (fun vs H Q E h => ?_) (fun cdv A outer s H vs Q E hr h => ?_)
  · obtain ⟨x, y, d, rfl, _⟩ := h
    rfl
  obtain ⟨x, y, d, rfl, hx, hy, hz, q⟩ := h
  have hu := hu_of hr
  refine ⟨_, (pss_cons (ps_set (i := 2) scAlike.nd rfl (Or.inl rfl) (pe_lst (pa_cons (pv 0) pa_nil)))
      (pss_cons (ps_set (i := 3) scAlike.nd rfl (Or.inl rfl) (pe_lst (pa_cons (pv 1) pa_nil)))
      (pss_cons (ps_while PassesOwn.never (pt_cmpR (op_neNil (Nat.lt_of_succ_lt hu)) (pv 3) (pe_lst pa_nil) (nomark _))
      (pss_cons (ps_set (i := 4) scAlike.nd rfl (Or.inl rfl) (pe_bm0 PySem.F.plainAttrs_list PySem.F.slot_list_pop PySem.F.type_list_pop mt_pop (pv 2)))
      (pss_cons (ps_set (i := 5) scAlike.nd rfl (Or.inl rfl) (pe_bm0 PySem.F.plainAttrs_list PySem.F.slot_list_pop PySem.F.type_list_pop mt_pop (pv 3)))
      (pss_one (ps_if (pt_val (pe_callB call_isiT rfl B.isi bIsi (pa_cons (pv 5) (pa_cons (pe_tup (pa_cons (pe_bltn (v := .ty "list") rfl B.lst bList rfl) (pa_cons (pe_bltn (v := .ty "tuple") rfl B.tup bTuple rfl) pa_nil))) pa_nil))))
      (pss_cons (ps_if (pt_cmpR op_ne (pe_callB call_isi rfl B.isi bIsi (pa_cons (pv 4) (pa_cons (pe_bltn (v := .ty "list") rfl B.lst bList rfl) pa_nil))) (pe_callB call_isi rfl B.isi bIsi (pa_cons (pv 5) (pa_cons (pe_bltn (v := .ty "list") rfl B.lst bList rfl) pa_nil))) (nomark _))
      (pss_one (ps_ret pe_bl))
      pss_nil)
      (pss_cons (ps_if (pt_or2 (pt_cmpR op_ne (pe_callB call_isi rfl B.isi bIsi (pa_cons (pv 4) (pa_cons (pe_bltn (v := .ty "tuple") rfl B.tup bTuple rfl) pa_nil))) (pe_callB call_isi rfl B.isi bIsi (pa_cons (pv 5) (pa_cons (pe_bltn (v := .ty "tuple") rfl B.tup bTuple rfl) pa_nil))) (nomark _)) (pt_cmpR op_ne (pe_callB call_len_seq rfl B.len PySem.boot_len (pa_cons (pv 4) pa_nil)) (pe_callB call_len_seq rfl B.len PySem.boot_len (pa_cons (pv 5) pa_nil)) (nomark _)))
      (pss_one (ps_ret pe_bl))
      pss_nil)
      (pss_cons (ps_expr (pe_bm PySem.F.plainAttrs_list PySem.F.slot_list_extend PySem.F.type_list_extend mt_extend2 (pv 2) (pa_cons (pv 4) pa_nil)))
      (pss_one (ps_expr (pe_bm PySem.F.plainAttrs_list PySem.F.slot_list_extend PySem.F.type_list_extend mt_extend2 (pv 3) (pa_cons (pv 5) pa_nil)))))))
      (pss_one (ps_if (pt_val (pe_callB call_isi rfl B.isi bIsi (pa_cons (pv 5) (pa_cons (pe_bltn (v := .ty "str") rfl B.str bStr rfl) pa_nil))))
      (pss_one (ps_if (pt_or2 (pt_not (pt_val (pe_callB call_isi rfl B.isi bIsi (pa_cons (pv 4) (pa_cons (pe_bltn (v := .ty "str") rfl B.str bStr rfl) pa_nil))))) (pt_cmpR op_ne (pv 4) (pv 5) (nomark _)))
      (pss_one (ps_ret pe_bl))
      pss_nil))
      (pss_one (ps_if (pt_or2 (pt_not (pt_val (pe_call GW (hr.mono (by decide)) rfl mW kW bW .nil pass0 (pa_cons (pv 4) pa_nil)))) (pt_cmpR op_ne (pv 4) (pv 5) (nomark _)))
      (pss_one (ps_ret pe_bl))
      pss_nil)))))))))
      (pss_one (ps_ret pe_bl))))), ?_⟩
  have small : ∀ {n : Nat}, n ≤ 5000 → n < sizeLine := fun h => Nat.lt_of_le_of_lt h (by decide)
  refine ⟨_, rfl, le5, fun l hl => ⟨_, rfl, le5, fun r hr' => ?_⟩⟩
  have nlr : l ≠ r := ne_of_none (upd_same (H := H) (a := l) (o := .lst [x])) hr'
  have hr0 : H r = none := by rw [upd_ne nlr.symm] at hr'; exact hr'
  refine ⟨fun m σ H2 => ∃ (ds : List D) (xs ys : List V) (o1 o2 : Option V), m = szs ds ∧ σ = [some x, some y, some (.ref l), some (.ref r), o1, o2] ∧ Same H H2 ∧ H2 l = some (.lst xs) ∧ H2 r = some (.lst ys) ∧ Reps H ds xs ∧ Reps H ds ys ∧ szs ds ≤ 5000,
    ⟨d.sz, [d], [x], [y], none, none, by rw [szs_cons, szs_nil]; rfl, rfl, (same_new hl _).trans (same_new hr' _), by rw [upd_ne nlr, upd_same], upd_same, .cons hx .nil, .cons hy .nil, by rw [szs_cons, szs_nil]; exact hz⟩, ?_⟩
  rintro m σ H2 ⟨ds, xs, ys, o1, o2, rfl, rfl, s2, e1, e2, r1, r2, hsz⟩
  refine ⟨_, rfl, le5, fun t ht => ?_⟩
  have s3 : Same H (upd H2 t (.lst [])) := s2.trans (same_new ht _)
  have e1' : (upd H2 t (.lst [])) l = some (.lst xs) := by rw [upd_ne (ne_of_none e1 ht)]; exact e1
  have e2' : (upd H2 t (.lst [])) r = some (.lst ys) := by rw [upd_ne (ne_of_none e2 ht)]; exact e2
  have e3' : (upd H2 t (.lst [])) t = some (.lst []) := upd_same
  generalize upd H2 t (.lst []) = H3 at s3 e1' e2' e3' ⊢
  refine ⟨r, t, ys, rfl, rfl, e2', e3', _, rfl, ?_⟩
  rcases List.eq_nil_or_concat ds with rfl | ⟨ds', d', eds⟩
  · rw [r2.inv0]
    refine iteF ?_
    exact q H3 s3
  rw [List.concat_eq_append] at eds
  subst eds
  obtain ⟨xs', x', rfl, rx1, rx2⟩ := r1.snoc
  obtain ⟨ys', y', rfl, ry1, ry2⟩ := r2.snoc
  have hne : (!(ys' ++ [y']).isEmpty) = true := by simp
  rw [hne]
  refine iteT ⟨_, fun σ' H' h => h, ?_⟩
  have nx : ∀ (l0 : List D) (us vs : List V) (o1 o2 : Option V) (H' : Hp), szs l0 < d'.sz → Same H H' → H' l = some (.lst (xs' ++ us)) → H' r = some (.lst (ys' ++ vs)) → Reps H l0 us → Reps H l0 vs →
      ∃ m', m' < szs (ds' ++ [d']) ∧ ∃ (ds : List D) (xs ys : List V) (p1 p2 : Option V), m' = szs ds ∧ ([some x, some y, some (.ref l), some (.ref r), o1, o2] : St) = [some x, some y, some (.ref l), some (.ref r), p1, p2] ∧ Same H H' ∧ H' l = some (.lst xs) ∧ H' r = some (.lst ys) ∧ Reps H ds xs ∧ Reps H ds ys ∧ szs ds ≤ 5000 :=
    fun l0 us vs o1 o2 H' hlt sm h1 h2 h3 h4 => by
      have e : szs (ds' ++ [d']) = szs ds' + d'.sz := by rw [szs_append, szs_cons, szs_nil, Nat.add_zero]
      have e' : szs (ds' ++ l0) = szs ds' + szs l0 := szs_append _ _
      exact ⟨szs (ds' ++ l0), by omega, ds' ++ l0, _, _, o1, o2, rfl, rfl, sm, h1, h2, rx1.append h3, ry1.append h4, by omega⟩
  have e2'' : (upd H3 l (.lst (xs' ++ [x']).dropLast)) r = some (.lst (ys' ++ [y'])) := by rw [upd_ne nlr.symm]; exact e2'
  refine ⟨_, rfl, .inl ⟨rfl, _, SqL.of e1'⟩, l, _, x', rfl, rfl, e1', last_of _ _, ?_⟩
  refine ⟨_, rfl, .inl ⟨rfl, _, SqL.of e2''⟩, r, _, y', rfl, rfl, e2'', last_of _ _, ?_⟩
  have s4 : Same H (upd (upd H3 l (.lst (xs' ++ [x']).dropLast)) r (.lst (ys' ++ [y']).dropLast)) := (s3.upd_new hl).upd_new hr0
  have l4 : (upd (upd H3 l (.lst (xs' ++ [x']).dropLast)) r (.lst (ys' ++ [y']).dropLast)) l = some (.lst xs') := by rw [upd_ne nlr, upd_same, List.dropLast_concat]
  have r4 : (upd (upd H3 l (.lst (xs' ++ [x']).dropLast)) r (.lst (ys' ++ [y']).dropLast)) r = some (.lst ys') := by rw [upd_same, List.dropLast_concat]
  generalize upd (upd H3 l (.lst (xs' ++ [x']).dropLast)) r (.lst (ys' ++ [y']).dropLast) = H4 at s4 l4 r4 ⊢
  refine ⟨_, rfl, le5, fun p hp => ?_⟩
  have p5 : (upd H4 p (.tup [.ty "list", .ty "tuple"])) p = some (.tup [.ty "list", .ty "tuple"]) := upd_same
  have s5 : Same H (upd H4 p (.tup [.ty "list", .ty "tuple"])) := s4.trans (same_new hp _)
  have l5 : (upd H4 p (.tup [.ty "list", .ty "tuple"])) l = some (.lst xs') := by rw [upd_ne (ne_of_none l4 hp)]; exact l4
  have r5 : (upd H4 p (.tup [.ty "list", .ty "tuple"])) r = some (.lst ys') := by rw [upd_ne (ne_of_none r4 hp)]; exact r4
  generalize upd H4 p (.tup [.ty "list", .ty "tuple"]) = H5 at p5 s5 l5 r5 ⊢
  have hlen : ∀ (l0 : List D) (us : List V), szs l0 < d'.sz → Reps H l0 us → xs'.length + us.length ≤ sizeLine ∧ ys'.length + us.length ≤ sizeLine := fun l0 us h1 h2 => by
    have a1 := len_szs l0
    have a2 := h2.length
    have a3 := len_szs ds'
    have a4 := rx1.length
    have a5 := ry1.length
    have e : szs (ds' ++ [d']) = szs ds' + d'.sz := by rw [szs_append, szs_cons, szs_nil, Nat.add_zero]
    exact ⟨Nat.le_of_lt (small (by omega)), Nat.le_of_lt (small (by omega))⟩
  cases d' with
  | int i =>
    cases rx2.int_inv
    cases ry2.int_inv
    refine ⟨_, _, p, ["list", "tuple"], _, rfl, .int i, p5, isa_int K, _, rfl, iteF ?_⟩
    refine ⟨_, rfl, _, _, _, _, rfl, .int i, isi_int_str K, _, rfl, iteF ?_⟩
    refine ⟨_, rfl, i, rfl, _, rfl, iteF ?_⟩
    refine ⟨_, rfl, _, rfl, rfl, _, rfl, iteNS rfl ?_⟩
    exact nx [] [] [] _ _ H5 (by rw [szs_nil, sz_int]; decide) s5 (by rw [List.append_nil]; exact l5) (by rw [List.append_nil]; exact r5) .nil .nil
  | str z =>
    cases rx2.str_inv
    cases ry2.str_inv
    refine ⟨_, _, p, ["list", "tuple"], _, rfl, .str z, p5, isa_str K, _, rfl, iteF ?_⟩
    refine ⟨_, rfl, _, _, _, _, rfl, .str z, isi_str_str K, _, rfl, iteT ?_⟩
    refine ⟨_, rfl, _, _, _, _, rfl, .str z, isi_str_str K, _, rfl, iteF ?_⟩
    refine ⟨_, rfl, _, rfl, rfl, _, rfl, iteNS rfl ?_⟩
    exact nx [] [] [] _ _ H5 (by rw [szs_nil, sz_str]; decide) s5 (by rw [List.append_nil]; exact l5) (by rw [List.append_nil]; exact r5) .nil .nil
  | tup l0 =>
    obtain ⟨a, us, rfl, ha, ra⟩ := rx2.tup_inv
    obtain ⟨b, vs, rfl, hb, rb⟩ := ry2.tup_inv
    have ha5 := s5 _ _ ha
    have hb5 := s5 _ _ hb
    have hlt : szs l0 < (D.tup l0).sz := by rw [sz_tup]; omega
    obtain ⟨z1, _⟩ := hlen l0 us hlt ra
    obtain ⟨_, z2⟩ := hlen l0 vs hlt rb
    refine ⟨_, _, p, ["list", "tuple"], _, rfl, .tup hb5, p5, isa_tuple K, _, rfl, iteT ?_⟩
    refine ⟨_, rfl, _, _, _, _, rfl, .tup ha5, isi_tuple_list K, _, rfl, _, _, _, _, rfl, .tup hb5, isi_tuple_list K, rfl, _, rfl, iteNS rfl ?_⟩
    refine ⟨_, rfl, _, _, _, _, rfl, .tup ha5, isi_tuple_tuple K, _, rfl, _, _, _, _, rfl, .tup hb5, isi_tuple_tuple K, rfl, _, rfl, iteNS rfl ?_⟩
    refine ⟨_, rfl, a, us, rfl, .inr (SqT.of ha5), _, rfl, b, vs, rfl, .inr (SqT.of hb5), rfl, _, rfl, iteNS (by rw [ra.length, rb.length]) ?_⟩
    refine ⟨_, rfl, .inl ⟨rfl, _, SqL.of l5⟩, _, rfl, l, a, xs', us, rfl, rfl, l5, .inr ha5, z1, ?_⟩
    have hb6 : (upd H5 l (.lst (xs' ++ us))) b = some (.tup vs) := by rw [upd_ne (ne_of_none hb hl)]; exact hb5
    have r6 : (upd H5 l (.lst (xs' ++ us))) r = some (.lst ys') := by rw [upd_ne nlr.symm]; exact r5
    refine ⟨_, rfl, .inl ⟨rfl, _, SqL.of r6⟩, _, rfl, r, b, ys', vs, rfl, rfl, r6, .inr hb6, z2, ?_⟩
    exact nx l0 us vs _ _ _ hlt ((s5.upd_new hl).upd_new hr0) (by rw [upd_ne nlr, upd_same]) upd_same ra rb
  | lst l0 =>
    obtain ⟨a, us, rfl, ha, ra⟩ := rx2.lst_inv
    obtain ⟨b, vs, rfl, hb, rb⟩ := ry2.lst_inv
    have ha5 := s5 _ _ ha
    have hb5 := s5 _ _ hb
    have hlt : szs l0 < (D.lst l0).sz := by rw [sz_lst]; omega
    obtain ⟨z1, _⟩ := hlen l0 us hlt ra
    obtain ⟨_, z2⟩ := hlen l0 vs hlt rb
    refine ⟨_, _, p, ["list", "tuple"], _, rfl, .lst hb5, p5, isa_list K, _, rfl, iteT ?_⟩
    refine ⟨_, rfl, _, _, _, _, rfl, .lst ha5, isi_list_list K, _, rfl, _, _, _, _, rfl, .lst hb5, isi_list_list K, rfl, _, rfl, iteNS rfl ?_⟩
    refine ⟨_, rfl, _, _, _, _, rfl, .lst ha5, isi_list_tuple K, _, rfl, _, _, _, _, rfl, .lst hb5, isi_list_tuple K, rfl, _, rfl, iteNS rfl ?_⟩
    refine ⟨_, rfl, a, us, rfl, .inl (SqL.of ha5), _, rfl, b, vs, rfl, .inl (SqL.of hb5), rfl, _, rfl, iteNS (by rw [ra.length, rb.length]) ?_⟩
    refine ⟨_, rfl, .inl ⟨rfl, _, SqL.of l5⟩, _, rfl, l, a, xs', us, rfl, rfl, l5, .inl ha5, z1, ?_⟩
    have hb6 : (upd H5 l (.lst (xs' ++ us))) b = some (.lst vs) := by rw [upd_ne (ne_of_none hb hl)]; exact hb5
    have r6 : (upd H5 l (.lst (xs' ++ us))) r = some (.lst ys') := by rw [upd_ne nlr.symm]; exact r5
    refine ⟨_, rfl, .inl ⟨rfl, _, SqL.of r6⟩, _, rfl, r, b, ys', vs, rfl, rfl, r6, .inl hb6, z2, ?_⟩
    exact nx l0 us vs _ _ _ hlt ((s5.upd_new hl).upd_new hr0) (by rw [upd_ne nlr, upd_same]) upd_same ra rb
end
end K07

set_option Elab.async false
set_option linter.all false
set_option maxRecDepth 100000
namespace K07
open PySem L2
/-! ### the law's drawing of logs -/
def spWrit : Sp := fun vs H Q _ => ∃ (l : Addr) (xs : List V) (log : List LN) (p : Nat), vs = [.ref l, .int (p : Nat)] ∧ H l = some (.lst xs) ∧ LogAt H log xs ∧ ∀ b : Bool, (b = true ↔ hasPut log p) → Q (.bl b) H
def spCount : Sp := fun vs H Q _ => ∃ h : Int, vs = [.int h] ∧ ∀ (c : Int) (H' : Hp), 1 ≤ c → c ≤ 40 → Same H H' → Q (.int c) H'
def spFree : Sp := fun vs H Q _ => ∃ (c : Addr) (cs : List Int) (n : Int), vs = [.ref c, .int n] ∧ H c = some (.lst (cs.map V.int)) ∧ cs.length ≤ 63 ∧ 1 ≤ n ∧
  ∀ (r : Addr) (xs : List V) (log : List LN) (H' : Hp), Same H H' → H' r = some (.lst xs) → LogAt H' log xs → (∀ ln ∈ log, ln.ok n.toNat) → log.length ≤ 63 → Q (.ref r) H'
def spSome : Sp := fun vs H Q _ => ∃ (l kp c : Addr) (h : Int) (xs : List V) (log : List LN) (ks cs : List Int), vs = [.ref l, .ref kp, .int h, .ref c] ∧ H l = some (.lst xs) ∧ LogAt H log xs ∧ H kp = some (.lst (ks.map V.int)) ∧ ks.length ≤ 100 ∧ H c = some (.lst (cs.map V.int)) ∧ cs.length ≤ 63 ∧
  ∀ (r : Addr) (ps : List Int) (H' : Hp), Same H H' → H' r = some (.lst (ps.map V.int)) → ps.length = ks.length → (∀ (q : Nat) (kv : Int), ks[q]? = some kv → lastNew log q none = none → ps[q]? = some kv) → Q (.ref r) H'
def spLogOf : Sp := fun vs H Q _ => ∃ (c : Addr) (cs : List Int) (n : Int), vs = [.ref c, .int n] ∧ H c = some (.lst (cs.map V.int)) ∧ cs.length ≤ 63 ∧ 1 ≤ n ∧ n ≤ 40 ∧
  ∀ (r l kp dk sl : Addr) (xs : List V) (log : List LN) (ks ds ss ts : List Int) (m : Int) (H' : Hp), Same H H' → H' r = some (.tup [.ref l, .ref kp, .ref dk, .ref sl]) → H' l = some (.lst xs) → LogAt H' log xs → (∀ ln ∈ log, ln.ok n.toNat) → log.length ≤ 63 →
    H' kp = some (.lst (ks.map V.int)) → ks.length = n.toNat → H' dk = some (.lst (ds.map V.int)) → ds.length = n.toNat → H' sl = some (.lst (ss.map V.int)) → ss.length = 3 → KI n.toNat m log ds ks ss ts → Q (.ref r) H'
section
variable {P : Program} {w : World} {K : PySem.W.Frag} {mg : Str → Option Value} {base : Heap} {f : Addr} {fd : FuncData}
theorem scWrit : FnScope ["_law_log", "_law_page", "_law_line"] ["_law_log", "_law_page"] (defScope sWrit) := ⟨rfl, rfl, rfl, by decide +kernel, rfl, by decide +kernel, by decide +kernel⟩
theorem ok_writ (F : Fun K "_law_written" "_law_written" sWrit f fd) : FnOk P w K mg base CX0 1 f fd ["_law_log", "_law_page"] spWrit := by
  refine F.ok scWrit (fun vs H Q E h => ?_) (fun cdv A outer s H vs Q E hr h => ?_)
  · obtain ⟨l, xs, log, p, rfl, _⟩ := h
    rfl
  obtain ⟨l, xs, log, p, rfl, hl, hL, q⟩ := h
  refine ⟨_, (pss_cons (ps_for PassesOwn.never rfl (pi_list (pv 0)) (pg_name (i := 2) scWrit.nd rfl (Or.inl rfl))
      (pss_one (ps_if (pt_and2 (pt_cmpR op_eq (pe_ix ix_tup (pv 2) pe_int (fun _ _ => rfl)) pe_str (nomark _)) (pt_cmpR op_eq (pe_ix ix_tup (pv 2) pe_int (fun _ _ => rfl)) (pv 1) (nomark _)))
      (pss_one (ps_ret pe_bl))
      pss_nil)))
      (pss_one (ps_ret pe_bl))), ?_⟩
  refine ⟨_, rfl, l, rfl, ⟨xs, SqL.of hl⟩, for_list (K := K) (a := l) (xs := xs) (fun i σ H2 => ∃ o : Option V, σ = [some (.ref l), some (.int (p : Nat)), o] ∧ H2 = H ∧ ∀ (j : Nat), j < i → ∀ d o n, log[j]? ≠ some (.put d p o n))
    ⟨none, rfl, rfl, fun j hj => absurd hj (Nat.not_lt_zero _)⟩ (fun i σ H2 _ ⟨_, _, e, _⟩ => by rw [e]; exact SqL.of hl) ?_ ?_⟩
  · rintro i x σ H2 hi ⟨o, rfl, rfl, hn⟩
    obtain ⟨ln, hln, hat⟩ := hL.get hi
    have next : (∀ d o n, log[i]? ≠ some (.put d p o n)) → ∀ (j : Nat), j < i + 1 → ∀ d o n, log[j]? ≠ some (.put d p o n) := fun h j hj => by
      by_cases e : j = i
      · rw [e]; exact h
      · exact hn j (by omega)
    cases ln with
    | fin d =>
      obtain ⟨c, rfl, hc⟩ := hat
      refine ⟨_, rfl, c, _, _, _, rfl, rfl, SqT.of hc, rfl, rfl, _, rfl, ifF pe_ne ?_⟩
      refine iteF ?_
      refine ⟨_, rfl, rfl, next fun d' o' n' e => ?_⟩
      rw [hln] at e
      cases e
    | put d p' o' n =>
      obtain ⟨c, rfl, hc⟩ := hat
      refine ⟨_, rfl, c, _, _, _, rfl, rfl, SqT.of hc, rfl, rfl, _, rfl, ifT rfl ?_⟩
      refine ⟨_, rfl, c, _, _, _, rfl, rfl, SqT.of hc, rfl, _, rfl, rfl, _, rfl, ite2 (fun c' => ?_) (fun c' => ?_)⟩
      · have e : V.int (p' : Nat) = V.int (p : Nat) := of_decide_eq_true c'
        injection e with e
        have e' : p' = p := by omega
        subst e'
        exact q true ⟨fun _ => ⟨d, o', n, List.mem_of_getElem? hln⟩, fun _ => rfl⟩
      · have e : ¬ V.int (p' : Nat) = V.int (p : Nat) := of_decide_eq_false (Bool.eq_false_iff.mpr c')
        refine ⟨_, rfl, rfl, next fun d2 o2 n2 e2 => ?_⟩
        rw [hln] at e2
        cases e2
        exact e rfl
  · rintro σ H2 ⟨o, rfl, rfl, hn⟩
    refine q false ⟨(fun z => nomatch z), fun ⟨d, o', n, hm⟩ => ?_⟩
    obtain ⟨j, e⟩ := List.mem_iff_getElem?.mp hm
    exact absurd e (hn j (by rw [← hL.1]; exact (List.getElem?_eq_some_iff.mp e).1) d o' n)
theorem scCount : FnScope ["_law_head"] ["_law_head"] (defScope sCount) := ⟨rfl, rfl, rfl, by decide +kernel, rfl, by decide +kernel, by decide +kernel⟩
theorem ok_count (F : Fun K "_law_count_by" "_law_count_by" sCount f fd) (B : Blt mg) : FnOk P w K mg base CX0 1 f fd ["_law_head"] spCount := by
  refine F.ok scCount (fun vs H Q E h => ?_) (fun cdv A outer s H vs Q E hr h => ?_)
  · obtain ⟨h, rfl, _⟩ := h
    rfl
  obtain ⟨z, rfl, q⟩ := h
  refine ⟨_, (pss_one (ps_ret (pe_ix ix_list (pe_lst (pa_cons (pe_op op_add pe_int (pe_op op_mod (pv 0) pe_int)) (pa_cons (pe_op op_add pe_int (pe_op op_mod (pe_op op_fdiv (pv 0) pe_int) pe_int)) pa_nil))) (pe_callTy call_int1 rfl B.int bInt (pa_cons (pe_cmpR op_eq (pe_op op_mod (pe_op op_fdiv (pv 0) pe_int) pe_int) pe_int (nomark _)) pa_nil)) (fun _ _ => rfl)))), ?_⟩
  refine ⟨_, rfl, _, _, rfl, rfl, (by decide : (0 : Int) < 5), _, _, rfl, rfl, _, rfl, _, _, rfl, rfl, ⟨by decide, by decide⟩, _, _, rfl, rfl, (by decide : (0 : Int) < 29), _, _, rfl, rfl, le5, fun t ht => ?_⟩
  refine ⟨_, rfl, _, _, rfl, rfl, ⟨by decide, by decide⟩, _, _, rfl, rfl, (by decide : (0 : Int) < 8), rfl, .inr ⟨_, rfl, two_ix upd_same ?_ ?_ _⟩⟩
  · exact q (1 + z % 5) _ (by omega) (by omega) (same_new ht _)
  · exact q (12 + z / 200 % 29) _ (by omega) (by omega) (same_new ht _)
theorem scSome : FnScope ["_law_log", "_law_kept", "_law_head", "_law_cells", "_law_pages", "_law_page", "_law_cell"] ["_law_log", "_law_kept", "_law_head", "_law_cells"] (defScope sSome) := ⟨rfl, rfl, rfl, by decide +kernel, rfl, by decide +kernel, by decide +kernel⟩
theorem ok_some {gD gW : Addr} {dD dW : FuncData} (F : Fun K "_law_some_pages" "_law_some_pages" sSome f fd) (B : Blt mg) (GD : FnOk P w K mg base CX0 1 gD dD ["_law_number", "_law_prime", "_law_many"] spDraw) (bD : Binds K dD ["_law_number", "_law_prime", "_law_many"] []) (kD : PySem.W.keepIn K (.ref gD) = true) (mD : mg "_law_draw" = some (.ref gD))
    (GW : FnOk P w K mg base CX0 1 gW dW ["_law_log", "_law_page"] spWrit) (bW : Binds K dW ["_law_log", "_law_page"] []) (kW : PySem.W.keepIn K (.ref gW) = true) (mW : mg "_law_written" = some (.ref gW)) : FnOk P w K mg base CX0 2 f fd ["_law_log", "_law_kept", "_law_head", "_law_cells"] spSome := by
  refine F.ok scSome (fun vs H Q E h => ?_) (fun cdv A outer s H vs Q E hr h => ?_)
  · obtain ⟨l, kp, c, h, xs, log, ks, cs, rfl, _⟩ := h
    rfl
  obtain ⟨l, kp, c, hd, xs, log, ks, cs, rfl, hl, hL, hk, zk, hc, zc, q⟩ := h
  refine ⟨_, (pss_cons (ps_set (i := 4) scSome.nd rfl (Or.inl rfl) (pe_callTy call_list_of rfl B.lst bList (pa_cons (pv 1) pa_nil)))
      (pss_cons (ps_for PassesOwn.never rfl (pi_range1 rfl B.rng (pa_cons (pe_callB call_len_seq rfl B.len PySem.boot_len (pa_cons (pv 1) pa_nil)) pa_nil)) (pg_name (i := 5) scSome.nd rfl (Or.inl rfl))
      (pss_cons (ps_set (i := 6) scSome.nd rfl (Or.inl rfl) (pv 2))
      (pss_cons (ps_if (pt_cmpR op_lt (pv 5) (pe_callB call_len_seq rfl B.len PySem.boot_len (pa_cons (pv 3) pa_nil)) (nomark _))
      (pss_one (ps_set (i := 6) scSome.nd rfl (Or.inl rfl) (pe_ix ix_list (pv 3) (pv 5) (fun _ _ => rfl))))
      pss_nil)
      (pss_one (ps_if (pt_and2 (pt_val (pe_call GW (hr.mono (by decide)) rfl mW kW bW .nil pass0 (pa_cons (pv 0) (pa_cons (pv 5) pa_nil)))) (pt_cmpR op_gt (pe_call GD (hr.mono (by decide)) rfl mD kD bD .nil pass0 (pa_cons (pe_op op_add (pv 2) (pe_op op_mul pe_int (pv 5))) (pa_cons pe_int (pa_cons pe_int pa_nil)))) pe_int (nomark _)))
      (pss_one (ps_asg (pe_op op_sub (pe_call GD (hr.mono (by decide)) rfl mD kD bD .nil pass0 (pa_cons (pe_op op_add (pv 6) (pe_op op_mul pe_int (pv 5))) (pa_cons pe_int (pa_cons pe_int pa_nil)))) pe_int) (pg_sub (pv 4) (pv 5) set_list)))
      pss_nil)))))
      (pss_one (ps_ret (pv 4))))), ?_⟩
  refine ⟨_, rfl, kp, _, rfl, .inl (SqL.of hk), fun r h0 => ?_⟩
  have s1 := same_new h0 (.lst (ks.map V.int))
  have e1 : (upd H r (.lst (ks.map V.int))) r = some (.lst (ks.map V.int)) := upd_same
  generalize upd H r (.lst (ks.map V.int)) = H1 at s1 e1 ⊢
  have lks : (ks.map V.int).length = ks.length := List.length_map _
  have lcs : (cs.map V.int).length = cs.length := List.length_map _
  refine ⟨_, rfl, kp, _, rfl, .inl (SqL.of (s1 _ _ hk)), _, rfl, by omega, by omega, for_range (fun i σ H2 => ∃ (ps : List Int) (o5 o6 : Option V), σ = [some (.ref l), some (.ref kp), some (.int hd), some (.ref c), some (.ref r), o5, o6] ∧ Same H H2 ∧ H2 r = some (.lst (ps.map V.int)) ∧ ps.length = ks.length ∧ ∀ (q : Nat) (kv : Int), ks[q]? = some kv → lastNew log q none = none → ps[q]? = some kv)
    ⟨ks, none, none, rfl, s1, e1, rfl, fun q kv e _ => e⟩ ?_ ?_⟩
  · rintro i σ H2 hi ⟨ps, o5, o6, rfl, s2, er, lp, hu⟩
    have e0 : (0 : Int) + (i : Int) = ((i : Nat) : Int) := by omega
    rw [e0]
    have hi' : i < ks.length := by omega
    refine ⟨_, rfl, ?_⟩
    refine ⟨_, rfl, _, rfl, c, _, rfl, .inl (SqL.of (s2 _ _ hc)), _, _, rfl, rfl, _, rfl, ite2 (fun c1 => ?_) (fun c1 => ?_)⟩
    · have c2 : ((i : Nat) : Int) < (((cs.map V.int).length : Nat) : Int) := of_decide_eq_true c1
      obtain ⟨z, a1, b1⟩ := at_int (ns := cs) (k := ((i : Nat) : Int)) (by omega) (by omega)
      refine ⟨_, rfl, _, rfl, c, _, _, _, rfl, rfl, SqL.of (s2 _ _ hc), b1, ?_⟩
      refine ⟨_, rfl, _, rfl, l, xs, log, i, rfl, s2 _ _ hl, hL.mono fun a x h => h.mono s2.keepT, fun b hb => ⟨_, rfl, ?_⟩⟩
      cases b with
      | false =>
        refine iteF (iteF ?_)
        exact ⟨ps, _, _, rfl, s2, er, lp, hu⟩
      | true =>
        refine iteT ?_
        refine ⟨_, rfl, _, rfl, _, _, rfl, rfl, .inl ⟨by decide, by decide⟩, _, _, rfl, rfl, _, _, _, rfl, by decide, by decide, fun r1 _ _ => ⟨_, _, rfl, rfl, _, rfl, ite2 (fun _ => ?_) (fun _ => ?_)⟩⟩
        · refine ⟨_, rfl, _, rfl, _, _, rfl, rfl, .inl ⟨by decide, by decide⟩, _, _, rfl, rfl, _, _, _, rfl, by decide, by decide, fun r2 _ _ => ⟨_, _, rfl, rfl, _, rfl, _, rfl, r, _, _, i, rfl, rfl, er, ixN_nat (by rw [List.length_map]; omega), ?_⟩⟩
          refine ⟨ps.set i (r2 - 9), _, _, rfl, s2.upd_new h0, ?_, by rw [List.length_set]; exact lp, fun q kv e1 e2 => ?_⟩
          · rw [upd_same, ← map_int_set]
          · by_cases z : q = i
            · subst z
              exact absurd e2 (lastNew_some (hb.mp rfl))
            · rw [List.getElem?_set_ne (Ne.symm z)]
              exact hu q kv e1 e2
        · exact ⟨ps, _, _, rfl, s2, er, lp, hu⟩
    · refine ⟨_, rfl, _, rfl, l, xs, log, i, rfl, s2 _ _ hl, hL.mono fun a x h => h.mono s2.keepT, fun b hb => ⟨_, rfl, ?_⟩⟩
      cases b with
      | false =>
        refine iteF (iteF ?_)
        exact ⟨ps, _, _, rfl, s2, er, lp, hu⟩
      | true =>
        refine iteT ?_
        refine ⟨_, rfl, _, rfl, _, _, rfl, rfl, .inl ⟨by decide, by decide⟩, _, _, rfl, rfl, _, _, _, rfl, by decide, by decide, fun r1 _ _ => ⟨_, _, rfl, rfl, _, rfl, ite2 (fun _ => ?_) (fun _ => ?_)⟩⟩
        · refine ⟨_, rfl, _, rfl, _, _, rfl, rfl, .inl ⟨by decide, by decide⟩, _, _, rfl, rfl, _, _, _, rfl, by decide, by decide, fun r2 _ _ => ⟨_, _, rfl, rfl, _, rfl, _, rfl, r, _, _, i, rfl, rfl, er, ixN_nat (by rw [List.length_map]; omega), ?_⟩⟩
          refine ⟨ps.set i (r2 - 9), _, _, rfl, s2.upd_new h0, ?_, by rw [List.length_set]; exact lp, fun q kv e1 e2 => ?_⟩
          · rw [upd_same, ← map_int_set]
          · by_cases z : q = i
            · subst z
              exact absurd e2 (lastNew_some (hb.mp rfl))
            · rw [List.getElem?_set_ne (Ne.symm z)]
              exact hu q kv e1 e2
        · exact ⟨ps, _, _, rfl, s2, er, lp, hu⟩
  · rintro σ H2 ⟨ps, o5, o6, rfl, s2, er, lp, hu⟩
    exact ⟨_, rfl, q r ps H2 s2 er lp hu⟩
end
end K07

set_option Elab.async false
set_option linter.all false
set_option maxRecDepth 100000
namespace K07
open PySem L2
section
variable {P : Program} {w : World} {K : PySem.W.Frag} {mg : Str → Option Value} {base : Heap} {f : Addr} {fd : FuncData}
theorem scLogOf : FnScope ["_law_cells", "_law_count", "_law_log", "_law_desk", "_law_kept", "_law_slots", "_law_takers", "_law_k", "_law_cell", "_law_way", "_law_salt", "_law_page", "_law_slot", "_law_j", "_law_number", "_law_far"] ["_law_cells", "_law_count"] (defScope sLogOf) := ⟨rfl, rfl, rfl, by decide +kernel, rfl, by decide +kernel, by decide +kernel⟩
set_option maxHeartbeats 4000000 in
theorem ok_logof {gD : Addr} {dD : FuncData} (F : Fun K "_law_log_of" "_law_log_of" sLogOf f fd) (B : Blt mg) (GD : FnOk P w K mg base CX0 1 gD dD ["_law_number", "_law_prime", "_law_many"] spDraw) (bD : Binds K dD ["_law_number", "_law_prime", "_law_many"] []) (kD : PySem.W.keepIn K (.ref gD) = true) (mD : mg "_law_draw" = some (.ref gD)) : FnOk P w K mg base CX0 2 f fd ["_law_cells", "_law_count"] spLogOf := by
  refine F.ok scLogOf (fun vs H Q E h => ?_) (fun cdv A outer s H vs Q E hr h => ?_)
  · obtain ⟨c, cs, n, rfl, _⟩ := h
    rfl
  obtain ⟨c, cs, n, rfl, hc, zc, hn, hn2, q⟩ := h
  refine ⟨_, (pss_cons (ps_set (i := 2) scLogOf.nd rfl (Or.inl rfl) (pe_lst pa_nil))
      (pss_cons (ps_comp (i := 3) [] ["_law_k"] scLogOf.nd rfl rfl (BlkOk.plain (by decide +kernel) rfl rfl) rfl (pi_range1 rfl B.rng (pa_cons (pv 1) pa_nil)) (fun C s1 H1 fp => (pe_op op_mod (pe_op op_mul pe_int (pv 0)) pe_int)))
      (pss_cons (ps_set (i := 4) scLogOf.nd rfl (Or.inl rfl) (pe_callTy call_list_of rfl B.lst bList (pa_cons (pv 3) pa_nil)))
      (pss_cons (ps_set (i := 5) scLogOf.nd rfl (Or.inl rfl) (pe_lst (pa_cons pe_int (pa_cons pe_int (pa_cons pe_int pa_nil)))))
      (pss_cons (ps_set (i := 6) scLogOf.nd rfl (Or.inl rfl) (pe_op op_rep (pe_lst (pa_cons (pe_un un_neg pe_int) pa_nil)) (pv 1)))
      (pss_cons (ps_for PassesOwn.never rfl (pi_range1 rfl B.rng (pa_cons (pe_callB call_len_seq rfl B.len PySem.boot_len (pa_cons (pv 0) pa_nil)) pa_nil)) (pg_name (i := 7) scLogOf.nd rfl (Or.inl rfl))
      (pss_cons (ps_set (i := 8) scLogOf.nd rfl (Or.inl rfl) (pe_ix ix_list (pv 0) (pv 7) (fun _ _ => rfl)))
      (pss_cons (ps_set (i := 9) scLogOf.nd rfl (Or.inl rfl) (pe_op op_mod (pv 8) pe_int))
      (pss_cons (ps_set (i := 10) scLogOf.nd rfl (Or.inl rfl) (pe_op op_add (pv 8) (pe_op op_mul pe_int (pv 7))))
      (pss_cons (ps_set (i := 11) scLogOf.nd rfl (Or.inl rfl) (pe_call GD (hr.mono (by decide)) rfl mD kD bD .nil pass0 (pa_cons (pv 10) (pa_cons pe_int (pa_cons (pv 1) pa_nil)))))
      (pss_cons (ps_set (i := 12) scLogOf.nd rfl (Or.inl rfl) (pe_call GD (hr.mono (by decide)) rfl mD kD bD .nil pass0 (pa_cons (pv 10) (pa_cons pe_int (pa_cons pe_int pa_nil)))))
      (pss_one (ps_if (pt_cmpR op_eq (pv 9) pe_int (nomark _))
      (pss_cons (ps_expr (pe_bm PySem.F.plainAttrs_list PySem.F.slot_list_append PySem.F.type_list_append mt_append (pv 2) (pa_cons (pe_tup (pa_cons pe_str (pa_cons (pe_ix ix_list (pv 5) (pv 12) (fun _ _ => rfl)) pa_nil))) pa_nil)))
      (pss_cons (ps_for PassesOwn.never rfl (pi_range1 rfl B.rng (pa_cons (pv 1) pa_nil)) (pg_name (i := 13) scLogOf.nd rfl (Or.inl rfl))
      (pss_one (ps_if (pt_cmpR op_eq (pe_ix ix_list (pv 6) (pv 13) (fun _ _ => rfl)) (pv 12) (nomark _))
      (pss_cons (ps_asg (pe_ix ix_list (pv 3) (pv 13) (fun _ _ => rfl)) (pg_sub (pv 4) (pv 13) set_list))
      (pss_one (ps_asg (pe_un un_neg pe_int) (pg_sub (pv 6) (pv 13) set_list))))
      pss_nil)))
      (pss_one (ps_asg (pe_op op_add pe_int (pv 7)) (pg_sub (pv 5) (pv 12) set_list)))))
      (pss_cons (ps_if (pt_cmpR op_ge (pe_ix ix_list (pv 6) (pv 11) (fun _ _ => rfl)) pe_int (nomark _))
      (pss_one (ps_set (i := 12) scLogOf.nd rfl (Or.inl rfl) (pe_ix ix_list (pv 6) (pv 11) (fun _ _ => rfl))))
      pss_nil)
      (pss_cons (ps_set (i := 14) scLogOf.nd rfl (Or.inl rfl) (pe_op op_sub (pe_call GD (hr.mono (by decide)) rfl mD kD bD .nil pass0 (pa_cons (pv 10) (pa_cons pe_int (pa_cons pe_int pa_nil)))) pe_int))
      (pss_cons (ps_set (i := 15) scLogOf.nd rfl (Or.inl rfl) (pe_op op_mod (pe_op op_mul (pv 8) pe_int) (pe_op op_pow pe_int pe_int)))
      (pss_cons (ps_set (i := 14) scLogOf.nd rfl (Or.inl rfl) (pe_ix ix_list (pe_lst (pa_cons (pv 14) (pa_cons (pv 14) (pa_cons (pv 15) (pa_cons (pe_op op_sub pe_int (pv 15)) pa_nil))))) (pe_call GD (hr.mono (by decide)) rfl mD kD bD .nil pass0 (pa_cons (pv 10) (pa_cons pe_int (pa_cons pe_int pa_nil)))) (fun _ _ => rfl)))
      (pss_cons (ps_expr (pe_bm PySem.F.plainAttrs_list PySem.F.slot_list_append PySem.F.type_list_append mt_append (pv 2) (pa_cons (pe_tup (pa_cons pe_str (pa_cons (pe_ix ix_list (pv 5) (pv 12) (fun _ _ => rfl)) (pa_cons (pv 11) (pa_cons (pe_ix ix_list (pv 3) (pv 11) (fun _ _ => rfl)) (pa_cons (pv 14) pa_nil)))))) pa_nil)))
      (pss_cons (ps_asg (pv 14) (pg_sub (pv 3) (pv 11) set_list))
      (pss_one (ps_asg (pv 12) (pg_sub (pv 6) (pv 11) set_list)))))))))))))))))
      (pss_one (ps_ret (pe_tup (pa_cons (pv 2) (pa_cons (pv 4) (pa_cons (pv 3) (pa_cons (pv 5) pa_nil))))))))))))), ?_⟩
  have lcs : (cs.map V.int).length = cs.length := List.length_map _
  refine ⟨le5, fun l hl => ?_⟩
  have s1 := same_new hl (.lst [])
  have e1 : (upd H l (.lst [])) l = some (.lst []) := upd_same
  generalize upd H l (.lst []) = H1 at s1 e1 ⊢
  refine ⟨_, rfl, n, rfl, by omega, by omega, fun dk hdk => comp_range (fun (k : Nat) => V.int (7 * ((0 : Int) + k) % 5)) (Nat.le_of_lt (line_lt (by omega))) (fun i H3 k hi hk => ?_) ?_⟩
  · exact ⟨_, rfl, _, _, rfl, rfl, .inl ⟨by decide, by decide⟩, _, _, rfl, rfl, (by decide : (0 : Int) < 5), hk⟩
  obtain ⟨ds, eds, lds⟩ : ∃ ds : List Int, ((List.range n.toNat).map fun (k : Nat) => V.int (7 * ((0 : Int) + k) % 5)) = ds.map V.int ∧ ds.length = n.toNat :=
    ⟨(List.range n.toNat).map fun (k : Nat) => 7 * ((0 : Int) + k) % 5, by rw [List.map_map]; rfl, by rw [List.length_map, List.length_range]⟩
  rw [eds]
  have s2 := same_new hdk (.lst (ds.map V.int))
  have e2 : (upd H1 dk (.lst (ds.map V.int))) dk = some (.lst (ds.map V.int)) := upd_same
  have n12 : l ≠ dk := ne_of_none e1 hdk
  generalize upd H1 dk (.lst (ds.map V.int)) = H2 at s2 e2 ⊢
  refine ⟨_, rfl, dk, _, rfl, .inl (SqL.of e2), fun kp hkp => ?_⟩
  have s3 := same_new hkp (.lst (ds.map V.int))
  have e3 : (upd H2 kp (.lst (ds.map V.int))) kp = some (.lst (ds.map V.int)) := upd_same
  have n13 : l ≠ kp := ne_of_none (s2 _ _ e1) hkp
  have n23 : dk ≠ kp := ne_of_none e2 hkp
  generalize upd H2 kp (.lst (ds.map V.int)) = H3 at s3 e3 ⊢
  refine ⟨le5, fun sl hsl => ?_⟩
  have s4 := same_new hsl (.lst (([0, 1, 2] : List Int).map V.int))
  have e4 : (upd H3 sl (.lst (([0, 1, 2] : List Int).map V.int))) sl = some (.lst (([0, 1, 2] : List Int).map V.int)) := upd_same
  have n14 : l ≠ sl := ne_of_none (s3 _ _ (s2 _ _ e1)) hsl
  have n24 : dk ≠ sl := ne_of_none (s3 _ _ e2) hsl
  have n34 : kp ≠ sl := ne_of_none e3 hsl
  show _
  refine ⟨_, rfl, le5, fun m hm => ?_⟩
  have hm' : (upd H3 sl (.lst (([0, 1, 2] : List Int).map V.int))) m = none := hm
  have s5 := same_new hm' (.lst [.int (-1)])
  have e5 : (upd (upd H3 sl (.lst (([0, 1, 2] : List Int).map V.int))) m (.lst [.int (-1)])) m = some (.lst [.int (-1)]) := upd_same
  refine ⟨_, rfl, m, n, [.int (-1)], rfl, rfl, e5, by omega, by omega, Nat.le_of_lt (line_lt (by rw [List.length_singleton]; omega)), fun tk htk => ?_⟩
  have htk' : (upd (upd H3 sl (.lst (([0, 1, 2] : List Int).map V.int))) m (.lst [.int (-1)])) tk = none := htk
  obtain ⟨ts, ets, lts, bts⟩ : ∃ ts : List Int, (List.replicate n.toNat [V.int (-1)]).flatten = ts.map V.int ∧ ts.length = n.toNat ∧ ∀ (q : Nat), q < n.toNat → ts[q]? = some (-1) := by
    refine ⟨List.replicate n.toNat (-1), ?_, List.length_replicate, fun q hq => ?_⟩
    · generalize n.toNat = k
      induction k with
      | zero => rfl
      | succ k ih => rw [List.replicate_succ, List.flatten_cons, ih, List.replicate_succ]; rfl
    · rw [List.getElem?_replicate, if_pos hq]
  have W0 : WI H n.toNat l dk kp sl tk (upd (upd (upd H3 sl (.lst (([0, 1, 2] : List Int).map V.int))) m (.lst [.int (-1)])) tk (.lst (ts.map V.int))) 0 [] [] ds ds [0, 1, 2] ts := by
    have s6 := same_new htk' (.lst (ts.map V.int))
    have S4 := s4.trans (s5.trans s6)
    exact ⟨⟨s1.trans (s2.trans (s3.trans S4)), S4 _ _ (s3 _ _ (s2 _ _ e1)), .nil, fun l hl => by simp at hl, Nat.le_refl _⟩, S4 _ _ (s3 _ _ e2), S4 _ _ e3, (s5.trans s6) _ _ e4, upd_same, lds, lds, rfl, lts⟩
  have Af : Five H l dk kp sl tk := by
    have S1 := s1
    have S2 := S1.trans s2
    have S3 := S2.trans s3
    have S4 := S3.trans s4
    have S5 := S4.trans s5
    exact ⟨hl, S1.free hdk, S2.free hkp, S3.free hsl, S5.free htk', n12, n13, n14, ne_of_none (s5 _ _ (s4 _ _ (s3 _ _ (s2 _ _ e1)))) htk', n23, n24, ne_of_none (s5 _ _ (s4 _ _ (s3 _ _ e2))) htk', n34, ne_of_none (s5 _ _ (s4 _ _ e3)) htk', ne_of_none (s5 _ _ e4) htk'⟩
  have W1 : WI H n.toNat l dk kp sl tk (upd (upd (upd H3 sl (.lst (([0, 1, 2] : List Int).map V.int))) m (.lst [.int (-1)])) tk (.lst (List.replicate n.toNat [V.int (-1)]).flatten)) 0 [] [] ds ds [0, 1, 2] ts := by rw [ets]; exact W0
  have K1 : KI n.toNat (3 + ((0 : Nat) : Int)) [] ds ds [0, 1, 2] ts := KI.init lds bts
  clear W0 s1 e1 s2 e2 s3 e3 s4 e4 s5 e5 n12 n13 n14 n23 n24 n34 lts bts
  refine ⟨_, rfl, c, _, rfl, .inl (SqL.of (W1.g.sm _ _ hc)), _, rfl, by omega, by omega, for_range (fun i σ H6 => ∃ (xs : List V) (log : List LN) (ds ks ss ts : List Int) (o7 o8 o9 o10 o11 o12 o13 o14 o15 : Option V),
      σ = [some (.ref c), some (.int n), some (.ref l), some (.ref dk), some (.ref kp), some (.ref sl), some (.ref tk), o7, o8, o9, o10, o11, o12, o13, o14, o15] ∧ WI H n.toNat l dk kp sl tk H6 i xs log ds ks ss ts ∧ KI n.toNat (3 + (i : Int)) log ds ks ss ts)
    ⟨_, _, _, _, _, _, none, none, none, none, none, none, none, none, none, rfl, W1, K1⟩ ?_ ?_⟩
  · rintro i σ H6 hi ⟨xs, log, ds, ks, ss, ts, o7, o8, o9, o10, o11, o12, o13, o14, o15, rfl, W, KK⟩
    have e0 : (0 : Int) + (i : Int) = ((i : Nat) : Int) := by omega
    rw [e0]
    have hi' : i < cs.length := by omega
    have nd := W.nd
    have nt := W.nt
    have ns := W.ns
    obtain ⟨cell, a1, b1⟩ := at_int (ns := cs) (k := ((i : Nat) : Int)) (by omega) (by omega)
    refine ⟨_, rfl, _, rfl, c, _, _, _, rfl, rfl, SqL.of (W.g.sm _ _ hc), b1, ?_⟩
    refine ⟨_, rfl, _, _, rfl, rfl, (by decide : (0 : Int) < 4), ?_⟩
    refine ⟨_, rfl, _, rfl, _, _, rfl, rfl, .inl ⟨by decide, by decide⟩, _, _, rfl, rfl, ?_⟩
    refine ⟨_, rfl, _, rfl, _, _, _, rfl, by decide, by omega, fun pg p0 p1 => ?_⟩
    refine ⟨_, rfl, _, _, _, rfl, by decide, by decide, fun st t0 t1 => ?_⟩
    have epg : pg = ((pg.toNat : Nat) : Int) := by omega
    refine ⟨_, rfl, rfl, _, rfl, ite2 (fun _ => ?_) (fun _ => ?_)⟩
    · -- an end
      obtain ⟨z5, a5, b5⟩ := at_int (ns := ss) (k := st) t0 (by omega)
      refine ⟨_, rfl, .inl ⟨rfl, _, SqL.of W.g.hl⟩, _, rfl, _, rfl, sl, _, _, _, rfl, rfl, SqL.of W.hs, b5, le5, fun t ht => ?_⟩
      refine ⟨l, xs, .ref t, rfl, rfl, by rw [upd_ne (ne_of_none W.g.hl ht)]; exact W.g.hl, W.g.lt (by omega), ?_⟩
      have W2 := W.setL (ln := .fin z5) Af ht (o := .tup [.str "end", .int z5]) ⟨t, rfl, upd_same⟩ True.intro
      refine ⟨_, rfl, n, rfl, by omega, by omega, for_range (fun j σ H7 => ∃ (ks' ts' : List Int) (o13 : Option V),
          σ = [some (.ref c), some (.int n), some (.ref l), some (.ref dk), some (.ref kp), some (.ref sl), some (.ref tk), some (.int (i : Nat)), some (.int cell), some (.int (cell % 4)), some (.int (cell + 7919 * (i : Nat))), some (.int pg), some (.int st), o13, o14, o15] ∧
          WI H n.toNat l dk kp sl tk H7 (i + 1) (xs ++ [.ref t]) (log ++ [.fin z5]) ds ks' ss ts' ∧ EndI n.toNat j st.toNat ds ks ts ks' ts')
        ⟨ks, ts, _, rfl, W2, EndI.start KK⟩ ?_ ?_⟩
      · rintro j σ H7 hj ⟨ks', ts', o13, rfl, W3, EI⟩
        have ej : (0 : Int) + (j : Int) = ((j : Nat) : Int) := by omega
        rw [ej]
        have nt3 := W3.nt
        obtain ⟨t6, a6, b6⟩ := at_int (ns := ts') (k := ((j : Nat) : Int)) (by omega) (by omega)
        refine ⟨_, rfl, _, rfl, tk, _, _, _, rfl, rfl, SqL.of W3.ht, b6, _, rfl, rfl, _, rfl, ite2 (fun c6 => ?_) (fun c6 => ?_)⟩
        · have e6 : V.int t6 = V.int st := of_decide_eq_true c6
          injection e6 with e6
          obtain ⟨z7, a7, b7⟩ := at_int (ns := ds) (k := ((j : Nat) : Int)) (by omega) (by omega)
          have nk3 := W3.nk
          refine ⟨_, rfl, _, rfl, dk, _, _, _, rfl, rfl, SqL.of W3.hd, b7, _, rfl, _, rfl, kp, _, _, j, rfl, rfl, W3.hk, ixN_nat (by rw [List.length_map]; omega), ?_⟩
          rw [map_int_set]
          have W4 := W3.setK Af (ks' := ks'.set j z7) (by rw [List.length_set]; exact W3.nk)
          refine ⟨_, rfl, _, rfl, _, rfl, tk, _, _, j, rfl, rfl, W4.ht, ixN_nat (by rw [List.length_map]; omega), ?_⟩
          have W5 := W4.setT Af (ts' := ts'.set j (-1)) (by rw [List.length_set]; exact W3.nt)
          rw [← map_int_set ts'] at W5
          rw [Int.toNat_natCast] at a6 a7
          have es : (st.toNat : Int) = st := by omega
          exact ⟨ks'.set j z7, ts'.set j (-1), _, rfl, W5, EI.step hj (by rw [es, ← e6]; exact a6) a7⟩
        · have e6 : ¬ V.int t6 = V.int st := of_decide_eq_false (Bool.eq_false_iff.mpr c6)
          rw [Int.toNat_natCast] at a6
          exact ⟨_, _, _, rfl, W3, EI.skip a6 fun z => e6 (by rw [z]; congr 1; omega)⟩
      · rintro σ H7 ⟨ks', ts', o13, rfl, W3, EI⟩
        refine ⟨_, rfl, _, _, rfl, rfl, _, rfl, _, rfl, sl, _, _, st.toNat, rfl, rfl, W3.hs, ixN_in t0 (by rw [List.length_map, W3.ns]; omega), ?_⟩
        have W4 := W3.setS Af (ss' := ss.set st.toNat (3 + (i : Nat))) (by rw [List.length_set]; exact W3.ns)
        rw [← map_int_set] at W4
        have K2 := EI.done KK a5
        have em : (3 + (i : Int)) + 1 = 3 + ((i + 1 : Nat) : Int) := by omega
        rw [em] at K2
        exact ⟨_, _, _, _, _, _, _, _, _, _, _, _, _, _, _, rfl, W4, K2⟩
    · -- a put
      obtain ⟨t6, a6, b6⟩ := at_int (ns := ts) (k := pg) p0 (by omega)
      have tb6 : t6 ≤ 2 := KK.tb (by omega) a6
      refine ⟨_, rfl, _, rfl, tk, _, _, _, rfl, rfl, SqL.of W.ht, b6, _, _, rfl, rfl, _, rfl, ite2 (fun c1 => ?_) (fun c1 => ?_)⟩
      · have c2 : (0 : Int) ≤ t6 := of_decide_eq_true c1
        refine ⟨_, rfl, _, rfl, tk, _, _, _, rfl, rfl, SqL.of W.ht, b6, ?_⟩
        refine ⟨_, rfl, _, _, _, rfl, by decide, by decide, fun r1 _ _ => ⟨_, _, rfl, rfl, ?_⟩⟩
        refine ⟨_, rfl, _, _, rfl, rfl, .inr ⟨by decide, by decide⟩, _, _, rfl, rfl, ⟨by decide, by decide, by decide⟩, _, _, rfl, rfl, (show (0 : Int) < 10 ^ (30 : Int).toNat by decide), ?_⟩
        refine ⟨_, rfl, _, rfl, _, rfl, _, rfl, _, _, rfl, rfl, le5, fun t4 h4 => ?_⟩
        refine ⟨_, rfl, _, _, _, rfl, by decide, by decide, fun r2 g0 g1 => ?_⟩
        obtain ⟨num, a8, b8⟩ := at_int (ns := [r1 - 9, r1 - 9, cell * 48271 % 10 ^ (30 : Int).toNat, 0 - cell * 48271 % 10 ^ (30 : Int).toNat]) (k := r2) g0 g1
        have W2 := W.same (same_new h4 (.lst [.int (r1 - 9), .int (r1 - 9), .int (cell * 48271 % 10 ^ (30 : Int).toNat), .int (0 - cell * 48271 % 10 ^ (30 : Int).toNat)]))
        refine ⟨t4, _, _, _, rfl, rfl, SqL.of upd_same, b8, ?_⟩
        obtain ⟨z5, a5, b5⟩ := at_int (ns := ss) (k := t6) c2 (by omega)
        obtain ⟨z7, a7, b7⟩ := at_int (ns := ds) (k := pg) p0 (by omega)
        refine ⟨_, rfl, .inl ⟨rfl, _, SqL.of W2.g.hl⟩, _, rfl, _, rfl, sl, _, _, _, rfl, rfl, SqL.of W2.hs, b5, _, rfl, _, rfl, _, rfl, dk, _, _, _, rfl, rfl, SqL.of W2.hd, b7, _, rfl, le5, fun t ht => ?_⟩
        refine ⟨l, xs, .ref t, rfl, rfl, by rw [upd_ne (ne_of_none W2.g.hl ht)]; exact W2.g.hl, W2.g.lt (by omega), ?_⟩
        have W3 := W2.setL (ln := .put z5 pg.toNat z7 num) Af ht (o := .tup [.str "put", .int z5, .int pg, .int z7, .int num]) ⟨t, rfl, by rw [upd_same, ← epg]⟩ (show pg.toNat < n.toNat by omega)
        refine ⟨_, rfl, _, rfl, _, rfl, dk, _, _, pg.toNat, rfl, rfl, W3.hd, ixN_in p0 (by rw [List.length_map]; omega), ?_⟩
        have W4 := W3.setD Af (ds' := ds.set pg.toNat num) (by rw [List.length_set]; exact W3.nd)
        rw [← map_int_set] at W4
        refine ⟨_, rfl, _, rfl, _, rfl, tk, _, _, pg.toNat, rfl, rfl, W4.ht, ixN_in p0 (by rw [List.length_map]; omega), ?_⟩
        have W5 := W4.setT Af (ts' := ts.set pg.toNat t6) (by rw [List.length_set]; exact W3.nt)
        rw [← map_int_set ts] at W5
        have es : ((t6).toNat : Int) = t6 := by omega
        have K2 := KK.put (p := pg.toNat) (s := (t6).toNat) (d := z5) (o := z7) (num := num) (by omega) a5 (by omega) a7 (fun t e h => by rw [a6] at e; cases e; omega)
        have em : (3 + (i : Int)) + 1 = 3 + ((i + 1 : Nat) : Int) := by omega
        rw [em, es] at K2
        exact ⟨_, _, _, _, _, _, _, _, _, _, _, _, _, _, _, rfl, W5, K2⟩
      · refine ⟨_, rfl, _, _, _, rfl, by decide, by decide, fun r1 _ _ => ⟨_, _, rfl, rfl, ?_⟩⟩
        refine ⟨_, rfl, _, _, rfl, rfl, .inr ⟨by decide, by decide⟩, _, _, rfl, rfl, ⟨by decide, by decide, by decide⟩, _, _, rfl, rfl, (show (0 : Int) < 10 ^ (30 : Int).toNat by decide), ?_⟩
        refine ⟨_, rfl, _, rfl, _, rfl, _, rfl, _, _, rfl, rfl, le5, fun t4 h4 => ?_⟩
        refine ⟨_, rfl, _, _, _, rfl, by decide, by decide, fun r2 g0 g1 => ?_⟩
        obtain ⟨num, a8, b8⟩ := at_int (ns := [r1 - 9, r1 - 9, cell * 48271 % 10 ^ (30 : Int).toNat, 0 - cell * 48271 % 10 ^ (30 : Int).toNat]) (k := r2) g0 g1
        have W2 := W.same (same_new h4 (.lst [.int (r1 - 9), .int (r1 - 9), .int (cell * 48271 % 10 ^ (30 : Int).toNat), .int (0 - cell * 48271 % 10 ^ (30 : Int).toNat)]))
        refine ⟨t4, _, _, _, rfl, rfl, SqL.of upd_same, b8, ?_⟩
        obtain ⟨z5, a5, b5⟩ := at_int (ns := ss) (k := st) t0 (by omega)
        obtain ⟨z7, a7, b7⟩ := at_int (ns := ds) (k := pg) p0 (by omega)
        refine ⟨_, rfl, .inl ⟨rfl, _, SqL.of W2.g.hl⟩, _, rfl, _, rfl, sl, _, _, _, rfl, rfl, SqL.of W2.hs, b5, _, rfl, _, rfl, _, rfl, dk, _, _, _, rfl, rfl, SqL.of W2.hd, b7, _, rfl, le5, fun t ht => ?_⟩
        refine ⟨l, xs, .ref t, rfl, rfl, by rw [upd_ne (ne_of_none W2.g.hl ht)]; exact W2.g.hl, W2.g.lt (by omega), ?_⟩
        have W3 := W2.setL (ln := .put z5 pg.toNat z7 num) Af ht (o := .tup [.str "put", .int z5, .int pg, .int z7, .int num]) ⟨t, rfl, by rw [upd_same, ← epg]⟩ (show pg.toNat < n.toNat by omega)
        refine ⟨_, rfl, _, rfl, _, rfl, dk, _, _, pg.toNat, rfl, rfl, W3.hd, ixN_in p0 (by rw [List.length_map]; omega), ?_⟩
        have W4 := W3.setD Af (ds' := ds.set pg.toNat num) (by rw [List.length_set]; exact W3.nd)
        rw [← map_int_set] at W4
        refine ⟨_, rfl, _, rfl, _, rfl, tk, _, _, pg.toNat, rfl, rfl, W4.ht, ixN_in p0 (by rw [List.length_map]; omega), ?_⟩
        have W5 := W4.setT Af (ts' := ts.set pg.toNat st) (by rw [List.length_set]; exact W3.nt)
        rw [← map_int_set ts] at W5
        have es : ((st).toNat : Int) = st := by omega
        have K2 := KK.put (p := pg.toNat) (s := (st).toNat) (d := z5) (o := z7) (num := num) (by omega) a5 (by omega) a7 (fun t e h => by rw [a6] at e; cases e; exact absurd (decide_eq_true h) c1)
        have em : (3 + (i : Int)) + 1 = 3 + ((i + 1 : Nat) : Int) := by omega
        rw [em, es] at K2
        exact ⟨_, _, _, _, _, _, _, _, _, _, _, _, _, _, _, rfl, W5, K2⟩
  · rintro σ H6 ⟨xs, log, ds, ks, ss, ts, o7, o8, o9, o10, o11, o12, o13, o14, o15, rfl, W, KK⟩
    refine ⟨_, rfl, _, rfl, _, rfl, _, rfl, le5, fun r hr' => ?_⟩
    have W2 := W.same (same_new hr' (.tup [.ref l, .ref kp, .ref dk, .ref sl]))
    have := W.g.le
    exact q r l kp dk sl xs log ks ds ss _ _ _ W2.g.sm upd_same W2.g.hl W2.g.lg W2.g.ok (by omega) W2.hk W2.nk W2.hd W2.nd W2.hs W2.ns KK
end
end K07

set_option Elab.async false
set_option linter.all false
set_option maxRecDepth 100000
namespace K07
open PySem L2
section
variable {P : Program} {w : World} {K : PySem.W.Frag} {mg : Str → Option Value} {base : Heap} {f : Addr} {fd : FuncData}
/-! ### the class Cellar and behind -/
theorem scCI : FnScope ["self", "pages", "log"] ["self", "pages", "log"] (defScope sCInit) := ⟨rfl, rfl, rfl, by decide +kernel, rfl, by decide +kernel, by decide +kernel⟩
theorem ok_cinit {C : Addr} (F : Fun K "__init__" "Cellar.__init__" sCInit f fd) (B : Blt mg) (T : TxtCellar K mg C) : FnOk P w K mg base CX0 1 f fd ["self", "pages", "log"] (spCInit C) := by
  refine F.ok scCI (fun vs H Q E h => ?_) (fun cdv A outer s H vs Q E hr h => ?_)
  · obtain ⟨c, dx, a, b, ps, ls, rfl, _⟩ := h
    rfl
  obtain ⟨c, dx, a, b, ps, ls, rfl, hc, ha, hb, k⟩ := h
  refine ⟨_, (pss_cons (ps_fld (pv 0) (pe_callTy call_list_of rfl B.lst bList (pa_cons (pv 1) pa_nil)) rfl)
      (pss_one (ps_fld (pv 0) (pe_callTy call_list_of rfl B.lst bList (pa_cons (pv 2) pa_nil)) rfl))), ?_⟩
  refine ⟨_, rfl, a, ps, rfl, .inl (SqL.of ha), fun pg hpg => ?_⟩
  have ncp : c ≠ pg := ne_of_none hc hpg
  have nca : c ≠ a := ne_of hc ha (by intro z; cases z)
  have ncb : c ≠ b := ne_of hc hb (by intro z; cases z)
  have nbp : b ≠ pg := ne_of_none hb hpg
  refine ⟨_, rfl, c, C, dx, [], rfl, (by rw [upd_ne ncp]; exact hc), T.cl, T.nP, (by show 0 < 1000; decide), ?_⟩
  refine ⟨_, rfl, b, ls, rfl, .inl (SqL.of (by rw [upd_ne ncb.symm, upd_ne nbp]; exact hb)), fun lg hlg => ?_⟩
  have nlc : lg ≠ c := fun z => by rw [z, upd_same] at hlg; cases hlg
  have nlp : lg ≠ pg := fun z => by rw [z, upd_ne ncp.symm, upd_same] at hlg; cases hlg
  have hlg0 : H lg = none := by rw [upd_ne nlc, upd_ne nlp] at hlg; exact hlg
  refine ⟨_, rfl, c, C, dx, _, rfl, (by rw [upd_ne nlc.symm]; exact upd_same), T.cl, T.nL, (by show 1 < 1000; decide), ?_⟩
  refine k pg lg _ hpg hlg0 ⟨⟨dx, upd_same⟩, by rw [upd_ne ncp.symm, upd_ne nlp.symm, upd_ne ncp.symm, upd_same], by rw [upd_ne nlc, upd_same], nlp.symm⟩ fun d o e hd => ?_
  rw [upd_ne hd, upd_ne (ne_of_none e hlg0), upd_ne hd, upd_ne (ne_of_none e hpg)]
  exact e
theorem scDo : FnScope ["self", "stroke"] ["self", "stroke"] (defScope sDo) := ⟨rfl, rfl, rfl, by decide +kernel, rfl, by decide +kernel, by decide +kernel⟩
theorem ok_do {C : Addr} (F : Fun K "do_stroke" "Cellar.do_stroke" sDo f fd) (T : TxtCellar K mg C) : FnOk P w K mg base CX0 1 f fd ["self", "stroke"] (spDo C) := by
  refine F.ok scDo (fun vs H Q E h => ?_) (fun cdv A outer s H vs Q E hr h => ?_)
  · obtain ⟨c, pg, lg, x, ps, ls, sk, rfl, _⟩ := h
    rfl
  obtain ⟨c, pg, lg, x, ps, ls, sk, rfl, ⟨⟨dx, h1⟩, hp, hl, npl⟩, hat, hok, zl, k⟩ := h
  have ncp : c ≠ pg := ne_of h1 hp (by intro z; cases z)
  have ncl : c ≠ lg := ne_of h1 hl (by intro z; cases z)
  refine ⟨_, (pss_one (ps_if (pt_cmpR op_eq (pe_ix ix_tup (pv 1) pe_int (fun _ _ => rfl)) pe_str (nomark _))
      (pss_one (ps_expr (pe_bm PySem.F.plainAttrs_list PySem.F.slot_list_append PySem.F.type_list_append mt_append (pe_fld (pv 0) rfl) (pa_cons (pe_ix ix_tup (pv 1) pe_int (fun _ _ => rfl)) pa_nil))))
      (pss_one (ps_if (pt_cmpR op_eq (pe_ix ix_tup (pv 1) pe_int (fun _ _ => rfl)) pe_str (nomark _))
      (pss_one (ps_asg (pe_ix ix_tup (pv 1) pe_int (fun _ _ => rfl)) (pg_sub (pe_fld (pv 0) rfl) (pe_ix ix_tup (pv 1) pe_int (fun _ _ => rfl)) set_list)))
      (pss_one (ps_if (pt_cmpR op_eq (pe_ix ix_tup (pv 1) pe_int (fun _ _ => rfl)) pe_str (nomark _))
      (pss_one (ps_fld (pv 0) (pe_slice sl_list (pe_fld (pv 0) rfl) (po_some (pe_ix ix_tup (pv 1) pe_int (fun _ _ => rfl))) po_none) rfl))
      pss_nil)))))), ?_⟩
  cases sk with
  | line v =>
    obtain ⟨t, rfl, ht⟩ := hat
    refine ⟨_, rfl, t, _, _, _, rfl, rfl, SqT.of ht, rfl, rfl, _, rfl, ifT rfl ?_⟩
    refine ⟨_, rfl, c, C, dx, _, _, rfl, h1, T.cl, T.nL, cflds_log _ _, .inl ⟨rfl, _, SqL.of hl⟩, _, rfl, t, _, _, _, rfl, rfl, SqT.of ht, rfl, lg, _, v, rfl, rfl, hl, line_lt (by omega), ?_⟩
    refine k lg _ ⟨⟨dx, by rw [upd_ne ncl]; exact h1⟩, by rw [upd_ne npl]; exact hp, upd_same, npl⟩ (.inl rfl) fun b o e _ _ n3 => ?_
    rw [upd_ne n3]
    exact e
  | page j n =>
    obtain ⟨t, rfl, ht⟩ := hat
    refine ⟨_, rfl, t, _, _, _, rfl, rfl, SqT.of ht, rfl, rfl, _, rfl, ifF pl_ne ?_⟩
    refine ⟨_, rfl, t, _, _, _, rfl, rfl, SqT.of ht, rfl, rfl, _, rfl, ifT rfl ?_⟩
    refine ⟨_, rfl, t, _, _, _, rfl, rfl, SqT.of ht, rfl, _, rfl, c, C, dx, _, _, rfl, h1, T.cl, T.nP, cflds_pages _ _, _, rfl, t, _, _, _, rfl, rfl, SqT.of ht, rfl, pg, _, _, j, rfl, rfl, hp, ixN_nat hok, ?_⟩
    refine k lg _ ⟨⟨dx, by rw [upd_ne ncp]; exact h1⟩, upd_same, by rw [upd_ne npl.symm]; exact hl, npl⟩ (.inl rfl) fun b o e _ n2 _ => ?_
    rw [upd_ne n2]
    exact e
  | cut m =>
    obtain ⟨t, rfl, ht⟩ := hat
    refine ⟨_, rfl, t, _, _, _, rfl, rfl, SqT.of ht, rfl, rfl, _, rfl, ifF cl_ne ?_⟩
    refine ⟨_, rfl, t, _, _, _, rfl, rfl, SqT.of ht, rfl, rfl, _, rfl, ifF cp_ne ?_⟩
    refine ⟨_, rfl, t, _, _, _, rfl, rfl, SqT.of ht, rfl, rfl, _, rfl, ifT rfl ?_⟩
    refine ⟨_, rfl, c, C, dx, _, _, rfl, h1, T.cl, T.nL, cflds_log _ _, _, rfl, t, _, _, _, rfl, rfl, SqT.of ht, rfl, m, rfl, lg, _, rfl, SqL.of hl, fun lg' hlg' => ?_⟩
    have ncl' : c ≠ lg' := ne_of_none h1 hlg'
    have npl' : pg ≠ lg' := ne_of_none hp hlg'
    refine ⟨_, rfl, c, C, dx, _, rfl, (by rw [upd_ne ncl']; exact h1), T.cl, T.nL, (by rw [cflds_eq]; show 2 < 1000; decide), ?_⟩
    refine k lg' _ ⟨⟨dx, Eq.trans upd_same (congrArg (fun l => some (HO.ins C dx l)) (cflds_put _ _ _))⟩, by rw [upd_ne ncp.symm, upd_ne npl']; exact hp, by rw [upd_ne ncl'.symm, upd_same]; rfl, npl'⟩ (.inr hlg') fun b o e n1 _ _ => ?_
    rw [upd_ne n1, upd_ne (ne_of_none e hlg')]
    exact e
theorem scBehind : FnScope ["pages", "log", "strokes", "cellar", "stroke"] ["pages", "log", "strokes"] (defScope sBehind) := ⟨rfl, rfl, rfl, by decide +kernel, rfl, by decide +kernel, by decide +kernel⟩
theorem ok_behind {C gI gD : Addr} {dI dD : FuncData} (F : Fun K "behind" "behind" sBehind f fd) (T : TxtCellar K mg C) (M : Mk K C gI) (GI : FnOk P w K mg base CX0 1 gI dI ["self", "pages", "log"] (spCInit C)) (bI : Binds K dI ["self", "pages", "log"] [])
    (GD : FnOk P w K mg base CX0 1 gD dD ["self", "stroke"] (spDo C)) (bD : Binds K dD ["self", "stroke"] []) (mD : Meth K C "do_stroke" gD) : FnOk P w K mg base CX0 3 f fd ["pages", "log", "strokes"] spBehind := by
  refine F.ok scBehind (fun vs H Q E h => ?_) (fun cdv A outer s H vs Q E hr h => ?_)
  · obtain ⟨p, l, s, ps, ls, xs, sks, rfl, _⟩ := h
    rfl
  obtain ⟨p, l, s0, ps, ls, xs, sks, rfl, hp, hl, hs, hS, hok, zl, q⟩ := h
  refine ⟨_, (pss_cons (ps_set (i := 3) scBehind.nd rfl (Or.inl rfl) (pe_make M GI hr rfl T.mgC bI .nil pass0 (pa_cons (pv 0) (pa_cons (pv 1) pa_nil))))
      (pss_cons (ps_for PassesOwn.never rfl (pi_list (pv 2)) (pg_name (i := 4) scBehind.nd rfl (Or.inl rfl))
      (pss_one (ps_expr (pe_meth (pv 3) T.cl mD GD (hr.mono (by decide)) bD .nil pass0 (pa_cons (pv 4) pa_nil)))))
      (pss_one (ps_ret (pe_tup (pa_cons (pe_fld (pv 3) rfl) (pa_cons (pe_fld (pv 3) rfl) pa_nil))))))), ?_⟩
  refine ⟨_, rfl, _, rfl, ?_⟩
  intro c dx nc ndx nex
  have s0' : Same H (upd (upd H dx (.own c)) c (.ins C dx [])) := fun b o e => by
    rw [upd_ne (ne_of_none e nc), upd_ne (ne_of_none e ndx)]
    exact e
  refine ⟨c, dx, p, l, ps, ls, rfl, upd_same, s0' _ _ hp, s0' _ _ hl, fun pg lg H1 npg nlg CA kp => ⟨rfl, ?_⟩⟩
  have npg0 : H pg = none := s0'.free npg
  have nlg0 : H lg = none := s0'.free nlg
  have s1 : Same H H1 := fun b o e => kp b o (s0' b o e) (ne_of_none e nc)
  refine ⟨_, rfl, s0, rfl, ⟨xs, SqL.of (s1 _ _ hs)⟩, for_list (K := K) (a := s0) (xs := xs) (fun i σ H2 => ∃ (lg : Addr) (o : Option V), σ = [some (.ref p), some (.ref l), some (.ref s0), some (.ref c), o] ∧ Same H H2 ∧ H lg = none ∧
      CellAt C H2 c pg lg ((sks.take i).foldl SK.pg ps) ((sks.take i).foldl SK.lg ls))
    ⟨lg, none, rfl, s1, nlg0, CA⟩ (fun i σ H2 _ ⟨_, _, _, s3, _⟩ => SqL.of (s3 _ _ hs)) ?_ ?_⟩
  · rintro i x σ H2 hi ⟨lg, o, rfl, s3, nlg0, CA⟩
    obtain ⟨sk, hsk, hat⟩ := hS.get i x hi
    have hk := hok sk (List.mem_of_getElem? hsk)
    have hat2 := hat.mono s3.keepT
    obtain ⟨⟨dy, h1⟩, _⟩ := id CA
    refine ⟨_, rfl, c, dy, _, rfl, h1, cflds_no _ _ (by decide +kernel) (by decide +kernel), _, rfl, c, pg, lg, x, _, _, sk, rfl, CA, hat2, by rw [pgs_len]; exact hk, zl i, fun lg' H3 CA' hlg' kp' => ?_⟩
    refine ⟨lg', _, rfl, fun b o e => kp' b o (s3 b o e) (ne_of_none e nc) (ne_of_none e npg0) (ne_of_none e nlg0), ?_, by rw [fold_take _ _ _ _ _ hsk, fold_take _ _ _ _ _ hsk]; exact CA'⟩
    rcases hlg' with z | z
    · rw [z]; exact nlg0
    · exact s3.free z
  · rintro σ H2 ⟨lg, o, rfl, s3, nlg0, ⟨⟨dy, h1⟩, ea, eb, nab⟩⟩
    rw [take_all hS] at ea eb
    refine ⟨_, rfl, c, C, dy, _, _, rfl, h1, T.cl, T.nP, cflds_pages _ _, _, rfl, c, C, dy, _, _, rfl, h1, T.cl, T.nL, cflds_log _ _, le5, fun r hr' => ?_⟩
    exact q r pg lg _ (s3.trans (same_new hr' _)) npg0 nlg0 nab upd_same (by rw [upd_ne (ne_of_none ea hr')]; exact ea) (by rw [upd_ne (ne_of_none eb hr')]; exact eb)
def spWant : Sp := fun vs H Q _ => ∃ (p l : Addr) (ps : List Int) (xs : List V) (log : List LN), vs = [.ref p, .ref l] ∧ H p = some (.lst (ps.map V.int)) ∧ ps.length ≤ 1000 ∧ H l = some (.lst xs) ∧ LogAt H log xs ∧ log.length ≤ 1000 ∧ (∀ ln ∈ log, ln.ok ps.length) ∧
  ∀ (r : Addr) (ks : List Int) (H' : Hp), Same H H' → H r = none → H' r = some (.lst (ks.map V.int)) → ks.length = ps.length → (∀ (q : Nat) (v : Int), ps[q]? = some v → ks[q]? = some (wantP log q v)) → Q (.ref r) H'
theorem scWant : FnScope ["pages", "log", "numbers", "line", "ended"] ["pages", "log"] (defScope sWant) := ⟨rfl, rfl, rfl, by decide +kernel, rfl, by decide +kernel, by decide +kernel⟩
set_option maxHeartbeats 4000000 in
theorem ok_want (F : Fun K "wanted" "wanted" sWant f fd) (B : Blt mg) : FnOk P w K mg base CX0 1 f fd ["pages", "log"] spWant := by
  refine F.ok scWant (fun vs H Q E h => ?_) (fun cdv A outer s H vs Q E hr h => ?_)
  · obtain ⟨p, l, ps, xs, log, rfl, _⟩ := h
    rfl
  obtain ⟨p, l, ps, xs, log, rfl, hp, zp, hl, hL, zl, hok, q⟩ := h
  have hu := hu_of hr
  have lx := hL.1
  refine ⟨_, (pss_cons (ps_set (i := 2) scWant.nd rfl (Or.inl rfl) (pe_callTy call_list_of rfl B.lst bList (pa_cons (pv 0) pa_nil)))
      (pss_cons (ps_for PassesOwn.never rfl (pi_list (pv 1)) (pg_name (i := 3) scWant.nd rfl (Or.inl rfl))
      (pss_one (ps_if (pt_cmpR op_eq (pe_ix ix_tup (pv 3) pe_int (fun _ _ => rfl)) pe_str (nomark _))
      (pss_one (ps_asg (pe_ix ix_tup (pv 3) pe_int (fun _ _ => rfl)) (pg_sub (pv 2) (pe_ix ix_tup (pv 3) pe_int (fun _ _ => rfl)) set_list)))
      pss_nil)))
      (pss_cons (ps_set (i := 4) scWant.nd rfl (Or.inl rfl) (pe_callTy (call_dictP hr.hd) rfl B.dct bDict (pa_cons (pe_compT [] ["line"] (BlkOk.plain (by decide +kernel) rfl rfl) rfl (pi_list (pv 1)) (fun C s1 H1 fp => (pt_cmpR op_eq (pe_ix (ix_tupK (K := K) rfl) (pv 0) pe_int (fun _ _ => rfl)) pe_str (nomark _))) (fun C s1 H1 fp => (pe_tup (pa_cons (pe_ix (ix_tupK (K := K) rfl) (pv 0) pe_int (fun _ _ => rfl)) (pa_cons pe_bl pa_nil))))) pa_nil)))
      (pss_cons (ps_for PassesOwn.never rfl (pi_rev rfl B.rev (pv 1)) (pg_name (i := 3) scWant.nd rfl (Or.inl rfl))
      (pss_one (ps_if (pt_and2 (pt_cmpR op_eq (pe_ix ix_tup (pv 3) pe_int (fun _ _ => rfl)) pe_str (nomark _)) (pt_cmp (pc_dnotin hu (pe_ix ix_tup (pv 3) pe_int (fun _ _ => rfl)) (pv 4))))
      (pss_one (ps_asg (pe_ix ix_tup (pv 3) pe_int (fun _ _ => rfl)) (pg_sub (pv 2) (pe_ix ix_tup (pv 3) pe_int (fun _ _ => rfl)) set_list)))
      pss_nil)))
      (pss_one (ps_ret (pv 2))))))), ?_⟩
  refine ⟨_, rfl, p, _, rfl, .inl (SqL.of hp), fun r h0 => ?_⟩
  have s1 := same_new h0 (.lst (ps.map V.int))
  have e1 : (upd H r (.lst (ps.map V.int))) r = some (.lst (ps.map V.int)) := upd_same
  generalize upd H r (.lst (ps.map V.int)) = H1 at s1 e1 ⊢
  -- forwards
  refine ⟨_, rfl, l, rfl, ⟨xs, SqL.of (s1 _ _ hl)⟩, for_list (K := K) (a := l) (xs := xs) (fun i σ H2 => ∃ (ns : List Int) (o : Option V), σ = [some (.ref p), some (.ref l), some (.ref r), o, none] ∧ Same H H2 ∧ H2 r = some (.lst (ns.map V.int)) ∧ Fwd log i ps ns)
    ⟨ps, none, rfl, s1, e1, Fwd.start _ _⟩ (fun i σ H2 _ ⟨_, _, _, s2, _⟩ => SqL.of (s2 _ _ hl)) ?_ ?_⟩
  · rintro i x σ H2 hi ⟨ns, o, rfl, s2, er, FW⟩
    obtain ⟨ln, hln, hat⟩ := hL.get hi
    have hat2 := hat.mono s2.keepT
    have hk := hok ln (List.mem_of_getElem? hln)
    cases ln with
    | fin d =>
      obtain ⟨c, rfl, hc⟩ := hat2
      refine ⟨_, rfl, c, _, _, _, rfl, rfl, SqT.of hc, rfl, rfl, _, rfl, ifF pe_ne ?_⟩
      exact ⟨ns, _, rfl, s2, er, FW.fin hln⟩
    | put d p' o' n =>
      obtain ⟨c, rfl, hc⟩ := hat2
      refine ⟨_, rfl, c, _, _, _, rfl, rfl, SqT.of hc, rfl, rfl, _, rfl, ifT rfl ?_⟩
      have hp' : p' < ns.length := by rw [FW.1]; exact hk
      refine ⟨_, rfl, c, _, _, _, rfl, rfl, SqT.of hc, rfl, _, rfl, _, rfl, c, _, _, _, rfl, rfl, SqT.of hc, rfl, r, _, _, p', rfl, rfl, er, by rw [List.length_map]; exact ixN_nat hp', ?_⟩
      exact ⟨ns.set p' n, _, rfl, s2.upd_new h0, by rw [upd_same, map_int_set], FW.put hln⟩
  rintro σ H2 ⟨ns, o, rfl, s2, er, FW⟩
  rw [← lx] at FW
  -- the ended
  refine ⟨_, rfl, l, rfl, ⟨xs, SqL.of (s2 _ _ hl)⟩, fun acc hacc => compT_ends (K := K) (w := .bl true) (s2 _ _ hl) (hL.mono fun a x h => h.mono s2.keepT) hacc zl (fun ln x H3 k hat hk => ?_) (fun d x H3 k hat hk => ?_) fun ys H3 s3 eacc hys ly => ?_⟩
  · cases ln with
    | fin d =>
      obtain ⟨c, rfl, hc⟩ := hat
      refine ⟨_, rfl, c, _, _, _, rfl, rfl, SqT.of hc, rfl, rfl, _, rfl, ?_⟩
      have e : decide (V.str "end" = V.str "end") = true := decide_eq_true rfl
      rw [e]
      exact hk
    | put d p o n =>
      obtain ⟨c, rfl, hc⟩ := hat
      refine ⟨_, rfl, c, _, _, _, rfl, rfl, SqT.of hc, rfl, rfl, _, rfl, ?_⟩
      rw [decide_eq_false ep_ne]
      exact hk
  · obtain ⟨c, rfl, hc⟩ := hat
    exact ⟨_, rfl, c, _, _, _, rfl, rfl, SqT.of hc, rfl, le5, hk⟩
  refine ⟨acc, ys, (ends log).map fun n => ((Sum.inl n : Key), V.bl true), rfl, eacc, fun j x hx => ?_, by rw [List.length_map]; exact hys.1, by omega, fun u hu' => ?_⟩
  · obtain ⟨z, h1, h2⟩ := hys.get hx
    exact ⟨_, by rw [List.getElem?_map, h1]; rfl, h2⟩
  have hin : ∀ z : Int, (valV (putAll [] ((ends log).map fun n => ((Sum.inl n : Key), V.bl true))) (Sum.inl z : Key)).isSome = endedB log z := fun z => by
    have e : decide (z ∈ ends log) = endedB log z := by
      cases h : endedB log z with
      | true => exact decide_eq_true (ends_mem.mpr h)
      | false => exact decide_eq_false fun w => by rw [ends_mem.mp w] at h; cases h
    rw [putAll_has, valV_nil, e]
    simp
  have s4 := s2.trans (s3.trans (same_new hu' (.dK (putAll [] ((ends log).map fun n => ((Sum.inl n : Key), V.bl true))))))
  have er4 := (same_new hu' (.dK (putAll [] ((ends log).map fun n => ((Sum.inl n : Key), V.bl true))))) _ _ (s3 _ _ er)
  have eu : (upd H3 u (.dK (putAll [] ((ends log).map fun n => ((Sum.inl n : Key), V.bl true))))) u = some (.dK (putAll [] ((ends log).map fun n => ((Sum.inl n : Key), V.bl true)))) := upd_same
  generalize (putAll [] ((ends log).map fun n => ((Sum.inl n : Key), V.bl true))) = us at hin s4 er4 eu ⊢
  have nur : u ≠ r := (ne_of_none (s3 _ _ er) hu').symm
  generalize upd H3 u (.dK us) = H4 at s4 er4 eu ⊢
  clear s3 eacc hys hacc hu' s1 e1 s2 er
  -- backwards
  refine ⟨_, rfl, l, xs, rfl, SqL.of (s4 _ _ hl), for_rev (K := K) (a := l) (xs := xs) (fun i σ H5 => ∃ (ms : List Int) (o : Option V), σ = [some (.ref p), some (.ref l), some (.ref r), o, some (.ref u)] ∧ Same H H5 ∧ H5 r = some (.lst (ms.map V.int)) ∧ H5 u = some (.dK us) ∧ Bwd log i ns ms)
    ⟨ns, o, rfl, s4, er4, eu, Bwd.start _ _⟩ (fun i σ H2 _ ⟨_, _, _, s2, _⟩ => SqL.of (s2 _ _ hl)) ?_ ?_⟩
  · rintro i x σ H5 hi hx ⟨ms, o5, rfl, s5, er5, eu5, BW⟩
    obtain ⟨ln, hln, hat⟩ := hL.get hx
    have hat2 := hat.mono s5.keepT
    have hk := hok ln (List.mem_of_getElem? hln)
    rw [← lx] at hln hi
    cases ln with
    | fin d =>
      obtain ⟨c, rfl, hc⟩ := hat2
      refine ⟨_, rfl, c, _, _, _, rfl, rfl, SqT.of hc, rfl, rfl, _, rfl, ifF pe_ne (iteF ?_)⟩
      exact ⟨ms, _, rfl, s5, er5, eu5, BW.fin hi hln⟩
    | put d p' o' n =>
      obtain ⟨c, rfl, hc⟩ := hat2
      refine ⟨_, rfl, c, _, _, _, rfl, rfl, SqT.of hc, rfl, rfl, _, rfl, ifT rfl ?_⟩
      refine ⟨_, rfl, c, _, _, _, rfl, rfl, SqT.of hc, rfl, _, rfl, u, _, rfl, DGet.k (k := Sum.inl d) eu5, _, rfl, ?_⟩
      have hp' : p' < ms.length := by rw [BW.1, FW.1]; exact hk
      have hd := hin d
      cases e : valV us (Sum.inl d : Key) with
      | some v =>
        rw [e] at hd
        refine iteF ?_
        exact ⟨ms, _, rfl, s5, er5, eu5, BW.kept hi hln hd.symm⟩
      | none =>
        rw [e] at hd
        refine iteT ?_
        refine ⟨_, rfl, c, _, _, _, rfl, rfl, SqT.of hc, rfl, _, rfl, _, rfl, c, _, _, _, rfl, rfl, SqT.of hc, rfl, r, _, _, p', rfl, rfl, er5, by rw [List.length_map]; exact ixN_nat hp', ?_⟩
        exact ⟨ms.set p' o', _, rfl, s5.upd_new h0, by rw [upd_same, map_int_set], by rw [upd_ne nur]; exact eu5, BW.lost hi hln hd.symm⟩
  · rintro σ H5 ⟨ms, o5, rfl, s5, er5, eu5, BW⟩
    rw [← lx] at BW
    obtain ⟨w1, w2⟩ := want_of FW BW
    exact ⟨_, rfl, q r ms H5 s5 h0 er5 w1 w2⟩
def spUp : Sp := fun vs H Q _ => ∃ (p l : Addr) (ps : List Int) (xs : List V) (log : List LN), vs = [.ref p, .ref l] ∧ H p = some (.lst (ps.map V.int)) ∧ ps.length ≤ 1000 ∧ H l = some (.lst xs) ∧ LogAt H log xs ∧ log.length ≤ 1000 ∧ (∀ ln ∈ log, ln.ok ps.length) ∧
  ∀ (r : Addr) (ks : List Int) (zs : List V) (H' : Hp), Same H H' → H r = none → H' r = some (.lst zs) → ks.length = ps.length → (∀ (q : Nat) (v : Int), ps[q]? = some v → ks[q]? = some (wantP log q v)) → Reps H' ((upS ps ks log.length).map SM.D) zs → Q (.ref r) H'
theorem scUp : FnScope ["pages", "log", "numbers", "strokes"] ["pages", "log"] (defScope sUp) := ⟨rfl, rfl, rfl, by decide +kernel, rfl, by decide +kernel, by decide +kernel⟩
set_option maxHeartbeats 4000000 in
theorem ok_up {gT : Addr} {dT : FuncData} (F : Fun K "up" "up" sUp f fd) (B : Blt mg) (GT : FnOk P w K mg base CX0 1 gT dT ["pages", "log"] spWant) (bT : Binds K dT ["pages", "log"] []) (kT : PySem.W.keepIn K (.ref gT) = true) (mT : mg "wanted" = some (.ref gT)) : FnOk P w K mg base CX0 2 f fd ["pages", "log"] spUp := by
  refine F.ok scUp (fun vs H Q E h => ?_) (fun cdv A outer s H vs Q E hr h => ?_)
  · obtain ⟨p, l, ps, xs, log, rfl, _⟩ := h
    rfl
  obtain ⟨p, l, ps, xs, log, rfl, hp, zp, hl, hL, zl, hok, q⟩ := h
  have hu := hu_of hr
  have lx := hL.1
  refine ⟨_, (pss_cons (ps_set (i := 2) scUp.nd rfl (Or.inl rfl) (pe_call GT (hr.mono (by decide)) rfl mT kT bT .nil pass0 (pa_cons (pv 0) (pa_cons (pv 1) pa_nil))))
      (pss_cons (ps_compG (i := 3) [0] ["page", "number", "pages"] scUp.nd rfl rfl (BlkG.one2 (x1 := "page") (x2 := "number") (fv := "pages") (j := 0) rfl (by decide +kernel) (by decide +kernel) rfl (by decide +kernel) rfl (by decide +kernel) rfl rfl rfl) rfl (pi_enum rfl B.enu (pa_cons (pv 2) pa_nil))
        (fun C s1 H1 fp => (pg_tupK (K := K) (n := 2) rfl rfl (pgs_cons (pg_own (i := 0) (by decide +kernel) rfl rfl) (pgs_cons (pg_own (i := 1) (by decide +kernel) rfl rfl) pgs_nil)))) (fun C s1 H1 fp => (pt_cmpR op_ne (pv 1) (pe_ix (ix_listK (K := K) rfl) (pv 2) (pv 0) (fun _ _ => rfl)) (nomark _))) (fun C s1 H1 fp => (pe_tup (pa_cons pe_str (pa_cons (pv 0) (pa_cons (pv 1) pa_nil))))))
      (pss_cons (ps_if (pt_cmpR op_gt (pe_callB call_len_seq rfl B.len PySem.boot_len (pa_cons (pv 1) pa_nil)) pe_int (nomark _))
      (pss_one (ps_expr (pe_bm PySem.F.plainAttrs_list PySem.F.slot_list_append PySem.F.type_list_append mt_append (pv 3) (pa_cons (pe_tup (pa_cons pe_str (pa_cons (pe_callB call_len_seq rfl B.len PySem.boot_len (pa_cons (pv 1) pa_nil)) pa_nil))) pa_nil))))
      pss_nil)
      (pss_one (ps_ret (pv 3)))))), ?_⟩
  refine ⟨_, rfl, _, rfl, p, l, ps, xs, log, rfl, hp, zp, hl, hL, zl, hok, fun nu ks H1 s1 hnu enu lk hw => ?_⟩
  refine ⟨_, rfl, nu, rfl, ⟨_, SqL.of enu⟩, fun acc hacc => compG_pages (K := K) (ps := ps) enu hacc (by omega) lk (fun i k v H3 c h1 h2 s3 hc => ?_) (fun i k H3 c s3 hc => ?_) fun ys H3 s3 eacc hys ly => ?_⟩
  · exact ⟨_, rfl, _, rfl, _, rfl, p, _, _, _, rfl, rfl, SqL.of (s3 _ _ (s1 _ _ hp)), atI_int h2, rfl, _, rfl, hc⟩
  · exact ⟨_, rfl, _, rfl, le5, hc⟩
  have S3 := s1.trans s3
  have ha0 : H acc = none := s1.free hacc
  refine ⟨_, rfl, l, _, rfl, .inl (SqL.of (S3 _ _ hl)), _, _, rfl, rfl, _, rfl, ite2 (fun c1 => ?_) (fun c1 => ?_)⟩
  · have c2 : (0 : Int) < ((xs.length : Nat) : Int) := of_decide_eq_true c1
    refine ⟨_, rfl, .inl ⟨rfl, _, SqL.of eacc⟩, _, rfl, l, _, rfl, .inl (SqL.of (S3 _ _ hl)), le5, fun t ht => ?_⟩
    refine ⟨acc, ys, .ref t, rfl, rfl, by rw [upd_ne (ne_of_none eacc ht)]; exact eacc, line_lt (by omega), ?_⟩
    have s4 := same_new ht (.tup [.str "cut", .int ((xs.length : Nat) : Int)])
    have nta : t ≠ acc := (ne_of_none eacc ht).symm
    have kt : KeepT (upd H3 t (.tup [.str "cut", .int ((xs.length : Nat) : Int)])) (upd (upd H3 t (.tup [.str "cut", .int ((xs.length : Nat) : Int)])) acc (.lst (ys ++ [.ref t]))) := fun b us hb => by
      rw [upd_ne (ne_of hb (s4 _ _ eacc) (fun z => nomatch z))]
      exact hb
    refine ⟨_, rfl, q acc ks (ys ++ [.ref t]) _ ((S3.trans s4).upd_new ha0) ha0 upd_same lk hw ?_⟩
    have e : upS ps ks log.length = pageS ps ks ks.length ++ [.cut xs.length] := by
      unfold upS cutS
      rw [lx, if_neg (by omega)]
    rw [e]
    refine reps_snoc (Reps.keep kt _ _ (flat_strokes _) (Reps.mono s4 _ _ hys)) (rep_cut ?_)
    rw [upd_ne nta, upd_same]
  · have c2 : ¬ (0 : Int) < ((xs.length : Nat) : Int) := fun z => c1 (decide_eq_true z)
    refine ⟨_, rfl, q acc ks ys _ S3 ha0 eacc lk hw ?_⟩
    have e : upS ps ks log.length = pageS ps ks ks.length := by
      unfold upS cutS
      rw [lx, if_pos (by omega), List.append_nil]
    rw [e]
    exact hys
end
end K07

set_option Elab.async false
set_option linter.all false
set_option maxRecDepth 100000
namespace K07
open PySem L2
section
variable {P : Program} {w : World} {K : PySem.W.Frag} {mg : Str → Option Value} {base : Heap} {f : Addr} {fd : FuncData}
theorem lg_noLine : ∀ (l : List SM) (ls : List V), (∀ s ∈ l, s.noLine) → ((l.map SM.sk).foldl SK.lg ls).length ≤ ls.length
  | [], _, _ => Nat.le_refl _
  | s :: r, ls, h => by
    have ih := lg_noLine r (SK.lg ls s.sk) fun s hs => h s (List.mem_cons_of_mem _ hs)
    rw [List.map_cons, List.foldl_cons]
    refine Nat.le_trans ih ?_
    cases s with
    | line ln => exact (h _ List.mem_cons_self).elim
    | page p n => exact Nat.le_refl _
    | cut k => exact cutV_length ls _ _
theorem Wt.ex (ps : List Int) (log : List LN) : ∃ ks, Wt ps log ks := by
  refine ⟨(List.range ps.length).map fun q => wantP log q ((ps[q]?).getD 0), by rw [List.length_map, List.length_range], fun q v hv => ?_⟩
  have hq := (List.getElem?_eq_some_iff.mp hv).1
  rw [List.getElem?_map, List.getElem?_range hq]
  show some (wantP log q ((ps[q]?).getD 0)) = _
  rw [hv]
  rfl
/-- pages and log at addresses, on the way to ks -/
structure MidAt (H : Hp) (pg lg : Addr) (ps : List Int) (xs : List V) (log : List LN) (ks : List Int) (z n : Nat) : Prop where
  hp : H pg = some (.lst (ps.map V.int))
  hl : H lg = some (.lst xs)
  lo : LogAt H log xs
  ok : ∀ ln ∈ log, ln.ok ps.length
  lp : ps.length = z
  ll : log.length ≤ n
  wt : Wt ps log ks
theorem MidAt.mono {H H' : Hp} {pg lg : Addr} {ps : List Int} {xs : List V} {log : List LN} {ks : List Int} {z n : Nat} (M : MidAt H pg lg ps xs log ks z n) (s : Same H H') : MidAt H' pg lg ps xs log ks z n :=
  ⟨s _ _ M.hp, s _ _ M.hl, M.lo.mono fun a x h => h.mono s.keepT, M.ok, M.lp, M.ll, M.wt⟩
/-- behind the first j strokes -/
theorem MidAt.next {H H' : Hp} {pg lg p' l' : Addr} {ps : List Int} {xs : List V} {log : List LN} {ks : List Int} {z n : Nat} (M : MidAt H pg lg ps xs log ks z n) (s : Same H H') (j : Nat)
    (hp : H' p' = some (.lst ((((upS ps ks log.length).take j).map SM.sk).foldl SK.pg (ps.map V.int)))) (hl : H' l' = some (.lst ((((upS ps ks log.length).take j).map SM.sk).foldl SK.lg xs))) :
    ∃ xs', MidAt H' p' l' (L2.upTo ps ks log j).1 xs' (L2.upTo ps ks log j).2 ks z n ∧ (ks.length + 1 ≤ j → (L2.upTo ps ks log j).1 = ks ∧ xs' = []) := by
  have lx := M.lo.1
  rw [upTo_pages M.wt.1] at hp
  rw [upTo_logV lx] at hl
  refine ⟨_, ⟨hp, hl, ?_, fun ln h => by rw [upTo_len M.wt.1]; exact M.ok ln (upTo_log h), (upTo_len M.wt.1 j).trans M.lp, Nat.le_trans (upTo_loglen ..) M.ll, upTo_wt M.wt j⟩, fun hj => ⟨by rw [upTo_full hj], if_pos (Nat.le_trans (upS_len ..) hj)⟩⟩
  unfold L2.upTo
  split
  · exact .nil
  · exact M.lo.mono fun a x h => h.mono s.keepT
def spCame : Sp := fun vs H Q _ => ∃ (p l h : Addr) (ps : List Int) (xs : List V) (log : List LN) (ks : List Int) (hs : List Nat), vs = [.ref p, .ref l, .ref h] ∧ MidAt H p l ps xs log ks ps.length log.length ∧ ps.length ≤ 1000 ∧ log.length ≤ 1000 ∧ H h = some (.lst (hs.map fun n => V.int (n : Nat))) ∧
  ∀ (r : Addr) (H' : Hp), Same H H' → H' r = some (.lst (ks.map V.int)) → Q (.ref r) H'
theorem scCame : FnScope ["pages", "log", "halts", "pages_then", "log_then", "halt", "cellar"] ["pages", "log", "halts"] (defScope sCame) := ⟨rfl, rfl, rfl, by decide +kernel, rfl, by decide +kernel, by decide +kernel⟩
set_option maxHeartbeats 4000000 in
theorem ok_came {gB gU : Addr} {dB dU : FuncData} (F : Fun K "came_up" "came_up" sCame f fd)
    (GB : FnOk P w K mg base CX0 3 gB dB ["pages", "log", "strokes"] spBehind) (bB : Binds K dB ["pages", "log", "strokes"] []) (kB : PySem.W.keepIn K (.ref gB) = true) (mB : mg "behind" = some (.ref gB))
    (GU : FnOk P w K mg base CX0 2 gU dU ["pages", "log"] spUp) (bU : Binds K dU ["pages", "log"] []) (kU : PySem.W.keepIn K (.ref gU) = true) (mU : mg "up" = some (.ref gU)) : FnOk P w K mg base CX0 4 f fd ["pages", "log", "halts"] spCame := by
  refine F.ok scCame (fun vs H Q E h => ?_) (fun cdv A outer s H vs Q E hr h => ?_)
  · obtain ⟨p, l, h, ps, xs, log, ks, hs, rfl, _⟩ := h
    rfl
  obtain ⟨p, l, h0, ps, xs, log, ks, hs, rfl, M, zp, zl, hh, q⟩ := h
  refine ⟨_, (pss_cons (ps_set (i := 3) scCame.nd rfl (Or.inl rfl) (pv 0))
      (pss_cons (ps_set (i := 4) scCame.nd rfl (Or.inl rfl) (pv 1))
      (pss_cons (ps_for PassesOwn.never rfl (pi_list (pv 2)) (pg_name (i := 5) scCame.nd rfl (Or.inl rfl))
      (pss_cons (ps_set (i := 6) scCame.nd rfl (Or.inl rfl) (pe_call GB (hr.mono (by decide)) rfl mB kB bB .nil pass0 (pa_cons (pv 3) (pa_cons (pv 4) (pa_cons (pe_slice sl_list (pe_call GU (hr.mono (by decide)) rfl mU kU bU .nil pass0 (pa_cons (pv 3) (pa_cons (pv 4) pa_nil))) po_none (po_some (pv 5))) pa_nil)))))
      (pss_cons (ps_set (i := 3) scCame.nd rfl (Or.inl rfl) (pe_ix ix_tup (pv 6) pe_int (fun _ _ => rfl)))
      (pss_one (ps_set (i := 4) scCame.nd rfl (Or.inl rfl) (pe_ix ix_tup (pv 6) pe_int (fun _ _ => rfl)))))))
      (pss_one (ps_ret (pe_ix ix_tup (pe_call GB (hr.mono (by decide)) rfl mB kB bB .nil pass0 (pa_cons (pv 3) (pa_cons (pv 4) (pa_cons (pe_call GU (hr.mono (by decide)) rfl mU kU bU .nil pass0 (pa_cons (pv 3) (pa_cons (pv 4) pa_nil))) pa_nil)))) pe_int (fun _ _ => rfl))))))), ?_⟩
  refine ⟨_, rfl, _, rfl, ?_⟩
  refine ⟨_, rfl, h0, rfl, ⟨_, SqL.of hh⟩, for_list (K := K) (a := h0) (xs := hs.map fun n => V.int (n : Nat)) (fun i σ H2 => ∃ (pg lg : Addr) (ps' : List Int) (xs' : List V) (log' : List LN) (o5 o6 : Option V), σ = [some (.ref p), some (.ref l), some (.ref h0), some (.ref pg), some (.ref lg), o5, o6] ∧ Same H H2 ∧ MidAt H2 pg lg ps' xs' log' ks ps.length log.length)
    ⟨p, l, ps, xs, log, none, none, rfl, Same.refl H, M⟩ (fun i σ H2 _ ⟨_, _, _, _, _, _, _, _, s2, _⟩ => SqL.of (s2 _ _ hh)) ?_ ?_⟩
  · rintro i x σ H2 hi ⟨pg, lg, ps', xs', log', o5, o6, rfl, s2, M2⟩
    obtain ⟨j, rfl⟩ : ∃ j : Nat, x = V.int (j : Nat) := by
      rw [List.getElem?_map] at hi
      cases e : hs[i]? with
      | none => rw [e] at hi; cases hi
      | some j => rw [e] at hi; exact ⟨j, (Option.some.inj hi).symm⟩
    have lp := M2.lp
    have ll := M2.ll
    refine ⟨_, rfl, _, rfl, _, rfl, _, rfl, pg, lg, ps', xs', log', rfl, M2.hp, by omega, M2.hl, M2.lo, by omega, M2.ok, fun u ks2 zs H3 s3 _ eu lk2 hw rzs => ?_⟩
    have ek : ks2 = ks := M2.wt.uniq ⟨lk2, hw⟩
    subst ek
    have M3 := M2.mono s3
    refine ⟨_, rfl, _, rfl, u, zs, rfl, SqL.of eu, fun v hv => ?_⟩
    rw [cut_to]
    have s4 := same_new hv (.lst (zs.take j))
    have e4 : (upd H3 v (.lst (zs.take j))) v = some (.lst (zs.take j)) := upd_same
    generalize upd H3 v (.lst (zs.take j)) = H4 at s4 e4 ⊢
    have M4 := M3.mono s4
    have rz : Reps H4 (((upS ps' ks2 log'.length).take j).map SM.D) (zs.take j) := by
      rw [List.map_take]
      exact Reps.mono s4 _ _ (reps_take j rzs)
    have nol : ∀ s ∈ (upS ps' ks2 log'.length).take j, s.noLine := fun s hs => upS_noLine (List.mem_of_mem_take hs)
    refine ⟨pg, lg, v, ps'.map V.int, xs', zs.take j, ((upS ps' ks2 log'.length).take j).map SM.sk, rfl, M4.hp, M4.hl, e4, sks_of rz nol, fun sk hsk => ?_, fun i => ?_, fun r p' l' H5 s5 _ _ _ er ep el => ?_⟩
    · obtain ⟨s, hs, rfl⟩ := List.mem_map.mp hsk
      rw [List.length_map]
      exact upS_ok lk2 (List.mem_of_mem_take hs)
    · rw [← List.map_take]
      have h1 := lg_noLine (((upS ps' ks2 log'.length).take j).take i) xs' fun s hs => nol s (List.mem_of_mem_take hs)
      have h2 := M2.lo.1
      omega
    obtain ⟨xs2, M5, _⟩ := M4.next s5 j ep el
    refine ⟨_, rfl, r, _, _, _, rfl, rfl, SqT.of er, rfl, ?_⟩
    refine ⟨_, rfl, r, _, _, _, rfl, rfl, SqT.of er, rfl, ?_⟩
    exact ⟨p', l', _, xs2, _, _, _, rfl, s2.trans (s3.trans (s4.trans s5)), M5⟩
  · rintro σ H2 ⟨pg, lg, ps', xs', log', o5, o6, rfl, s2, M2⟩
    have lp := M2.lp
    have ll := M2.ll
    refine ⟨_, rfl, _, rfl, _, rfl, _, rfl, pg, lg, ps', xs', log', rfl, M2.hp, by omega, M2.hl, M2.lo, by omega, M2.ok, fun u ks2 zs H3 s3 _ eu lk2 hw rzs => ?_⟩
    have ek : ks2 = ks := M2.wt.uniq ⟨lk2, hw⟩
    subst ek
    have M3 := M2.mono s3
    have el0 : (upS ps' ks2 log'.length).take (ks2.length + 1) = upS ps' ks2 log'.length := List.take_of_length_le (upS_len ..)
    refine ⟨pg, lg, u, ps'.map V.int, xs', zs, (upS ps' ks2 log'.length).map SM.sk, rfl, M3.hp, M3.hl, eu, sks_of rzs fun s hs => upS_noLine hs, fun sk hsk => ?_, fun i => ?_, fun r p' l' H5 s5 _ _ _ er ep el => ?_⟩
    · obtain ⟨s, hs, rfl⟩ := List.mem_map.mp hsk
      rw [List.length_map]
      exact upS_ok lk2 hs
    · rw [← List.map_take]
      have h1 := lg_noLine ((upS ps' ks2 log'.length).take i) xs' fun s hs => upS_noLine (List.mem_of_mem_take hs)
      have h2 := M2.lo.1
      omega
    rw [← el0] at ep el
    obtain ⟨xs2, M5, fin⟩ := M3.next s5 _ ep el
    refine ⟨r, _, _, _, rfl, rfl, SqT.of er, rfl, ?_⟩
    refine q p' H5 (s2.trans (s3.trans s5)) ?_
    rw [M5.hp, (fin (Nat.le_refl _)).1]
theorem scOne : FnScope ["_law_pages", "_law_log", "_law_stroke"] ["_law_pages", "_law_log", "_law_stroke"] (defScope sOne) := ⟨rfl, rfl, rfl, by decide +kernel, rfl, by decide +kernel, by decide +kernel⟩
theorem set_parts {ps : List V} {j : Nat} {v : V} (h : j < ps.length) : (cutV ps none (some (j : Int)) ++ [v]) ++ cutV ps (some ((j : Int) + 1)) none = ps.set j v := by
  rw [cut_before (by omega) (by omega), cut_behind (by omega) (by omega), List.set_eq_take_append_cons_drop, if_pos h]
  have e : ((j : Int) + 1).toNat = j + 1 := by omega
  rw [e, Int.toNat_natCast, List.append_assoc]
  rfl
theorem ok_one (F : Fun K "_law_one_stroke" "_law_one_stroke" sOne f fd) : FnOk P w K mg base CX0 1 f fd ["_law_pages", "_law_log", "_law_stroke"] spOne := by
  refine F.ok scOne (fun vs H Q E h => ?_) (fun cdv A outer s H vs Q E hr h => ?_)
  · obtain ⟨p, l, x, ps, ls, sk, rfl, _⟩ := h
    rfl
  obtain ⟨p, l, x, ps, ls, sk, rfl, hp, hl, hat, hk, zp, zl, q⟩ := h
  refine ⟨_, pss_cons (ps_if (pt_cmpR op_eq (pe_ix ix_tup (pv 2) pe_int (fun _ _ => rfl)) pe_str (nomark _))
      (pss_one (ps_ret (pe_tup (pa_cons (pv 0) (pa_cons (pe_op op_cat (pv 1) (pe_lst (pa_cons (pe_ix ix_tup (pv 2) pe_int (fun _ _ => rfl)) pa_nil))) pa_nil))))) pss_nil)
    (pss_cons (ps_if (pt_cmpR op_eq (pe_ix ix_tup (pv 2) pe_int (fun _ _ => rfl)) pe_str (nomark _))
      (pss_one (ps_ret (pe_tup (pa_cons (pv 0) (pa_cons (pe_slice sl_list (pv 1) (po_some (pe_ix ix_tup (pv 2) pe_int (fun _ _ => rfl))) po_none) pa_nil))))) pss_nil)
    (pss_one (ps_ret (pe_tup (pa_cons (pe_op op_cat (pe_op op_cat (pe_slice sl_list (pv 0) po_none (po_some (pe_ix ix_tup (pv 2) pe_int (fun _ _ => rfl)))) (pe_lst (pa_cons (pe_ix ix_tup (pv 2) pe_int (fun _ _ => rfl)) pa_nil)))
      (pe_slice sl_list (pv 0) (po_some (pe_op op_add (pe_ix ix_tup (pv 2) pe_int (fun _ _ => rfl)) pe_int)) po_none)) (pa_cons (pv 1) pa_nil)))))), ?_⟩
  cases sk with
  | line v =>
    obtain ⟨c, rfl, hc⟩ := hat
    refine ⟨_, rfl, c, _, _, _, rfl, rfl, SqT.of hc, rfl, rfl, _, rfl, ifT rfl ?_⟩
    refine ⟨_, rfl, _, rfl, _, rfl, c, _, _, _, rfl, rfl, SqT.of hc, rfl, le5, fun t ht => ?_⟩
    have s1 : Same H (upd H t (.lst [v])) := same_new ht _
    refine ⟨l, t, ls, [v], rfl, rfl, s1 _ _ hl, upd_same, Nat.le_of_lt (line_lt (by rw [List.length_singleton]; omega)), fun u hu => ⟨le5, fun r hr' => ?_⟩⟩
    have s2 := s1.trans (same_new hu (.lst (ls ++ [v])))
    exact q r p u _ (s2.trans (same_new hr' _)) upd_same ((s2.trans (same_new hr' _)) _ _ hp) (by rw [upd_ne (ne_of_none upd_same hr'), upd_same]; rfl)
  | cut k =>
    obtain ⟨c, rfl, hc⟩ := hat
    refine ⟨_, rfl, c, _, _, _, rfl, rfl, SqT.of hc, rfl, rfl, _, rfl, ifF cl_ne ?_⟩
    refine ⟨_, rfl, c, _, _, _, rfl, rfl, SqT.of hc, rfl, rfl, _, rfl, ifT rfl ?_⟩
    refine ⟨_, rfl, _, rfl, _, rfl, c, _, _, _, rfl, rfl, SqT.of hc, rfl, k, rfl, l, ls, rfl, SqL.of hl, fun u hu => ⟨le5, fun r hr' => ?_⟩⟩
    have s2 := same_new hu (.lst (cutV ls (some k) none))
    exact q r p u _ (s2.trans (same_new hr' _)) upd_same ((s2.trans (same_new hr' _)) _ _ hp) (by rw [upd_ne (ne_of_none upd_same hr'), upd_same]; rfl)
  | page j n =>
    obtain ⟨c, rfl, hc⟩ := hat
    have hj : j < ps.length := hk
    refine ⟨_, rfl, c, _, _, _, rfl, rfl, SqT.of hc, rfl, rfl, _, rfl, ifF pl_ne ?_⟩
    refine ⟨_, rfl, c, _, _, _, rfl, rfl, SqT.of hc, rfl, rfl, _, rfl, ifF pc_ne ?_⟩
    refine ⟨_, rfl, _, rfl, c, _, _, _, rfl, rfl, SqT.of hc, rfl, _, rfl, p, ps, rfl, SqL.of hp, fun a ha => ?_⟩
    have s1 := same_new ha (.lst (cutV ps none (some (j : Int))))
    refine ⟨_, rfl, c, _, _, _, rfl, rfl, SqT.of (s1 _ _ hc), rfl, le5, fun t ht => ?_⟩
    have s2 := s1.trans (same_new ht (.lst [.int n]))
    have z1 := cutV_length ps none (some (j : Int))
    have z2 := cutV_length ps (some ((j : Int) + 1)) none
    refine ⟨a, t, _, _, rfl, rfl, by rw [upd_ne (ne_of_none upd_same ht)]; exact upd_same, upd_same, Nat.le_of_lt (line_lt (by rw [List.length_singleton]; omega)), fun u hu => ?_⟩
    have s3 := s2.trans (same_new hu (.lst (cutV ps none (some (j : Int)) ++ [.int n])))
    refine ⟨_, rfl, _, rfl, c, _, _, _, rfl, rfl, SqT.of (s3 _ _ hc), rfl, _, _, rfl, rfl, _, rfl, p, ps, rfl, SqL.of (s3 _ _ hp), fun d hd => ?_⟩
    have s4 := s3.trans (same_new hd (.lst (cutV ps (some ((j : Int) + 1)) none)))
    refine ⟨u, d, _, _, rfl, rfl, by rw [upd_ne (ne_of_none upd_same hd)]; exact upd_same, upd_same, Nat.le_of_lt (line_lt (by rw [List.length_append, List.length_singleton]; omega)), fun e he => ?_⟩
    refine ⟨_, rfl, le5, fun r hr' => ?_⟩
    have s5 := s4.trans (same_new he (.lst ((cutV ps none (some (j : Int)) ++ [.int n]) ++ cutV ps (some ((j : Int) + 1)) none)))
    exact q r e l _ (s5.trans (same_new hr' _)) upd_same (by rw [upd_ne (ne_of_none upd_same hr'), upd_same, set_parts hj]; rfl) ((s5.trans (same_new hr' _)) _ _ hl)
theorem scRep : FnScope ["_law_pages", "_law_log", "_law_strokes", "_law_stroke"] ["_law_pages", "_law_log", "_law_strokes"] (defScope sRep) := ⟨rfl, rfl, rfl, by decide +kernel, rfl, by decide +kernel, by decide +kernel⟩
theorem ok_rep {g : Addr} {gd : FuncData} (F : Fun K "_law_replayed" "_law_replayed" sRep f fd) (G : FnOk P w K mg base CX0 1 g gd ["_law_pages", "_law_log", "_law_stroke"] spOne) (bG : Binds K gd ["_law_pages", "_law_log", "_law_stroke"] []) (kG : PySem.W.keepIn K (.ref g) = true) (mG : mg "_law_one_stroke" = some (.ref g)) :
    FnOk P w K mg base CX0 2 f fd ["_law_pages", "_law_log", "_law_strokes"] spAll := by
  refine F.ok scRep (fun vs H Q E h => ?_) (fun cdv A outer s H vs Q E hr h => ?_)
  · obtain ⟨p, l, s, ps, ls, xs, sks, rfl, _⟩ := h
    rfl
  obtain ⟨p, l, s0, ps, ls, xs, sks, rfl, hp, hl, hs, hS, hok, zp, zl, zs, q⟩ := h
  refine ⟨_, pss_cons (ps_for PassesOwn.never rfl (pi_list (pv 2)) (pg_name (i := 3) scRep.nd rfl (Or.inl rfl))
      (pss_one (ps_asg (pe_call G hr rfl mG kG bG .nil pass0 (pa_cons (pv 0) (pa_cons (pv 1) (pa_cons (pv 3) pa_nil)))) (pg_tup rfl (pgs_cons (pg_name (i := 0) scRep.nd rfl (Or.inl rfl)) (pgs_cons (pg_name (i := 1) scRep.nd rfl (Or.inl rfl)) pgs_nil))))))
    (pss_one (ps_ret (pe_tup (pa_cons (pv 0) (pa_cons (pv 1) pa_nil))))), ?_⟩
  refine ⟨_, rfl, s0, rfl, ⟨xs, SqL.of hs⟩, for_list (K := K) (a := s0) (xs := xs) (fun i σ H2 => ∃ (a b : Addr) (o : Option V), σ = [some (.ref a), some (.ref b), some (.ref s0), o] ∧ Same H H2 ∧
      H2 a = some (.lst ((sks.take i).foldl SK.pg ps)) ∧ H2 b = some (.lst ((sks.take i).foldl SK.lg ls)))
    ⟨p, l, none, rfl, Same.refl H, hp, hl⟩ (fun i σ H2 _ ⟨_, _, _, _, s3, _⟩ => SqL.of (s3 _ _ hs)) ?_ ?_⟩
  · rintro i x σ H2 hi ⟨a, b, o, rfl, s3, ea, eb⟩
    obtain ⟨sk, hsk, hat⟩ := hS.get i x hi
    have hk := hok sk (List.mem_of_getElem? hsk)
    have zl' : ((sks.take i).foldl SK.lg ls).length ≤ 200 := by
      have h1 := lgs_len (sks.take i) ls
      rw [List.length_take] at h1
      omega
    refine ⟨_, rfl, _, rfl, _, rfl, a, b, x, _, _, sk, rfl, ea, eb, hat.mono s3.keepT, by rw [pgs_len]; exact hk, by rw [pgs_len]; exact zp, by omega, fun r p' l' H3 s4 er ep el => ?_⟩
    refine ⟨r, _, rfl, SqT.of er, rfl, _, _, rfl, _, _, rfl, rfl, ?_⟩
    exact ⟨p', l', some x, rfl, s3.trans s4, by rw [fold_take _ _ _ _ _ hsk]; exact ep, by rw [fold_take _ _ _ _ _ hsk]; exact el⟩
  · rintro σ H2 ⟨a, b, o, rfl, s3, ea, eb⟩
    rw [take_all hS] at ea eb
    refine ⟨_, rfl, _, rfl, le5, fun r hr' => ?_⟩
    exact q r a b _ (s3.trans (same_new hr' _)) upd_same (by rw [upd_ne (ne_of_none ea hr')]; exact ea) (by rw [upd_ne (ne_of_none eb hr')]; exact eb)
end
end K07

set_option Elab.async false
set_option linter.all false
set_option maxRecDepth 100000
namespace K07
open PySem L2
section
variable {P : Program} {w : World} {K : PySem.W.Frag} {mg : Str → Option Value} {base : Heap} {f : Addr} {fd : FuncData}
/-- a stroke on a house of c pages -/
def fineS (c : Nat) : SM → Prop
  | .line ln => ln.ok c
  | .page p _ => p < c
  | .cut k => 0 < k
def spIsLine : Sp := fun vs H Q _ => ∃ (v : V) (ln : LN) (c : Nat), vs = [v, .int (c : Nat)] ∧ LNat H ln v ∧ ln.ok c ∧ ∀ H', Same H H' → Q (.bl true) H'
def spIsStroke : Sp := fun vs H Q _ => ∃ (v : V) (s : SM) (c : Nat), vs = [v, .int (c : Nat)] ∧ Rep H s.D v ∧ fineS c s ∧ ∀ H', Same H H' → Q (.bl true) H'
def spAre : Sp := fun vs H Q _ => ∃ (a : Addr) (zs : List V) (l : List SM) (c : Nat), vs = [.ref a, .int (c : Nat)] ∧ H a = some (.lst zs) ∧ Reps H (l.map SM.D) zs ∧ (∀ s ∈ l, fineS c s) ∧ ∀ H', Same H H' → Q (.bl true) H'
theorem pt_or3 {X : Cx} {a b c : Expr} {ta tb tc : TT} {pos : Pos} (ha : PT X a ta) (hb : PT X b tb) (hc : PT X c tc) : PT X (.BoolOp .Or [a, b, c] pos) (tOr ta (tOr tb tc)) := (pw_or ha (pw_or hb (pw_or1 hc))).pt
/-- over the parts of a tuple of whole numbers -/
theorem parts_ok {us : List V} {ms : List Int} (e : us = ms.map V.int) {i : Nat} {x : V} (h : us[i]? = some x) : ∃ m, x = .int m := by
  subst e
  obtain ⟨z, rfl, _⟩ := get_map_int h
  exact ⟨z, rfl⟩
theorem scIsLine : FnScope ["_law_found", "_law_count", "_law_part"] ["_law_found", "_law_count"] (defScope sIsLine) := ⟨rfl, rfl, rfl, by decide +kernel, rfl, by decide +kernel, by decide +kernel⟩
set_option maxHeartbeats 4000000 in
theorem ok_isline {gW : Addr} {dW : FuncData} (F : Fun K "_law_is_line" "_law_is_line" sIsLine f fd) (B : Blt mg) (GW : FnOk P w K mg base CX0 1 gW dW ["_law_found"] spWhole) (bW : Binds K dW ["_law_found"] []) (kW : PySem.W.keepIn K (.ref gW) = true) (mW : mg "_law_whole" = some (.ref gW)) :
    FnOk P w K mg base CX0 2 f fd ["_law_found", "_law_count"] spIsLine := by
  refine F.ok scIsLine (fun vs H Q E h => ?_) (fun cdv A outer s H vs Q E hr h => ?_)
  · obtain ⟨v, ln, c, rfl, _⟩ := h
    rfl
  obtain ⟨v, ln, c, rfl, hat, hok, q⟩ := h
  refine ⟨_, (pss_cons (ps_if (pt_or3 (pt_not (pt_val (pe_callB call_isi rfl B.isi bIsi (pa_cons (pv 0) (pa_cons (pe_bltn (v := .ty "tuple") rfl B.tup bTuple rfl) pa_nil))))) (pt_cmpR op_lt (pe_callB call_len_seq rfl B.len PySem.boot_len (pa_cons (pv 0) pa_nil)) pe_int (nomark _)) (pt_not (pt_val (pe_callB call_isi rfl B.isi bIsi (pa_cons (pe_ix ix_tup (pv 0) pe_int (fun _ _ => rfl)) (pa_cons (pe_bltn (v := .ty "str") rfl B.str bStr rfl) pa_nil))))))
      (pss_one (ps_ret pe_bl))
      pss_nil)
      (pss_cons (ps_for PassesOwn.never rfl (pi_tup (pe_slice sl_tup (pv 0) (po_some pe_int) po_none)) (pg_name (i := 2) scIsLine.nd rfl (Or.inl rfl))
      (pss_one (ps_if (pt_not (pt_val (pe_call GW (hr.mono (by decide)) rfl mW kW bW .nil pass0 (pa_cons (pv 2) pa_nil))))
      (pss_one (ps_ret pe_bl))
      pss_nil)))
      (pss_cons (ps_if (pt_cmpR op_eq (pe_ix ix_tup (pv 0) pe_int (fun _ _ => rfl)) pe_str (nomark _))
      (pss_one (ps_ret (pe_cmpR op_eq (pe_callB call_len_seq rfl B.len PySem.boot_len (pa_cons (pv 0) pa_nil)) pe_int (nomark _))))
      pss_nil)
      (pss_one (ps_ret (pe_and (pe_cmpR op_eq (pe_ix ix_tup (pv 0) pe_int (fun _ _ => rfl)) pe_str (nomark _)) (pe_and (pe_cmpR op_eq (pe_callB call_len_seq rfl B.len PySem.boot_len (pa_cons (pv 0) pa_nil)) pe_int (nomark _)) (pe_and (pe_cmpR op_ge (pe_ix ix_tup (pv 0) pe_int (fun _ _ => rfl)) pe_int (nomark _)) (pe_one (pe_cmpR op_lt (pe_ix ix_tup (pv 0) pe_int (fun _ _ => rfl)) (pv 1) (nomark _))))))))))), ?_⟩
  cases ln with
  | fin d =>
    obtain ⟨t, rfl, ht⟩ := hat
    refine ⟨_, rfl, _, _, _, _, rfl, .tup ht, isi_tuple_tuple K, _, rfl, iteF ?_⟩
    refine ⟨_, rfl, t, _, rfl, .inr (SqT.of ht), _, _, rfl, rfl, _, rfl, ifF (show ¬ ((2 : Nat) : Int) < 2 by decide) ?_⟩
    refine ⟨_, rfl, t, _, _, _, rfl, rfl, SqT.of ht, rfl, _, _, _, _, rfl, .str _, isi_str_str K, _, rfl, iteF ?_⟩
    refine ⟨_, rfl, _, rfl, t, _, rfl, SqT.of ht, (fun z => nomatch (show (1 : Nat) = 0 from z.1)), fun u hu => ?_⟩
    have s1 := same_new hu (.tup (cutV [.str "end", .int d] (some 1) none))
    have e1 : (upd H u (.tup (cutV [.str "end", .int d] (some 1) none))) u = some (.tup (([d] : List Int).map V.int)) := by
      rw [upd_same]
      rfl
    generalize upd H u (.tup (cutV [.str "end", .int d] (some 1) none)) = H1 at s1 e1 ⊢
    refine ⟨u, rfl, ⟨_, SqT.of e1⟩, for_tup (K := K) (a := u) (xs := ([d] : List Int).map V.int) (fun i σ H2 => ∃ o : Option V, σ = [some (.ref t), some (.int (c : Nat)), o] ∧ H1 = H2)
      ⟨none, rfl, rfl⟩ (fun i σ H2 _ ⟨_, _, e⟩ => by rw [← e]; exact SqT.of e1) ?_ ?_⟩
    · rintro i x σ H2 hi ⟨o, rfl, rfl⟩
      obtain ⟨m, rfl⟩ := parts_ok rfl hi
      refine ⟨_, rfl, m, rfl, _, rfl, iteF ?_⟩
      exact ⟨_, rfl, rfl⟩
    rintro σ H2 ⟨o, rfl, rfl⟩
    have ht := s1 _ _ ht
    refine ⟨_, rfl, t, _, _, _, rfl, rfl, SqT.of ht, rfl, rfl, _, rfl, ifT rfl ?_⟩
    exact ⟨_, rfl, t, _, rfl, .inr (SqT.of ht), rfl, q _ s1⟩
  | put d p o n =>
    obtain ⟨t, rfl, ht⟩ := hat
    refine ⟨_, rfl, _, _, _, _, rfl, .tup ht, isi_tuple_tuple K, _, rfl, iteF ?_⟩
    refine ⟨_, rfl, t, _, rfl, .inr (SqT.of ht), _, _, rfl, rfl, _, rfl, ifF (show ¬ ((5 : Nat) : Int) < 2 by decide) ?_⟩
    refine ⟨_, rfl, t, _, _, _, rfl, rfl, SqT.of ht, rfl, _, _, _, _, rfl, .str _, isi_str_str K, _, rfl, iteF ?_⟩
    refine ⟨_, rfl, _, rfl, t, _, rfl, SqT.of ht, (fun z => nomatch (show (1 : Nat) = 0 from z.1)), fun u hu => ?_⟩
    have s1 := same_new hu (.tup (cutV [.str "put", .int d, .int (p : Nat), .int o, .int n] (some 1) none))
    have e1 : (upd H u (.tup (cutV [.str "put", .int d, .int (p : Nat), .int o, .int n] (some 1) none))) u = some (.tup (([d, (p : Nat), o, n] : List Int).map V.int)) := by
      rw [upd_same]
      rfl
    generalize upd H u (.tup (cutV [.str "put", .int d, .int (p : Nat), .int o, .int n] (some 1) none)) = H1 at s1 e1 ⊢
    refine ⟨u, rfl, ⟨_, SqT.of e1⟩, for_tup (K := K) (a := u) (xs := ([d, (p : Nat), o, n] : List Int).map V.int) (fun i σ H2 => ∃ o : Option V, σ = [some (.ref t), some (.int (c : Nat)), o] ∧ H1 = H2)
      ⟨none, rfl, rfl⟩ (fun i σ H2 _ ⟨_, _, e⟩ => by rw [← e]; exact SqT.of e1) ?_ ?_⟩
    · rintro i x σ H2 hi ⟨o, rfl, rfl⟩
      obtain ⟨m, rfl⟩ := parts_ok rfl hi
      refine ⟨_, rfl, m, rfl, _, rfl, iteF ?_⟩
      exact ⟨_, rfl, rfl⟩
    rintro σ H2 ⟨o, rfl, rfl⟩
    have ht := s1 _ _ ht
    have hp : p < c := hok
    refine ⟨_, rfl, t, _, _, _, rfl, rfl, SqT.of ht, rfl, rfl, _, rfl, ifF ep_ne ?_⟩
    refine ⟨_, rfl, t, _, _, _, rfl, rfl, SqT.of ht, rfl, rfl, _, rfl, ifT rfl ?_⟩
    refine ⟨_, rfl, t, _, rfl, .inr (SqT.of ht), rfl, _, rfl, ifT rfl ?_⟩
    refine ⟨_, rfl, t, _, _, _, rfl, rfl, SqT.of ht, rfl, _, _, rfl, rfl, _, rfl, ifT (by omega) ?_⟩
    refine ⟨_, rfl, t, _, _, _, rfl, rfl, SqT.of ht, rfl, _, rfl, _, _, rfl, rfl, ?_⟩
    show Q (V.bl (decide (((p : Nat) : Int) < ((c : Nat) : Int)))) _
    rw [decide_eq_true (by omega : ((p : Nat) : Int) < ((c : Nat) : Int))]
    exact q _ s1
theorem scIsStroke : FnScope ["_law_found", "_law_count", "_law_part"] ["_law_found", "_law_count"] (defScope sIsStroke) := ⟨rfl, rfl, rfl, by decide +kernel, rfl, by decide +kernel, by decide +kernel⟩
set_option maxHeartbeats 4000000 in
theorem ok_isstroke {gW gL : Addr} {dW dL : FuncData} (F : Fun K "_law_is_stroke" "_law_is_stroke" sIsStroke f fd) (B : Blt mg) (GW : FnOk P w K mg base CX0 1 gW dW ["_law_found"] spWhole) (bW : Binds K dW ["_law_found"] []) (kW : PySem.W.keepIn K (.ref gW) = true) (mW : mg "_law_whole" = some (.ref gW))
    (GL : FnOk P w K mg base CX0 2 gL dL ["_law_found", "_law_count"] spIsLine) (bL : Binds K dL ["_law_found", "_law_count"] []) (kL : PySem.W.keepIn K (.ref gL) = true) (mL : mg "_law_is_line" = some (.ref gL)) :
    FnOk P w K mg base CX0 3 f fd ["_law_found", "_law_count"] spIsStroke := by
  refine F.ok scIsStroke (fun vs H Q E h => ?_) (fun cdv A outer s H vs Q E hr h => ?_)
  · obtain ⟨v, s, c, rfl, _⟩ := h
    rfl
  obtain ⟨v, sm, c, rfl, rv, hok, q⟩ := h
  refine ⟨_, (pss_cons (ps_if (pt_or3 (pt_not (pt_val (pe_callB call_isi rfl B.isi bIsi (pa_cons (pv 0) (pa_cons (pe_bltn (v := .ty "tuple") rfl B.tup bTuple rfl) pa_nil))))) (pt_cmpR op_lt (pe_callB call_len_seq rfl B.len PySem.boot_len (pa_cons (pv 0) pa_nil)) pe_int (nomark _)) (pt_not (pt_val (pe_callB call_isi rfl B.isi bIsi (pa_cons (pe_ix ix_tup (pv 0) pe_int (fun _ _ => rfl)) (pa_cons (pe_bltn (v := .ty "str") rfl B.str bStr rfl) pa_nil))))))
      (pss_one (ps_ret pe_bl))
      pss_nil)
      (pss_cons (ps_if (pt_cmpR op_eq (pe_ix ix_tup (pv 0) pe_int (fun _ _ => rfl)) pe_str (nomark _))
      (pss_one (ps_ret (pe_and (pe_cmpR op_eq (pe_callB call_len_seq rfl B.len PySem.boot_len (pa_cons (pv 0) pa_nil)) pe_int (nomark _)) (pe_one (pe_call GL (hr.mono (by decide)) rfl mL kL bL .nil pass0 (pa_cons (pe_ix ix_tup (pv 0) pe_int (fun _ _ => rfl)) (pa_cons (pv 1) pa_nil)))))))
      pss_nil)
      (pss_cons (ps_for PassesOwn.never rfl (pi_tup (pe_slice sl_tup (pv 0) (po_some pe_int) po_none)) (pg_name (i := 2) scIsStroke.nd rfl (Or.inl rfl))
      (pss_one (ps_if (pt_not (pt_val (pe_call GW (hr.mono (by decide)) rfl mW kW bW .nil pass0 (pa_cons (pv 2) pa_nil))))
      (pss_one (ps_ret pe_bl))
      pss_nil)))
      (pss_cons (ps_if (pt_cmpR op_eq (pe_ix ix_tup (pv 0) pe_int (fun _ _ => rfl)) pe_str (nomark _))
      (pss_one (ps_ret (pe_and (pe_cmpR op_eq (pe_callB call_len_seq rfl B.len PySem.boot_len (pa_cons (pv 0) pa_nil)) pe_int (nomark _)) (pe_one (pe_cmpR op_gt (pe_ix ix_tup (pv 0) pe_int (fun _ _ => rfl)) pe_int (nomark _))))))
      pss_nil)
      (pss_one (ps_ret (pe_and (pe_cmpR op_eq (pe_ix ix_tup (pv 0) pe_int (fun _ _ => rfl)) pe_str (nomark _)) (pe_and (pe_cmpR op_eq (pe_callB call_len_seq rfl B.len PySem.boot_len (pa_cons (pv 0) pa_nil)) pe_int (nomark _)) (pe_and (pe_cmpR op_ge (pe_ix ix_tup (pv 0) pe_int (fun _ _ => rfl)) pe_int (nomark _)) (pe_one (pe_cmpR op_lt (pe_ix ix_tup (pv 0) pe_int (fun _ _ => rfl)) (pv 1) (nomark _)))))))))))), ?_⟩
  cases sm with
  | line ln =>
    obtain ⟨t, y1, y2, rfl, ht, r1, r2⟩ := rep_tup2 rv
    cases r1.str_inv
    refine ⟨_, rfl, _, _, _, _, rfl, .tup ht, isi_tuple_tuple K, _, rfl, iteF ?_⟩
    refine ⟨_, rfl, t, _, rfl, .inr (SqT.of ht), _, _, rfl, rfl, _, rfl, ifF (show ¬ ((2 : Nat) : Int) < 2 by decide) ?_⟩
    refine ⟨_, rfl, t, _, _, _, rfl, rfl, SqT.of ht, rfl, _, _, _, _, rfl, .str _, isi_str_str K, _, rfl, iteF ?_⟩
    refine ⟨_, rfl, t, _, _, _, rfl, rfl, SqT.of ht, rfl, rfl, _, rfl, ifT rfl ?_⟩
    refine ⟨_, rfl, t, _, rfl, .inr (SqT.of ht), rfl, _, rfl, ifT rfl ?_⟩
    exact ⟨_, rfl, t, _, _, _, rfl, rfl, SqT.of ht, rfl, _, rfl, y2, ln, c, rfl, LNat.ofRep r2, hok, fun H' s' => q H' s'⟩
  | page p n =>
    obtain ⟨t, y1, y2, y3, rfl, ht, r1, r2, r3⟩ := rep_tup3 rv
    cases r1.str_inv
    cases r2.int_inv
    cases r3.int_inv
    refine ⟨_, rfl, _, _, _, _, rfl, .tup ht, isi_tuple_tuple K, _, rfl, iteF ?_⟩
    refine ⟨_, rfl, t, _, rfl, .inr (SqT.of ht), _, _, rfl, rfl, _, rfl, ifF (show ¬ ((3 : Nat) : Int) < 2 by decide) ?_⟩
    refine ⟨_, rfl, t, _, _, _, rfl, rfl, SqT.of ht, rfl, _, _, _, _, rfl, .str _, isi_str_str K, _, rfl, iteF ?_⟩
    refine ⟨_, rfl, t, _, _, _, rfl, rfl, SqT.of ht, rfl, rfl, _, rfl, ifF pl_ne ?_⟩
    refine ⟨_, rfl, _, rfl, t, _, rfl, SqT.of ht, (fun z => nomatch (show (1 : Nat) = 0 from z.1)), fun u hu => ?_⟩
    have s1 := same_new hu (.tup (cutV [.str "page", .int (p : Nat), .int n] (some 1) none))
    have e1 : (upd H u (.tup (cutV [.str "page", .int (p : Nat), .int n] (some 1) none))) u = some (.tup (([(p : Nat), n] : List Int).map V.int)) := by
      rw [upd_same]
      rfl
    generalize upd H u (.tup (cutV [.str "page", .int (p : Nat), .int n] (some 1) none)) = H1 at s1 e1 ⊢
    refine ⟨u, rfl, ⟨_, SqT.of e1⟩, for_tup (K := K) (a := u) (xs := ([(p : Nat), n] : List Int).map V.int) (fun i σ H2 => ∃ o : Option V, σ = [some (.ref t), some (.int (c : Nat)), o] ∧ H1 = H2)
      ⟨none, rfl, rfl⟩ (fun i σ H2 _ ⟨_, _, e⟩ => by rw [← e]; exact SqT.of e1) ?_ ?_⟩
    · rintro i x σ H2 hi ⟨o, rfl, rfl⟩
      obtain ⟨m, rfl⟩ := parts_ok rfl hi
      refine ⟨_, rfl, m, rfl, _, rfl, iteF ?_⟩
      exact ⟨_, rfl, rfl⟩
    rintro σ H2 ⟨o, rfl, rfl⟩
    have ht := s1 _ _ ht
    have hp : p < c := hok
    refine ⟨_, rfl, t, _, _, _, rfl, rfl, SqT.of ht, rfl, rfl, _, rfl, ifF pc_ne ?_⟩
    refine ⟨_, rfl, t, _, _, _, rfl, rfl, SqT.of ht, rfl, rfl, _, rfl, ifT rfl ?_⟩
    refine ⟨_, rfl, t, _, rfl, .inr (SqT.of ht), rfl, _, rfl, ifT rfl ?_⟩
    refine ⟨_, rfl, t, _, _, _, rfl, rfl, SqT.of ht, rfl, _, _, rfl, rfl, _, rfl, ifT (by omega) ?_⟩
    refine ⟨_, rfl, t, _, _, _, rfl, rfl, SqT.of ht, rfl, _, rfl, _, _, rfl, rfl, ?_⟩
    show Q (V.bl (decide (((p : Nat) : Int) < ((c : Nat) : Int)))) _
    rw [decide_eq_true (by omega : ((p : Nat) : Int) < ((c : Nat) : Int))]
    exact q _ s1
  | cut k =>
    obtain ⟨t, y1, y2, rfl, ht, r1, r2⟩ := rep_tup2 rv
    cases r1.str_inv
    cases r2.int_inv
    refine ⟨_, rfl, _, _, _, _, rfl, .tup ht, isi_tuple_tuple K, _, rfl, iteF ?_⟩
    refine ⟨_, rfl, t, _, rfl, .inr (SqT.of ht), _, _, rfl, rfl, _, rfl, ifF (show ¬ ((2 : Nat) : Int) < 2 by decide) ?_⟩
    refine ⟨_, rfl, t, _, _, _, rfl, rfl, SqT.of ht, rfl, _, _, _, _, rfl, .str _, isi_str_str K, _, rfl, iteF ?_⟩
    refine ⟨_, rfl, t, _, _, _, rfl, rfl, SqT.of ht, rfl, rfl, _, rfl, ifF cl_ne ?_⟩
    refine ⟨_, rfl, _, rfl, t, _, rfl, SqT.of ht, (fun z => nomatch (show (1 : Nat) = 0 from z.1)), fun u hu => ?_⟩
    have s1 := same_new hu (.tup (cutV [.str "cut", .int (k : Nat)] (some 1) none))
    have e1 : (upd H u (.tup (cutV [.str "cut", .int (k : Nat)] (some 1) none))) u = some (.tup (([(k : Nat)] : List Int).map V.int)) := by
      rw [upd_same]
      rfl
    generalize upd H u (.tup (cutV [.str "cut", .int (k : Nat)] (some 1) none)) = H1 at s1 e1 ⊢
    refine ⟨u, rfl, ⟨_, SqT.of e1⟩, for_tup (K := K) (a := u) (xs := ([(k : Nat)] : List Int).map V.int) (fun i σ H2 => ∃ o : Option V, σ = [some (.ref t), some (.int (c : Nat)), o] ∧ H1 = H2)
      ⟨none, rfl, rfl⟩ (fun i σ H2 _ ⟨_, _, e⟩ => by rw [← e]; exact SqT.of e1) ?_ ?_⟩
    · rintro i x σ H2 hi ⟨o, rfl, rfl⟩
      obtain ⟨m, rfl⟩ := parts_ok rfl hi
      refine ⟨_, rfl, m, rfl, _, rfl, iteF ?_⟩
      exact ⟨_, rfl, rfl⟩
    rintro σ H2 ⟨o, rfl, rfl⟩
    have ht := s1 _ _ ht
    have hk : 0 < k := hok
    refine ⟨_, rfl, t, _, _, _, rfl, rfl, SqT.of ht, rfl, rfl, _, rfl, ifT rfl ?_⟩
    refine ⟨_, rfl, t, _, rfl, .inr (SqT.of ht), rfl, _, rfl, ifT rfl ?_⟩
    refine ⟨_, rfl, t, _, _, _, rfl, rfl, SqT.of ht, rfl, _, _, rfl, rfl, ?_⟩
    show Q (V.bl (decide ((0 : Int) < ((k : Nat) : Int)))) _
    rw [decide_eq_true (by omega : (0 : Int) < ((k : Nat) : Int))]
    exact q _ s1
theorem scAre : FnScope ["_law_found", "_law_count", "_law_stroke"] ["_law_found", "_law_count"] (defScope sAre) := ⟨rfl, rfl, rfl, by decide +kernel, rfl, by decide +kernel, by decide +kernel⟩
theorem reps_at {H : Hp} : ∀ {l : List SM} {zs : List V} {i : Nat} {x : V}, Reps H (l.map SM.D) zs → zs[i]? = some x → ∃ s, s ∈ l ∧ Rep H s.D x
  | [], zs, i, x, h, e => by rw [Reps.inv0 h] at e; cases e
  | s :: r, zs, i, x, h, e => by
    obtain ⟨y, t, rfl, h1, h2⟩ := Reps.inv h
    cases i with
    | zero => cases e; exact ⟨s, List.mem_cons_self, h1⟩
    | succ i =>
      obtain ⟨s', hm, hr⟩ := reps_at h2 e
      exact ⟨s', List.mem_cons_of_mem _ hm, hr⟩
theorem ok_are {gS : Addr} {dS : FuncData} (F : Fun K "_law_are_strokes" "_law_are_strokes" sAre f fd) (B : Blt mg) (GS : FnOk P w K mg base CX0 3 gS dS ["_law_found", "_law_count"] spIsStroke) (bS : Binds K dS ["_law_found", "_law_count"] []) (kS : PySem.W.keepIn K (.ref gS) = true) (mS : mg "_law_is_stroke" = some (.ref gS)) :
    FnOk P w K mg base CX0 4 f fd ["_law_found", "_law_count"] spAre := by
  refine F.ok scAre (fun vs H Q E h => ?_) (fun cdv A outer s H vs Q E hr h => ?_)
  · obtain ⟨a, zs, l, c, rfl, _⟩ := h
    rfl
  obtain ⟨a, zs, l, c, rfl, ha, rz, hf, q⟩ := h
  refine ⟨_, (pss_cons (ps_if (pt_not (pt_val (pe_callB call_isi rfl B.isi bIsi (pa_cons (pv 0) (pa_cons (pe_bltn (v := .ty "list") rfl B.lst bList rfl) pa_nil)))))
      (pss_one (ps_ret pe_bl))
      pss_nil)
      (pss_cons (ps_for PassesOwn.never rfl (pi_list (pv 0)) (pg_name (i := 2) scAre.nd rfl (Or.inl rfl))
      (pss_one (ps_if (pt_not (pt_val (pe_call GS (hr.mono (by decide)) rfl mS kS bS .nil pass0 (pa_cons (pv 2) (pa_cons (pv 1) pa_nil)))))
      (pss_one (ps_ret pe_bl))
      pss_nil)))
      (pss_one (ps_ret pe_bl)))), ?_⟩
  refine ⟨_, rfl, _, _, _, _, rfl, .lst ha, isi_list_list K, _, rfl, iteF ?_⟩
  refine ⟨_, rfl, a, rfl, ⟨zs, SqL.of ha⟩, for_list (K := K) (a := a) (xs := zs) (fun i σ H2 => ∃ o : Option V, σ = [some (.ref a), some (.int (c : Nat)), o] ∧ Same H H2)
    ⟨none, rfl, Same.refl H⟩ (fun i σ H2 _ ⟨_, _, s2⟩ => SqL.of (s2 _ _ ha)) ?_ ?_⟩
  · rintro i x σ H2 hi ⟨o, rfl, s2⟩
    obtain ⟨sm, hm, hr2⟩ := reps_at rz hi
    refine ⟨_, rfl, _, rfl, x, sm, c, rfl, Rep.mono s2 _ _ hr2, hf sm hm, fun H3 s3 => ⟨_, rfl, iteF ?_⟩⟩
    exact ⟨_, rfl, s2.trans s3⟩
  · rintro σ H2 ⟨o, rfl, s2⟩
    exact q H2 s2
end
end K07

set_option Elab.async false
set_option linter.all false
set_option maxRecDepth 100000
namespace K07
open PySem L2
section
variable {P : Program} {w : World} {K : PySem.W.Frag} {mg : Str → Option Value} {base : Heap} {f : Addr} {fd : FuncData}
def spLaw (K : PySem.W.Frag) : Sp := fun vs H Q _ => ∃ (a : Addr) (ns : List Int), vs = [.ref a] ∧ SqL K H a (ns.map V.int) ∧ ns.length ≤ 63 ∧ ∀ H', Q (.bl true) H'
def nv (n : Nat) : V := V.int (n : Nat)
structure LW (H : Hp) (lg kp pg hh : Addr) (xs : List V) (log : List LN) (ps ks : List Int) (hs : List Nat) : Prop where
  hl : H lg = some (.lst xs)
  lo : LogAt H log xs
  ok : ∀ ln ∈ log, ln.ok ps.length
  zl : log.length ≤ 63
  hp : H pg = some (.lst (ps.map V.int))
  zp : ps.length ≤ 90
  hk : H kp = some (.lst (ks.map V.int))
  wt : Wt ps log ks
  hh : H hh = some (.lst (hs.map nv))
  zh : hs.length ≤ 63
theorem LW.mono {H H' : Hp} {lg kp pg hh : Addr} {xs : List V} {log : List LN} {ps ks : List Int} {hs : List Nat} (L : LW H lg kp pg hh xs log ps ks hs) (s : Same H H') : LW H' lg kp pg hh xs log ps ks hs :=
  ⟨s _ _ L.hl, L.lo.mono fun a x h => h.mono s.keepT, L.ok, L.zl, s _ _ L.hp, L.zp, s _ _ L.hk, L.wt, s _ _ L.hh, L.zh⟩
theorem reps_nv (H : Hp) : ∀ hs : List Nat, ∃ l, Reps H l (hs.map nv) ∧ szs l ≤ hs.length
  | [] => ⟨[], .nil, by rw [szs_nil]; exact Nat.zero_le _⟩
  | n :: r => by
    obtain ⟨l, h1, h2⟩ := reps_nv H r
    exact ⟨.int (n : Nat) :: l, .cons .ofInt h1, by rw [szs_cons, sz_int, List.length_cons]; omega⟩
theorem upS_fine {ps ks : List Int} {n : Nat} (hl : ks.length = ps.length) {s : SM} (h : s ∈ upS ps ks n) : fineS ps.length s := by
  rcases List.mem_append.mp h with z | z
  · obtain ⟨q, k, rfl, hq, _⟩ := pageS_mem z (Nat.le_refl _)
    show q < ps.length
    omega
  · unfold cutS at z
    split at z
    · cases z
    · rw [List.mem_singleton.mp z]
      show 0 < n
      omega
theorem cut_map (ns : List Int) (lo hi : Option Int) : ∃ ms : List Int, cutV (ns.map V.int) lo hi = ms.map V.int ∧ ms.length ≤ ns.length := by
  refine ⟨(ns.drop (HT.sIx ns.length 0 lo)).take (HT.sIx ns.length ns.length hi - HT.sIx ns.length 0 lo), ?_, ?_⟩
  · unfold cutV
    rw [List.length_map, List.map_take, List.map_drop]
  · rw [List.length_take, List.length_drop]
    omega
theorem scLaw : FnScope ["_law_script", "_law_head", "_law_count", "_law_log", "_law_kept", "_law_desk", "_law_slots", "_law_pages", "_law_halts", "_law_cell", "_law_left", "_law_rest", "_law_halt", "_law_strokes", "_law_ones", "_law_others", "_law_handed", "_law_found"] ["_law_script"] (defScope sLaw) := ⟨rfl, rfl, rfl, by decide +kernel, rfl, by decide +kernel, by decide +kernel⟩
set_option maxHeartbeats 16000000 in
theorem ok_law {gA gK gO gS gC gU gE gR gM : Addr} {dA dK dO dS dC dU dE dR dM : FuncData} (F : Fun K "law" "law" sLaw f fd) (B : Blt mg)
    (GA : FnOk P w K mg base CX0 1 gA dA ["_law_script", "_law_k"] (spAt K)) (bA : Binds K dA ["_law_script", "_law_k"] []) (kA : PySem.W.keepIn K (.ref gA) = true) (mA : mg "_law_at" = some (.ref gA))
    (GK : FnOk P w K mg base CX0 2 gK dK ["_law_found", "_law_due"] spAlike) (bK : Binds K dK ["_law_found", "_law_due"] []) (kK : PySem.W.keepIn K (.ref gK) = true) (mK : mg "_law_alike" = some (.ref gK))
    (GO : FnOk P w K mg base CX0 2 gO dO ["_law_cells", "_law_count"] spLogOf) (bO : Binds K dO ["_law_cells", "_law_count"] []) (kO : PySem.W.keepIn K (.ref gO) = true) (mO : mg "_law_log_of" = some (.ref gO))
    (GS : FnOk P w K mg base CX0 2 gS dS ["_law_log", "_law_kept", "_law_head", "_law_cells"] spSome) (bS : Binds K dS ["_law_log", "_law_kept", "_law_head", "_law_cells"] []) (kS : PySem.W.keepIn K (.ref gS) = true) (mS : mg "_law_some_pages" = some (.ref gS))
    (GC : FnOk P w K mg base CX0 1 gC dC ["_law_head"] spCount) (bC : Binds K dC ["_law_head"] []) (kC : PySem.W.keepIn K (.ref gC) = true) (mC : mg "_law_count_by" = some (.ref gC))
    (GU : FnOk P w K mg base CX0 2 gU dU ["pages", "log"] spUp) (bU : Binds K dU ["pages", "log"] []) (kU : PySem.W.keepIn K (.ref gU) = true) (mU : mg "up" = some (.ref gU))
    (GE : FnOk P w K mg base CX0 4 gE dE ["_law_found", "_law_count"] spAre) (bE : Binds K dE ["_law_found", "_law_count"] []) (kE : PySem.W.keepIn K (.ref gE) = true) (mE : mg "_law_are_strokes" = some (.ref gE))
    (GR : FnOk P w K mg base CX0 2 gR dR ["_law_pages", "_law_log", "_law_strokes"] spAll) (bR : Binds K dR ["_law_pages", "_law_log", "_law_strokes"] []) (kR : PySem.W.keepIn K (.ref gR) = true) (mR : mg "_law_replayed" = some (.ref gR))
    (GM : FnOk P w K mg base CX0 4 gM dM ["pages", "log", "halts"] spCame) (bM : Binds K dM ["pages", "log", "halts"] []) (kM : PySem.W.keepIn K (.ref gM) = true) (mM : mg "came_up" = some (.ref gM)) :
    FnOk P w K mg base CX0 5 f fd ["_law_script"] (spLaw K) := by
  refine F.ok scLaw (fun vs H Q E h => ?_) (fun cdv A outer s H vs Q E hr h => ?_)
  · obtain ⟨a, ns, rfl, _⟩ := h
    rfl
  obtain ⟨a, ns, rfl, hS, h63, q⟩ := h
  have hu := hu_of hr
  -- came_up
  obtain ⟨t10, h10, q10⟩ : ∃ t, PSs (cxOf CX0 P w K mg base ["_law_script", "_law_head", "_law_count", "_law_log", "_law_kept", "_law_desk", "_law_slots", "_law_pages", "_law_halts", "_law_cell", "_law_left", "_law_rest", "_law_halt", "_law_strokes", "_law_ones", "_law_others", "_law_handed", "_law_found"] "law" (defScope sLaw) f cdv A outer s H E).nox ((defBody sLaw).drop 10) t ∧ ∀ (lg kp pg hh : Addr) (xs : List V) (log : List LN) (ps ks : List Int) (hs : List Nat) (o1 o2 o5 o6 o9 o10 o11 o12 o13 : Option V) (H' : Hp), LW H' lg kp pg hh xs log ps ks hs →
      t { nx := fun _ H2 => Q .non H2, rt := Q } [some (.ref a), o1, o2, some (.ref lg), some (.ref kp), o5, o6, some (.ref pg), some (.ref hh), o9, o10, o11, o12, o13, none, none, none, none] H' := by
    refine ⟨_, (pss_cons (ps_set (i := 14) scLaw.nd rfl (Or.inl rfl) (pe_callTy call_list_of rfl B.lst bList (pa_cons (pv 7) pa_nil)))
      (pss_cons (ps_set (i := 15) scLaw.nd rfl (Or.inl rfl) (pe_callTy call_list_of rfl B.lst bList (pa_cons (pv 3) pa_nil)))
      (pss_cons (ps_set (i := 16) scLaw.nd rfl (Or.inl rfl) (pe_callTy call_list_of rfl B.lst bList (pa_cons (pv 8) pa_nil)))
      (pss_cons (ps_set (i := 17) scLaw.nd rfl (Or.inl rfl) (pe_call GM (hr.mono (by decide)) rfl mM kM bM .nil pass0 (pa_cons (pv 14) (pa_cons (pv 15) (pa_cons (pv 16) pa_nil)))))
      (pss_cons (ps_if (pt_or2 (pt_not (pt_val (pe_call GK (hr.mono (by decide)) rfl mK kK bK .nil pass0 (pa_cons (pv 14) (pa_cons (pv 7) pa_nil))))) (pt_not (pt_val (pe_call GK (hr.mono (by decide)) rfl mK kK bK .nil pass0 (pa_cons (pv 15) (pa_cons (pv 3) pa_nil))))))
      (pss_one (ps_ret pe_bl))
      pss_nil)
      (pss_one (ps_ret (pe_and (pe_call GK (hr.mono (by decide)) rfl mK kK bK .nil pass0 (pa_cons (pv 16) (pa_cons (pv 8) pa_nil))) (pe_one (pe_call GK (hr.mono (by decide)) rfl mK kK bK .nil pass0 (pa_cons (pv 17) (pa_cons (pv 4) pa_nil)))))))))))), ?_⟩
    intro lg kp pg hh xs log ps ks hs o1 o2 o5 o6 o9 o10 o11 o12 o13 H1 L
    have zl := L.zl
    have zp := L.zp
    have zh := L.zh
    have lk := L.wt.1
    have lx := L.lo.1
    refine ⟨_, rfl, pg, _, rfl, .inl (SqL.of L.hp), fun a1 h1 => ?_⟩
    have s1 := same_new h1 (.lst (ps.map V.int))
    have e1 : (upd H1 a1 (.lst (ps.map V.int))) a1 = some (.lst (ps.map V.int)) := upd_same
    generalize upd H1 a1 (.lst (ps.map V.int)) = H2 at s1 e1 ⊢
    refine ⟨_, rfl, lg, _, rfl, .inl (SqL.of (s1 _ _ L.hl)), fun a2 h2 => ?_⟩
    have s2 := same_new h2 (.lst xs)
    have e2 : (upd H2 a2 (.lst xs)) a2 = some (.lst xs) := upd_same
    generalize upd H2 a2 (.lst xs) = H3 at s2 e2 ⊢
    refine ⟨_, rfl, hh, _, rfl, .inl (SqL.of (s2 _ _ (s1 _ _ L.hh))), fun a3 h3 => ?_⟩
    have s3 := same_new h3 (.lst (hs.map nv))
    have e3 : (upd H3 a3 (.lst (hs.map nv))) a3 = some (.lst (hs.map nv)) := upd_same
    generalize upd H3 a3 (.lst (hs.map nv)) = H4 at s3 e3 ⊢
    have S3 := s1.trans (s2.trans s3)
    have L4 := L.mono S3
    refine ⟨_, rfl, _, rfl, _, rfl, a1, a2, a3, ps, xs, log, ks, hs, rfl, ⟨(s2.trans s3) _ _ e1, s3 _ _ e2, L4.lo, L.ok, rfl, Nat.le_refl _, L.wt⟩, by omega, by omega, e3, fun fo H5 s5 efo => ?_⟩
    have L5 := L4.mono s5
    obtain ⟨dp, rp, zp'⟩ := reps_ints H5 ps
    obtain ⟨dx, rx, zx⟩ := reps_of (H := H5) (c := 6) (xs := xs) fun v hv => by
      obtain ⟨ln, _, h⟩ := L5.lo.mem hv
      exact h.line.rep
    obtain ⟨dk, rk, zk⟩ := reps_ints H5 ks
    obtain ⟨dh, rh, zh'⟩ := reps_nv H5 hs
    have S5 := s3.trans s5
    refine ⟨_, rfl, _, rfl, _, _, .lst dp, rfl, .ofLst (S5 _ _ (s2 _ _ e1)) rp, .ofLst L5.hp rp, by rw [sz_lst]; omega, fun H6 s6 => ⟨_, rfl, iteF ?_⟩⟩
    refine ⟨_, rfl, _, rfl, _, _, .lst dx, rfl, .ofLst (s6 _ _ (S5 _ _ e2)) (rx.mono s6 _ _), .ofLst (s6 _ _ L5.hl) (rx.mono s6 _ _), by rw [sz_lst]; omega, fun H7 s7 => ⟨_, rfl, iteF ?_⟩⟩
    have S7 := s6.trans s7
    refine ⟨_, rfl, _, rfl, _, _, .lst dh, rfl, .ofLst (S7 _ _ (s5 _ _ e3)) (rh.mono S7 _ _), .ofLst (S7 _ _ L5.hh) (rh.mono S7 _ _), by rw [sz_lst]; omega, fun H8 s8 => ⟨_, rfl, iteT ?_⟩⟩
    have S8 := S7.trans s8
    exact ⟨_, rfl, _, rfl, _, _, .lst dk, rfl, .ofLst (S8 _ _ efo) (rk.mono S8 _ _), .ofLst (S8 _ _ L5.hk) (rk.mono S8 _ _), by rw [sz_lst]; omega, fun H9 _ => q H9⟩
  -- up, asked anew each time
  obtain ⟨t6, h6, q6⟩ : ∃ t, PSs (cxOf CX0 P w K mg base ["_law_script", "_law_head", "_law_count", "_law_log", "_law_kept", "_law_desk", "_law_slots", "_law_pages", "_law_halts", "_law_cell", "_law_left", "_law_rest", "_law_halt", "_law_strokes", "_law_ones", "_law_others", "_law_handed", "_law_found"] "law" (defScope sLaw) f cdv A outer s H E).nox ((defBody sLaw).drop 6) t ∧ ∀ (lg kp pg hh : Addr) (xs : List V) (log : List LN) (ps ks : List Int) (hs : List Nat) (o1 o5 o6 o9 : Option V) (H' : Hp), LW H' lg kp pg hh xs log ps ks hs →
      t { nx := fun _ H2 => Q .non H2, rt := Q } [some (.ref a), o1, some (.int ((ps.length : Nat) : Int)), some (.ref lg), some (.ref kp), o5, o6, some (.ref pg), some (.ref hh), o9, none, none, none, none, none, none, none, none] H' := by
    refine ⟨_, (pss_cons (ps_set (i := 10) scLaw.nd rfl (Or.inl rfl) (pe_callTy call_list_of rfl B.lst bList (pa_cons (pv 7) pa_nil))) (pss_cons (ps_set (i := 11) scLaw.nd rfl (Or.inl rfl) (pe_callTy call_list_of rfl B.lst bList (pa_cons (pv 3) pa_nil))) (pss_cons (ps_for PassesOwn.never rfl (pi_list (pe_op op_cat (pv 8) (pe_lst (pa_cons (pe_op op_add (pv 2) pe_int) pa_nil)))) (pg_name (i := 12) scLaw.nd rfl (Or.inl rfl))
      (pss_cons (ps_set (i := 13) scLaw.nd rfl (Or.inl rfl) (pe_call GU (hr.mono (by decide)) rfl mU kU bU .nil pass0 (pa_cons (pe_callTy call_list_of rfl B.lst bList (pa_cons (pv 10) pa_nil)) (pa_cons (pe_callTy call_list_of rfl B.lst bList (pa_cons (pv 11) pa_nil)) pa_nil))))
      (pss_cons (ps_if (pt_not (pt_val (pe_call GE (hr.mono (by decide)) rfl mE kE bE .nil pass0 (pa_cons (pv 13) (pa_cons (pv 2) pa_nil)))))
      (pss_one (ps_ret pe_bl))
      pss_nil)
      (pss_one (ps_asg (pe_call GR (hr.mono (by decide)) rfl mR kR bR .nil pass0 (pa_cons (pv 10) (pa_cons (pv 11) (pa_cons (pe_slice sl_list (pv 13) po_none (po_some (pv 12))) pa_nil)))) (pg_tup rfl (pgs_cons (pg_name (i := 10) scLaw.nd rfl (Or.inl rfl)) (pgs_cons (pg_name (i := 11) scLaw.nd rfl (Or.inl rfl)) pgs_nil)))))))) (pss_cons (ps_if (pt_or2 (pt_not (pt_val (pe_call GK (hr.mono (by decide)) rfl mK kK bK .nil pass0 (pa_cons (pv 10) (pa_cons (pv 4) pa_nil))))) (pt_cmpR (op_neNil (Nat.lt_of_succ_lt hu)) (pv 11) (pe_lst pa_nil) (nomark _)))
      (pss_one (ps_ret pe_bl))
      pss_nil) h10)))), ?_⟩
    intro lg kp pg hh xs log ps ks hs o1 o5 o6 o9 H1 L
    have zl := L.zl
    have zp := L.zp
    have zh := L.zh
    have lk := L.wt.1
    refine ⟨_, rfl, pg, _, rfl, .inl (SqL.of L.hp), fun a1 h1 => ?_⟩
    have s1 := same_new h1 (.lst (ps.map V.int))
    have e1 : (upd H1 a1 (.lst (ps.map V.int))) a1 = some (.lst (ps.map V.int)) := upd_same
    generalize upd H1 a1 (.lst (ps.map V.int)) = H2 at s1 e1 ⊢
    refine ⟨_, rfl, lg, _, rfl, .inl (SqL.of (s1 _ _ L.hl)), fun a2 h2 => ?_⟩
    have s2 := same_new h2 (.lst xs)
    have e2 : (upd H2 a2 (.lst xs)) a2 = some (.lst xs) := upd_same
    generalize upd H2 a2 (.lst xs) = H3 at s2 e2 ⊢
    have S2 := s1.trans s2
    have L3 := L.mono S2
    refine ⟨_, rfl, _, rfl, _, _, rfl, rfl, le5, fun t ht => ?_⟩
    have s3 := same_new ht (.lst [.int (((ps.length : Nat) : Int) + 1)])
    have e3 : (upd H3 t (.lst [.int (((ps.length : Nat) : Int) + 1)])) t = some (.lst [.int (((ps.length : Nat) : Int) + 1)]) := upd_same
    generalize upd H3 t (.lst [.int (((ps.length : Nat) : Int) + 1)]) = H4 at s3 e3 ⊢
    have L4 := L3.mono s3
    refine ⟨hh, t, _, _, rfl, rfl, L4.hh, e3, Nat.le_of_lt (line_lt (by rw [List.length_map, List.length_singleton]; omega)), fun u hu' => ?_⟩
    have el : hs.map nv ++ [.int (((ps.length : Nat) : Int) + 1)] = (hs ++ [ps.length + 1]).map nv := by
      rw [List.map_append]
      rfl
    rw [el]
    have s4 := same_new hu' (.lst ((hs ++ [ps.length + 1]).map nv))
    have e4 : (upd H4 u (.lst ((hs ++ [ps.length + 1]).map nv))) u = some (.lst ((hs ++ [ps.length + 1]).map nv)) := upd_same
    generalize upd H4 u (.lst ((hs ++ [ps.length + 1]).map nv)) = H5 at s4 e4 ⊢
    have S5 := s3.trans s4
    have M5 : MidAt H5 a1 a2 ps xs log ks ps.length log.length := ⟨S5 _ _ (s2 _ _ e1), S5 _ _ e2, (L4.mono s4).lo, L.ok, rfl, Nat.le_refl _, L.wt⟩
    have L5 := L4.mono s4
    refine ⟨u, rfl, ⟨_, SqL.of e4⟩, for_list (K := K) (a := u) (xs := (hs ++ [ps.length + 1]).map nv) (fun i σ H6 => ∃ (le re : Addr) (ps' : List Int) (xs' : List V) (log' : List LN) (o12 o13 : Option V), σ = [some (.ref a), o1, some (.int ((ps.length : Nat) : Int)), some (.ref lg), some (.ref kp), o5, o6, some (.ref pg), some (.ref hh), o9, some (.ref le), some (.ref re), o12, o13, none, none, none, none] ∧ Same H5 H6 ∧
        MidAt H6 le re ps' xs' log' ks ps.length log.length ∧ (i = hs.length + 1 → ps' = ks ∧ xs' = []))
      ⟨a1, a2, ps, xs, log, none, none, rfl, Same.refl _, M5, fun z => by omega⟩ (fun i σ H6 _ ⟨_, _, _, _, _, _, _, _, s6, _⟩ => SqL.of (s6 _ _ e4)) ?_ ?_⟩
    · rintro i x σ H6 hi ⟨le, re, ps', xs', log', o12, o13, rfl, s6, M6, _⟩
      obtain ⟨j, rfl, hj⟩ : ∃ j : Nat, x = V.int (j : Nat) ∧ (hs ++ [ps.length + 1])[i]? = some j := by
        rw [List.getElem?_map] at hi
        cases e : (hs ++ [ps.length + 1])[i]? with
        | none => rw [e] at hi; cases hi
        | some j => rw [e] at hi; exact ⟨j, (Option.some.inj hi).symm, rfl⟩
      have lp := M6.lp
      have ll := M6.ll
      refine ⟨_, rfl, le, _, rfl, .inl (SqL.of M6.hp), fun b1 hb1 => ?_⟩
      have s7 := same_new hb1 (.lst (ps'.map V.int))
      have e7 : (upd H6 b1 (.lst (ps'.map V.int))) b1 = some (.lst (ps'.map V.int)) := upd_same
      generalize upd H6 b1 (.lst (ps'.map V.int)) = H7 at s7 e7 ⊢
      refine ⟨_, rfl, re, _, rfl, .inl (SqL.of (s7 _ _ M6.hl)), fun b2 hb2 => ?_⟩
      have s8 := same_new hb2 (.lst xs')
      have e8 : (upd H7 b2 (.lst xs')) b2 = some (.lst xs') := upd_same
      generalize upd H7 b2 (.lst xs') = H8 at s8 e8 ⊢
      have S8 := s7.trans s8
      have M8 := M6.mono S8
      refine ⟨b1, b2, ps', xs', log', rfl, s8 _ _ e7, by omega, e8, M8.lo, by omega, M8.ok, fun r ks2 zs H9 s9 _ er lk2 hw rzs => ?_⟩
      have ek : ks2 = ks := M6.wt.uniq ⟨lk2, hw⟩
      subst ek
      have M9 := M8.mono s9
      refine ⟨_, rfl, _, rfl, r, zs, _, ps.length, rfl, er, rzs, fun s hs => ?_, fun H10 s10 => ⟨_, rfl, iteF ?_⟩⟩
      · rw [← lp]
        exact upS_fine lk2 hs
      have M10 := M9.mono s10
      refine ⟨_, rfl, _, rfl, _, rfl, _, rfl, _, rfl, r, zs, rfl, SqL.of (s10 _ _ er), fun v hv => ?_⟩
      rw [cut_to]
      have s11 := same_new hv (.lst (zs.take j))
      have e11 : (upd H10 v (.lst (zs.take j))) v = some (.lst (zs.take j)) := upd_same
      generalize upd H10 v (.lst (zs.take j)) = H11 at s11 e11 ⊢
      have M11 := M10.mono s11
      have nol : ∀ s ∈ (upS ps' ks2 log'.length).take j, s.noLine := fun s hs => upS_noLine (List.mem_of_mem_take hs)
      have rz : Reps H11 (((upS ps' ks2 log'.length).take j).map SM.D) (zs.take j) := by
        rw [List.map_take]
        exact Reps.mono (s10.trans s11) _ _ (reps_take j rzs)
      have lx6 := M6.lo.1
      have lup := upS_len ps' ks2 log'.length
      refine ⟨le, re, v, ps'.map V.int, xs', zs.take j, ((upS ps' ks2 log'.length).take j).map SM.sk, rfl, M11.hp, M11.hl, e11, sks_of rz nol, fun sk hsk => ?_, by rw [List.length_map]; omega, by omega, by rw [List.length_map, List.length_take]; omega, fun r2 p' l' H12 s12 er2 ep2 el2 => ?_⟩
      · obtain ⟨s, hs, rfl⟩ := List.mem_map.mp hsk
        rw [List.length_map]
        exact upS_ok lk2 (List.mem_of_mem_take hs)
      obtain ⟨xs2, M12, fin⟩ := M11.next s12 j ep2 el2
      refine ⟨r2, _, rfl, SqT.of er2, rfl, _, _, rfl, _, _, rfl, rfl, ?_⟩
      refine ⟨p', l', _, xs2, _, _, _, rfl, s6.trans (S8.trans (s9.trans (s10.trans (s11.trans s12)))), M12, fun hi' => fin ?_⟩
      have hi2 : i = hs.length := by omega
      subst hi2
      rw [List.getElem?_append_right (Nat.le_refl _), Nat.sub_self] at hj
      have hj' : ps.length + 1 = j := Option.some.inj hj
      omega
    · rintro σ H6 ⟨le, re, ps', xs', log', o12, o13, rfl, s6, M6, fin⟩
      obtain ⟨rfl, rfl⟩ := fin (by rw [List.length_map, List.length_append, List.length_singleton])
      have L6 := L5.mono s6
      obtain ⟨dk, rk, zk⟩ := reps_ints H6 ps'
      refine ⟨_, rfl, _, rfl, _, _, .lst dk, rfl, .ofLst M6.hp rk, .ofLst L6.hk rk, by rw [sz_lst]; omega, fun H7 s7 => ⟨_, rfl, iteF ?_⟩⟩
      refine ⟨_, rfl, le5, fun v hv => ?_⟩
      have s8 := same_new hv (.lst [])
      refine ⟨re, v, _, rfl, rfl, s8 _ _ (s7 _ _ M6.hl), upd_same, _, rfl, iteF ?_⟩
      exact q10 lg kp pg hh xs log ps ps' hs _ _ _ _ _ _ _ _ _ _ (L6.mono (s7.trans s8))
  refine ⟨_, pss_cons (ps_set (i := 1) scLaw.nd rfl (Or.inl rfl) (pe_call GA (hr.mono (by decide)) rfl mA kA bA .nil pass0 (pa_cons (pv 0) (pa_cons pe_int pa_nil)))) (pss_cons (ps_set (i := 2) scLaw.nd rfl (Or.inl rfl) (pe_call GC (hr.mono (by decide)) rfl mC kC bC .nil pass0 (pa_cons (pv 1) pa_nil))) (pss_cons (ps_asg (pe_call GO (hr.mono (by decide)) rfl mO kO bO .nil pass0 (pa_cons (pe_slice sl_list (pv 0) (po_some pe_int) po_none) (pa_cons (pv 2) pa_nil))) (pg_tup rfl (pgs_cons (pg_name (i := 3) scLaw.nd rfl (Or.inl rfl)) (pgs_cons (pg_name (i := 4) scLaw.nd rfl (Or.inl rfl)) (pgs_cons (pg_name (i := 5) scLaw.nd rfl (Or.inl rfl)) (pgs_cons (pg_name (i := 6) scLaw.nd rfl (Or.inl rfl)) pgs_nil)))))) (pss_cons (ps_set (i := 7) scLaw.nd rfl (Or.inl rfl) (pe_call GS (hr.mono (by decide)) rfl mS kS bS .nil pass0 (pa_cons (pv 3) (pa_cons (pv 4) (pa_cons (pe_op op_fdiv (pv 1) pe_int) (pa_cons (pe_slice sl_list (pv 0) (po_some pe_int) po_none) pa_nil)))))) (pss_cons (ps_set (i := 8) scLaw.nd rfl (Or.inl rfl) (pe_lst pa_nil)) (pss_cons (ps_for PassesOwn.never rfl (pi_list (pe_slice sl_list (pv 0) (po_some pe_int) (po_some (pe_op op_add pe_int (pe_op op_mod (pe_call GA (hr.mono (by decide)) rfl mA kA bA .nil pass0 (pa_cons (pv 0) (pa_cons pe_int pa_nil))) pe_int))))) (pg_name (i := 9) scLaw.nd rfl (Or.inl rfl))
      (pss_one (ps_expr (pe_bm PySem.F.plainAttrs_list PySem.F.slot_list_append PySem.F.type_list_append mt_append (pv 8) (pa_cons (pe_ix ix_list (pe_lst (pa_cons (pe_op op_mod (pv 9) pe_int) (pa_cons pe_int pa_nil))) (pe_callTy call_int1 rfl B.int bInt (pa_cons (pe_cmpR op_eq (pe_op op_mod (pv 9) pe_int) pe_int (nomark _)) pa_nil)) (fun _ _ => rfl)) pa_nil))))) h6))))), ?_⟩
  refine ⟨_, rfl, a, ns, 0, rfl, hS, by decide, fun hd => ?_⟩
  refine ⟨_, rfl, _, rfl, fun c H0 hc1 hc2 s0 => ?_⟩
  refine ⟨_, rfl, _, rfl, a, _, rfl, s0.seq hS, fun c1 h1 => ?_⟩
  have ec1 : (upd H0 c1 (.lst (cutV (ns.map V.int) (some 3) none))) c1 = some (.lst ((ns.drop 3).map V.int)) := by
    rw [upd_same]
    exact congrArg (fun l => some (HO.lst l)) (cut_ints ns 3)
  have s1 := same_new h1 (.lst (cutV (ns.map V.int) (some 3) none))
  generalize upd H0 c1 (.lst (cutV (ns.map V.int) (some 3) none)) = H1 at s1 ec1 ⊢
  have lns : (ns.drop 3).length ≤ 63 := by rw [List.length_drop]; omega
  refine ⟨_, rfl, c1, ns.drop 3, c, rfl, ec1, lns, hc1, hc2, fun r lg kp dk sl xs log ks ds ss ts m H3 s3 er el hlo hok zl ek lk ed ld es lss KK => ?_⟩
  refine ⟨r, _, rfl, SqT.of er, rfl, _, _, rfl, _, _, rfl, _, _, rfl, _, _, rfl, rfl, ?_⟩
  have S3 := s0.trans (s1.trans s3)
  refine ⟨_, rfl, _, rfl, _, rfl, _, _, rfl, rfl, ⟨by decide, by decide⟩, _, rfl, _, rfl, a, _, rfl, S3.seq hS, fun c2 h2 => ?_⟩
  have ec2 : (upd H3 c2 (.lst (cutV (ns.map V.int) (some 3) none))) c2 = some (.lst ((ns.drop 3).map V.int)) := by
    rw [upd_same]
    exact congrArg (fun l => some (HO.lst l)) (cut_ints ns 3)
  have s4 := same_new h2 (.lst (cutV (ns.map V.int) (some 3) none))
  generalize upd H3 c2 (.lst (cutV (ns.map V.int) (some 3) none)) = H4 at s4 ec2 ⊢
  refine ⟨lg, kp, c2, _, xs, log, ks, ns.drop 3, rfl, s4 _ _ el, hlo.mono fun b x h => h.mono s4.keepT, s4 _ _ ek, by omega, ec2, lns, fun pg ps H5 s5 ep lp hun => ?_⟩
  have S35 := s4.trans s5
  have S5 := S3.trans S35
  have wt : Wt ps log ks := by
    refine ⟨by omega, fun qq v hv => ?_⟩
    have hq : qq < c.toNat := by
      have := (List.getElem?_eq_some_iff.mp hv).1
      omega
    have hk : ks[qq]? = some ks[qq] := List.getElem?_eq_getElem (by omega)
    rw [hk, KK.want (v := v) hq hk fun hno => ?_]
    have := hun qq _ hk hno
    rw [hv] at this
    exact Option.some.inj this
  -- the halts
  refine ⟨le5, fun hh hhh => ?_⟩
  have s6 := same_new hhh (.lst [])
  have e6 : (upd H5 hh (.lst [])) hh = some (.lst (([] : List Nat).map nv)) := upd_same
  generalize upd H5 hh (.lst []) = H6 at s6 e6 ⊢
  have S6 := S5.trans s6
  refine ⟨_, rfl, _, rfl, _, rfl, a, ns, 1, rfl, S6.seq hS, by decide, fun z2 => ⟨_, _, rfl, rfl, (by decide : (0 : Int) < 8), _, _, rfl, rfl, _, rfl, a, _, rfl, S6.seq hS, fun c3 h3 => ?_⟩⟩
  obtain ⟨ms, ems, lms⟩ := cut_map ns (some 3) (some (3 + z2 % 8))
  have ec3 : (upd H6 c3 (.lst (cutV (ns.map V.int) (some 3) (some (3 + z2 % 8))))) c3 = some (.lst (ms.map V.int)) := by
    rw [upd_same]
    exact congrArg (fun l => some (HO.lst l)) ems
  have s7 := same_new h3 (.lst (cutV (ns.map V.int) (some 3) (some (3 + z2 % 8))))
  have e7 := s7 _ _ e6
  have nhc : hh ≠ c3 := ne_of_none e6 h3
  generalize upd H6 c3 (.lst (cutV (ns.map V.int) (some 3) (some (3 + z2 % 8)))) = H7 at s7 ec3 e7 ⊢
  have S7 := S35.trans (s6.trans s7)
  have cE : (c : Int) = ((ps.length : Nat) : Int) := by omega
  have hh0 : H5 hh = none := hhh
  refine ⟨c3, rfl, ⟨_, SqL.of ec3⟩, for_list (K := K) (a := c3) (xs := ms.map V.int) (fun i σ H8 => ∃ (hs : List Nat) (o9 : Option V), σ = [some (.ref a), some (.int hd), some (.int c), some (.ref lg), some (.ref kp), some (.ref dk), some (.ref sl), some (.ref pg), some (.ref hh), o9, none, none, none, none, none, none, none, none] ∧ Same H5 H8 ∧ H8 c3 = some (.lst (ms.map V.int)) ∧ H8 hh = some (.lst (hs.map nv)) ∧ hs.length = i)
    ⟨[], none, rfl, s6.trans s7, ec3, e7, rfl⟩ (fun i σ H8 _ ⟨_, _, _, _, e8, _⟩ => SqL.of e8) ?_ ?_⟩
  · rintro i x σ H8 hi ⟨hs, o9, rfl, s8, e8, eh8, lhs⟩
    obtain ⟨z, rfl, _⟩ := get_map_int hi
    have hi' : i < ms.length := by
      have := (List.getElem?_eq_some_iff.mp hi).1
      rw [List.length_map] at this
      exact this
    have fin : ∀ (t : Addr) (y : V) (n : Nat), H8 t = none → y = nv n → ∀ o : HO, ∃ l xs y', V.ref hh = .ref l ∧ [y] = [y'] ∧ (upd H8 t o) l = some (.lst xs) ∧ xs.length < sizeLine ∧ ∃ (hs : List Nat) (o9 : Option V), [some (V.ref a), some (.int hd), some (.int c), some (.ref lg), some (.ref kp), some (.ref dk), some (.ref sl), some (.ref pg), some (.ref hh), some (.int z), none, none, none, none, none, none, none, none] = [some (V.ref a), some (.int hd), some (.int c), some (.ref lg), some (.ref kp), some (.ref dk), some (.ref sl), some (.ref pg), some (.ref hh), o9, none, none, none, none, none, none, none, none] ∧ Same H5 (upd (upd H8 t o) l (.lst (xs ++ [y']))) ∧ (upd (upd H8 t o) l (.lst (xs ++ [y']))) c3 = some (.lst (ms.map V.int)) ∧ (upd (upd H8 t o) l (.lst (xs ++ [y']))) hh = some (.lst (hs.map nv)) ∧ hs.length = i + 1 := by
      intro t y n ht ey o
      subst ey
      refine ⟨hh, hs.map nv, nv n, rfl, rfl, by rw [upd_ne (ne_of_none eh8 ht)]; exact eh8, line_lt (by rw [List.length_map]; omega), hs ++ [n], _, rfl, (s8.trans (same_new ht o)).upd_new hh0, by rw [upd_ne nhc.symm, upd_ne (ne_of_none e8 ht)]; exact e8, by rw [upd_same, List.map_append]; rfl, by rw [List.length_append, List.length_singleton, lhs]⟩
    refine ⟨_, rfl, .inl ⟨rfl, _, SqL.of eh8⟩, _, rfl, _, _, rfl, rfl, (by decide : (0 : Int) < 4), le5, fun t ht => ?_⟩
    refine ⟨_, rfl, _, _, rfl, rfl, (by decide : (0 : Int) < 9), rfl, .inr ⟨_, rfl, two_ix upd_same ?_ ?_ _⟩⟩
    · exact fin t _ (z % 4).toNat ht (congrArg V.int (show z % 4 = (((z % 4).toNat : Nat) : Int) by omega)) _
    · exact fin t _ 1000000000000 ht rfl _
  · rintro σ H8 ⟨hs, o9, rfl, s8, e8, eh8, lhs⟩
    rw [cE]
    refine q6 lg kp pg hh xs log ps ks hs _ _ _ _ _ ⟨(S35.trans s8) _ _ el, hlo.mono fun b x h => h.mono (S35.trans s8).keepT, fun ln hln => by rw [lp, lk]; exact hok ln hln, zl, s8 _ _ ep, by omega, (S35.trans s8) _ _ ek, wt, eh8, ?_⟩
    rw [lhs, List.length_map]
    omega
end
end K07

set_option Elab.async false
set_option linter.all false
set_option maxRecDepth 100000
namespace K07
open PySem L2
theorem all_mk {l : PySem.W.OpenLaw} {w : World} {K : PySem.W.Frag} {h : Heap} {mg : Str → Option Value} {fa C1 f1 f2 f3 f4 f5 f6 f7 f8 f9 f10 f11 f12 f13 f14 f15 f16 f17 f18 f19 f20 : Addr} (X : K.In h) (G : h.Ns mainGlobals mg) (hfa : mg "law" = some (.ref fa))
    {od1 an1 od2 an2 od3 an3 od4 an4 od5 an5 od6 an6 od7 an7 od8 an8 od9 an9 od10 an10 od11 an11 od12 an12 od13 an13 od14 an14 od15 an15 od16 an16 od17 an17 od18 an18 od19 an19 od20 an20 : Option Addr} {sl1 sl2 sl3 sl4 sl5 sl6 sl7 sl8 sl9 sl10 sl11 sl12 sl13 sl14 sl15 sl16 sl17 sl18 sl19 sl20 : Array (Option Value)} {oc1 kV1 dc1 pm1 cd1 ct1 oc2 kV2 dc2 pm2 cd2 ct2 oc3 kV3 dc3 pm3 cd3 ct3 oc4 kV4 dc4 pm4 cd4 ct4 oc5 kV5 dc5 pm5 cd5 ct5 oc6 kV6 dc6 pm6 cd6 ct6 oc7 kV7 dc7 pm7 cd7 ct7 oc8 kV8 dc8 pm8 cd8 ct8 oc9 kV9 dc9 pm9 cd9 ct9 oc10 kV10 dc10 pm10 cd10 ct10 oc11 kV11 dc11 pm11 cd11 ct11 oc12 kV12 dc12 pm12 cd12 ct12 oc13 kV13 dc13 pm13 cd13 ct13 oc14 kV14 dc14 pm14 cd14 ct14 oc15 kV15 dc15 pm15 cd15 ct15 oc16 kV16 dc16 pm16 cd16 ct16 oc17 kV17 dc17 pm17 cd17 ct17 oc18 kV18 dc18 pm18 cd18 ct18 oc19 kV19 dc19 pm19 cd19 ct19 oc20 kV20 dc20 pm20 cd20 ct20 : Value}
    (aC1 : PySem.W.nsIn K mainGlobals "Cellar" = some (some (.ref C1)))
    (a1 : PySem.W.findIn K (.ref C1) "__init__" = some (some (.ref f1))) (i1 : PySem.W.isFn K (.ref f1) = true)
      (l1 : K.lookup f1 = some ⟨oc1, od1, .func (PySem.W.fnOf "__init__" "Cellar.__init__" (defArgs sCInit) (defBody sCInit) (defScope sCInit) .none kV1 dc1 pm1 an1 cd1 ct1), sl1⟩) (c1 : PySem.W.codeIn K cd1 "Cellar.__init__" = true) (k1 : PySem.W.keepIn K (.ref f1) = true)
    (a2 : PySem.W.findIn K (.ref C1) "do_stroke" = some (some (.ref f2))) (i2 : PySem.W.isFn K (.ref f2) = true)
      (l2 : K.lookup f2 = some ⟨oc2, od2, .func (PySem.W.fnOf "do_stroke" "Cellar.do_stroke" (defArgs sDo) (defBody sDo) (defScope sDo) .none kV2 dc2 pm2 an2 cd2 ct2), sl2⟩) (c2 : PySem.W.codeIn K cd2 "Cellar.do_stroke" = true) (k2 : PySem.W.keepIn K (.ref f2) = true)
    (a3 : PySem.W.nsIn K mainGlobals "behind" = some (some (.ref f3)))
      (l3 : K.lookup f3 = some ⟨oc3, od3, .func (PySem.W.fnOf "behind" "behind" (defArgs sBehind) (defBody sBehind) (defScope sBehind) .none kV3 dc3 pm3 an3 cd3 ct3), sl3⟩) (c3 : PySem.W.codeIn K cd3 "behind" = true) (k3 : PySem.W.keepIn K (.ref f3) = true)
    (a4 : PySem.W.nsIn K mainGlobals "wanted" = some (some (.ref f4)))
      (l4 : K.lookup f4 = some ⟨oc4, od4, .func (PySem.W.fnOf "wanted" "wanted" (defArgs sWant) (defBody sWant) (defScope sWant) .none kV4 dc4 pm4 an4 cd4 ct4), sl4⟩) (c4 : PySem.W.codeIn K cd4 "wanted" = true) (k4 : PySem.W.keepIn K (.ref f4) = true)
    (a5 : PySem.W.nsIn K mainGlobals "up" = some (some (.ref f5)))
      (l5 : K.lookup f5 = some ⟨oc5, od5, .func (PySem.W.fnOf "up" "up" (defArgs sUp) (defBody sUp) (defScope sUp) .none kV5 dc5 pm5 an5 cd5 ct5), sl5⟩) (c5 : PySem.W.codeIn K cd5 "up" = true) (k5 : PySem.W.keepIn K (.ref f5) = true)
    (a6 : PySem.W.nsIn K mainGlobals "came_up" = some (some (.ref f6)))
      (l6 : K.lookup f6 = some ⟨oc6, od6, .func (PySem.W.fnOf "came_up" "came_up" (defArgs sCame) (defBody sCame) (defScope sCame) .none kV6 dc6 pm6 an6 cd6 ct6), sl6⟩) (c6 : PySem.W.codeIn K cd6 "came_up" = true) (k6 : PySem.W.keepIn K (.ref f6) = true)
    (a7 : PySem.W.nsIn K mainGlobals "_law_draw" = some (some (.ref f7)))
      (l7 : K.lookup f7 = some ⟨oc7, od7, .func (PySem.W.fnOf "_law_draw" "_law_draw" (defArgs sDraw) (defBody sDraw) (defScope sDraw) .none kV7 dc7 pm7 an7 cd7 ct7), sl7⟩) (c7 : PySem.W.codeIn K cd7 "_law_draw" = true) (k7 : PySem.W.keepIn K (.ref f7) = true)
    (a8 : PySem.W.nsIn K mainGlobals "_law_whole" = some (some (.ref f8)))
      (l8 : K.lookup f8 = some ⟨oc8, od8, .func (PySem.W.fnOf "_law_whole" "_law_whole" (defArgs sWhole) (defBody sWhole) (defScope sWhole) .none kV8 dc8 pm8 an8 cd8 ct8), sl8⟩) (c8 : PySem.W.codeIn K cd8 "_law_whole" = true) (k8 : PySem.W.keepIn K (.ref f8) = true)
    (a9 : PySem.W.nsIn K mainGlobals "_law_at" = some (some (.ref f9)))
      (l9 : K.lookup f9 = some ⟨oc9, od9, .func (PySem.W.fnOf "_law_at" "_law_at" (defArgs sAt) (defBody sAt) (defScope sAt) .none kV9 dc9 pm9 an9 cd9 ct9), sl9⟩) (c9 : PySem.W.codeIn K cd9 "_law_at" = true) (k9 : PySem.W.keepIn K (.ref f9) = true)
    (a10 : PySem.W.nsIn K mainGlobals "_law_alike" = some (some (.ref f10)))
      (l10 : K.lookup f10 = some ⟨oc10, od10, .func (PySem.W.fnOf "_law_alike" "_law_alike" (defArgs sAlike) (defBody sAlike) (defScope sAlike) .none kV10 dc10 pm10 an10 cd10 ct10), sl10⟩) (c10 : PySem.W.codeIn K cd10 "_law_alike" = true) (k10 : PySem.W.keepIn K (.ref f10) = true)
    (a11 : PySem.W.nsIn K mainGlobals "_law_one_stroke" = some (some (.ref f11)))
      (l11 : K.lookup f11 = some ⟨oc11, od11, .func (PySem.W.fnOf "_law_one_stroke" "_law_one_stroke" (defArgs sOne) (defBody sOne) (defScope sOne) .none kV11 dc11 pm11 an11 cd11 ct11), sl11⟩) (c11 : PySem.W.codeIn K cd11 "_law_one_stroke" = true) (k11 : PySem.W.keepIn K (.ref f11) = true)
    (a12 : PySem.W.nsIn K mainGlobals "_law_replayed" = some (some (.ref f12)))
      (l12 : K.lookup f12 = some ⟨oc12, od12, .func (PySem.W.fnOf "_law_replayed" "_law_replayed" (defArgs sRep) (defBody sRep) (defScope sRep) .none kV12 dc12 pm12 an12 cd12 ct12), sl12⟩) (c12 : PySem.W.codeIn K cd12 "_law_replayed" = true) (k12 : PySem.W.keepIn K (.ref f12) = true)
    (a13 : PySem.W.nsIn K mainGlobals "_law_is_line" = some (some (.ref f13)))
      (l13 : K.lookup f13 = some ⟨oc13, od13, .func (PySem.W.fnOf "_law_is_line" "_law_is_line" (defArgs sIsLine) (defBody sIsLine) (defScope sIsLine) .none kV13 dc13 pm13 an13 cd13 ct13), sl13⟩) (c13 : PySem.W.codeIn K cd13 "_law_is_line" = true) (k13 : PySem.W.keepIn K (.ref f13) = true)
    (a14 : PySem.W.nsIn K mainGlobals "_law_is_stroke" = some (some (.ref f14)))
      (l14 : K.lookup f14 = some ⟨oc14, od14, .func (PySem.W.fnOf "_law_is_stroke" "_law_is_stroke" (defArgs sIsStroke) (defBody sIsStroke) (defScope sIsStroke) .none kV14 dc14 pm14 an14 cd14 ct14), sl14⟩) (c14 : PySem.W.codeIn K cd14 "_law_is_stroke" = true) (k14 : PySem.W.keepIn K (.ref f14) = true)
    (a15 : PySem.W.nsIn K mainGlobals "_law_are_strokes" = some (some (.ref f15)))
      (l15 : K.lookup f15 = some ⟨oc15, od15, .func (PySem.W.fnOf "_law_are_strokes" "_law_are_strokes" (defArgs sAre) (defBody sAre) (defScope sAre) .none kV15 dc15 pm15 an15 cd15 ct15), sl15⟩) (c15 : PySem.W.codeIn K cd15 "_law_are_strokes" = true) (k15 : PySem.W.keepIn K (.ref f15) = true)
    (a16 : PySem.W.nsIn K mainGlobals "_law_log_of" = some (some (.ref f16)))
      (l16 : K.lookup f16 = some ⟨oc16, od16, .func (PySem.W.fnOf "_law_log_of" "_law_log_of" (defArgs sLogOf) (defBody sLogOf) (defScope sLogOf) .none kV16 dc16 pm16 an16 cd16 ct16), sl16⟩) (c16 : PySem.W.codeIn K cd16 "_law_log_of" = true) (k16 : PySem.W.keepIn K (.ref f16) = true)
    (a17 : PySem.W.nsIn K mainGlobals "_law_written" = some (some (.ref f17)))
      (l17 : K.lookup f17 = some ⟨oc17, od17, .func (PySem.W.fnOf "_law_written" "_law_written" (defArgs sWrit) (defBody sWrit) (defScope sWrit) .none kV17 dc17 pm17 an17 cd17 ct17), sl17⟩) (c17 : PySem.W.codeIn K cd17 "_law_written" = true) (k17 : PySem.W.keepIn K (.ref f17) = true)
    (a18 : PySem.W.nsIn K mainGlobals "_law_some_pages" = some (some (.ref f18)))
      (l18 : K.lookup f18 = some ⟨oc18, od18, .func (PySem.W.fnOf "_law_some_pages" "_law_some_pages" (defArgs sSome) (defBody sSome) (defScope sSome) .none kV18 dc18 pm18 an18 cd18 ct18), sl18⟩) (c18 : PySem.W.codeIn K cd18 "_law_some_pages" = true) (k18 : PySem.W.keepIn K (.ref f18) = true)
    (a19 : PySem.W.nsIn K mainGlobals "_law_count_by" = some (some (.ref f19)))
      (l19 : K.lookup f19 = some ⟨oc19, od19, .func (PySem.W.fnOf "_law_count_by" "_law_count_by" (defArgs sCount) (defBody sCount) (defScope sCount) .none kV19 dc19 pm19 an19 cd19 ct19), sl19⟩) (c19 : PySem.W.codeIn K cd19 "_law_count_by" = true) (k19 : PySem.W.keepIn K (.ref f19) = true)
    (a20 : PySem.W.nsIn K mainGlobals "law" = some (some (.ref f20)))
      (l20 : K.lookup f20 = some ⟨oc20, od20, .func (PySem.W.fnOf "law" "law" (defArgs sLaw) (defBody sLaw) (defScope sLaw) .none kV20 dc20 pm20 an20 cd20 ct20), sl20⟩) (c20 : PySem.W.codeIn K cd20 "law" = true) (k20 : PySem.W.keepIn K (.ref f20) = true)
    (pgC1 : PySem.W.plainGet K C1 Str.empty = true) (hdC1 : PySem.W.hasDictIn K C1 = true) (poC1 : PySem.W.plainOver K C1 = true) (saC1 : PySem.W.findIn K (.ref C1) "__setattr__" = some (some (.builtin "object.__setattr__"))) (mkC1 : PySem.W.makesIn K C1 = true) (kcC1 : PySem.W.keepIn K (.ref C1) = true)
    (nC1_pages : PySem.W.findIn K (.ref C1) "pages" = some none)
    (nC1_log : PySem.W.findIn K (.ref C1) "log" = some none)
    (z1 : PySem.W.nsIn K mainGlobals "list" = some none)
    (z2 : PySem.W.nsIn K mainGlobals "tuple" = some none)
    (z3 : PySem.W.nsIn K mainGlobals "int" = some none)
    (z4 : PySem.W.nsIn K mainGlobals "str" = some none)
    (z5 : PySem.W.nsIn K mainGlobals "bool" = some none)
    (z6 : PySem.W.nsIn K mainGlobals "isinstance" = some none)
    (z7 : PySem.W.nsIn K mainGlobals "len" = some none)
    (z8 : PySem.W.nsIn K mainGlobals "range" = some none)
    (z9 : PySem.W.nsIn K mainGlobals "enumerate" = some none)
    (z10 : PySem.W.nsIn K mainGlobals "dict" = some none)
    (z11 : PySem.W.nsIn K mainGlobals "reversed" = some none)
    : ∃ fd : FuncData, (∀ (s : Shared) (v : Value), BindsTo s fd ⟨[v], []⟩ [("_law_script", v)]) ∧ ∀ base : Heap, K.In base → base.Ns mainGlobals mg → FnOk l.prog w K mg base CX0 5 fa fd ["_law_script"] (spLaw K) := by
  have e := hfa.symm.trans (PySem.W.mg_of X G a20)
  cases e
  have F1 := fun_mk (st := sCInit) l1 c1 k1
  have F2 := fun_mk (st := sDo) l2 c2 k2
  have F3 := fun_mk (st := sBehind) l3 c3 k3
  have F4 := fun_mk (st := sWant) l4 c4 k4
  have F5 := fun_mk (st := sUp) l5 c5 k5
  have F6 := fun_mk (st := sCame) l6 c6 k6
  have F7 := fun_mk (st := sDraw) l7 c7 k7
  have F8 := fun_mk (st := sWhole) l8 c8 k8
  have F9 := fun_mk (st := sAt) l9 c9 k9
  have F10 := fun_mk (st := sAlike) l10 c10 k10
  have F11 := fun_mk (st := sOne) l11 c11 k11
  have F12 := fun_mk (st := sRep) l12 c12 k12
  have F13 := fun_mk (st := sIsLine) l13 c13 k13
  have F14 := fun_mk (st := sIsStroke) l14 c14 k14
  have F15 := fun_mk (st := sAre) l15 c15 k15
  have F16 := fun_mk (st := sLogOf) l16 c16 k16
  have F17 := fun_mk (st := sWrit) l17 c17 k17
  have F18 := fun_mk (st := sSome) l18 c18 k18
  have F19 := fun_mk (st := sCount) l19 c19 k19
  have F20 := fun_mk (st := sLaw) l20 c20 k20
  have b1 := F1.binds (ps := ["self", "pages", "log"]) fun _ _ _ _ _ _ us hl => match us, hl with | [_, _, _], _ => rfl
  have m1 : Meth K C1 "__init__" f1 := ⟨a1, i1, k1⟩
  have b2 := F2.binds (ps := ["self", "stroke"]) fun _ _ _ _ _ _ us hl => match us, hl with | [_, _], _ => rfl
  have m2 : Meth K C1 "do_stroke" f2 := ⟨a2, i2, k2⟩
  have b3 := F3.binds (ps := ["pages", "log", "strokes"]) fun _ _ _ _ _ _ us hl => match us, hl with | [_, _, _], _ => rfl
  have m3 := PySem.W.mg_of X G a3
  have b4 := F4.binds (ps := ["pages", "log"]) fun _ _ _ _ _ _ us hl => match us, hl with | [_, _], _ => rfl
  have m4 := PySem.W.mg_of X G a4
  have b5 := F5.binds (ps := ["pages", "log"]) fun _ _ _ _ _ _ us hl => match us, hl with | [_, _], _ => rfl
  have m5 := PySem.W.mg_of X G a5
  have b6 := F6.binds (ps := ["pages", "log", "halts"]) fun _ _ _ _ _ _ us hl => match us, hl with | [_, _, _], _ => rfl
  have m6 := PySem.W.mg_of X G a6
  have b7 := F7.binds (ps := ["_law_number", "_law_prime", "_law_many"]) fun _ _ _ _ _ _ us hl => match us, hl with | [_, _, _], _ => rfl
  have m7 := PySem.W.mg_of X G a7
  have b8 := F8.binds (ps := ["_law_found"]) fun _ _ _ _ _ _ us hl => match us, hl with | [_], _ => rfl
  have m8 := PySem.W.mg_of X G a8
  have b9 := F9.binds (ps := ["_law_script", "_law_k"]) fun _ _ _ _ _ _ us hl => match us, hl with | [_, _], _ => rfl
  have m9 := PySem.W.mg_of X G a9
  have b10 := F10.binds (ps := ["_law_found", "_law_due"]) fun _ _ _ _ _ _ us hl => match us, hl with | [_, _], _ => rfl
  have m10 := PySem.W.mg_of X G a10
  have b11 := F11.binds (ps := ["_law_pages", "_law_log", "_law_stroke"]) fun _ _ _ _ _ _ us hl => match us, hl with | [_, _, _], _ => rfl
  have m11 := PySem.W.mg_of X G a11
  have b12 := F12.binds (ps := ["_law_pages", "_law_log", "_law_strokes"]) fun _ _ _ _ _ _ us hl => match us, hl with | [_, _, _], _ => rfl
  have m12 := PySem.W.mg_of X G a12
  have b13 := F13.binds (ps := ["_law_found", "_law_count"]) fun _ _ _ _ _ _ us hl => match us, hl with | [_, _], _ => rfl
  have m13 := PySem.W.mg_of X G a13
  have b14 := F14.binds (ps := ["_law_found", "_law_count"]) fun _ _ _ _ _ _ us hl => match us, hl with | [_, _], _ => rfl
  have m14 := PySem.W.mg_of X G a14
  have b15 := F15.binds (ps := ["_law_found", "_law_count"]) fun _ _ _ _ _ _ us hl => match us, hl with | [_, _], _ => rfl
  have m15 := PySem.W.mg_of X G a15
  have b16 := F16.binds (ps := ["_law_cells", "_law_count"]) fun _ _ _ _ _ _ us hl => match us, hl with | [_, _], _ => rfl
  have m16 := PySem.W.mg_of X G a16
  have b17 := F17.binds (ps := ["_law_log", "_law_page"]) fun _ _ _ _ _ _ us hl => match us, hl with | [_, _], _ => rfl
  have m17 := PySem.W.mg_of X G a17
  have b18 := F18.binds (ps := ["_law_log", "_law_kept", "_law_head", "_law_cells"]) fun _ _ _ _ _ _ us hl => match us, hl with | [_, _, _, _], _ => rfl
  have m18 := PySem.W.mg_of X G a18
  have b19 := F19.binds (ps := ["_law_head"]) fun _ _ _ _ _ _ us hl => match us, hl with | [_], _ => rfl
  have m19 := PySem.W.mg_of X G a19
  have TC1 : TxtCellar K mg C1 := ⟨⟨pgC1, hdC1, poC1, saC1⟩, nC1_pages, nC1_log,  PySem.W.mg_of X G aC1⟩
  have MC1 : Mk K C1 f1 := ⟨mkC1, a1, i1, kcC1⟩
  have B : Blt mg := ⟨PySem.W.mg_none_of X G z1, PySem.W.mg_none_of X G z2, PySem.W.mg_none_of X G z3, PySem.W.mg_none_of X G z4, PySem.W.mg_none_of X G z5, PySem.W.mg_none_of X G z6, PySem.W.mg_none_of X G z7, PySem.W.mg_none_of X G z8, PySem.W.mg_none_of X G z9, PySem.W.mg_none_of X G z10, PySem.W.mg_none_of X G z11⟩
  refine ⟨PySem.W.fnOf "law" "law" (defArgs sLaw) (defBody sLaw) (defScope sLaw) .none kV20 dc20 pm20 an20 cd20 ct20, fun s v => .of_eq rfl, fun base _ _ => ?_⟩
  have G7 : FnOk l.prog w K mg base CX0 1 f7 _ ["_law_number", "_law_prime", "_law_many"] spDraw := ok_draw F7
  have G8 : FnOk l.prog w K mg base CX0 1 f8 _ ["_law_found"] spWhole := ok_whole F8 B
  have G9 : FnOk l.prog w K mg base CX0 1 f9 _ ["_law_script", "_law_k"] (spAt K) := ok_at F9 B
  have G10 : FnOk l.prog w K mg base CX0 2 f10 _ ["_law_found", "_law_due"] spAlike := ok_alike F10 B G8 b8 k8 m8
  have G1 : FnOk l.prog w K mg base CX0 1 f1 _ ["self", "pages", "log"] (spCInit C1) := ok_cinit F1 B TC1
  have G2 : FnOk l.prog w K mg base CX0 1 f2 _ ["self", "stroke"] (spDo C1) := ok_do F2 TC1
  have G3 : FnOk l.prog w K mg base CX0 3 f3 _ ["pages", "log", "strokes"] spBehind := ok_behind F3 TC1 MC1 G1 b1 G2 b2 m2
  have G4 : FnOk l.prog w K mg base CX0 1 f4 _ ["pages", "log"] spWant := ok_want F4 B
  have G5 : FnOk l.prog w K mg base CX0 2 f5 _ ["pages", "log"] spUp := ok_up F5 B G4 b4 k4 m4
  have G6 : FnOk l.prog w K mg base CX0 4 f6 _ ["pages", "log", "halts"] spCame := ok_came F6 G3 b3 k3 m3 G5 b5 k5 m5
  have G11 : FnOk l.prog w K mg base CX0 1 f11 _ ["_law_pages", "_law_log", "_law_stroke"] spOne := ok_one F11
  have G12 : FnOk l.prog w K mg base CX0 2 f12 _ ["_law_pages", "_law_log", "_law_strokes"] spAll := ok_rep F12 G11 b11 k11 m11
  have G13 : FnOk l.prog w K mg base CX0 2 f13 _ ["_law_found", "_law_count"] spIsLine := ok_isline F13 B G8 b8 k8 m8
  have G14 : FnOk l.prog w K mg base CX0 3 f14 _ ["_law_found", "_law_count"] spIsStroke := ok_isstroke F14 B G8 b8 k8 m8 G13 b13 k13 m13
  have G15 : FnOk l.prog w K mg base CX0 4 f15 _ ["_law_found", "_law_count"] spAre := ok_are F15 B G14 b14 k14 m14
  have G16 : FnOk l.prog w K mg base CX0 2 f16 _ ["_law_cells", "_law_count"] spLogOf := ok_logof F16 B G7 b7 k7 m7
  have G17 : FnOk l.prog w K mg base CX0 1 f17 _ ["_law_log", "_law_page"] spWrit := ok_writ F17
  have G18 : FnOk l.prog w K mg base CX0 2 f18 _ ["_law_log", "_law_kept", "_law_head", "_law_cells"] spSome := ok_some F18 B G7 b7 k7 m7 G17 b17 k17 m17
  have G19 : FnOk l.prog w K mg base CX0 1 f19 _ ["_law_head"] spCount := ok_count F19 B
  exact ok_law F20 B G9 b9 k9 m9 G10 b10 k10 m10 G16 b16 k16 m16 G18 b18 k18 m18 G19 b19 k19 m19 G5 b5 k5 m5 G15 b15 k15 m15 G12 b12 k12 m12 G6 b6 k6 m6
theorem walk {l : PySem.W.OpenLaw} {q : Program} {loose : List Str} {XP : (Str → Option Value) → Heap → Prop} {YP : World → Heap → Prop} {d : DefRec} {K : Params → PySem.W.Frag} (hn : l.most = some 63) (hdf : d.params.defaults = [])
    (hY : ∀ (w : World) (h : Heap), YP w h → (K w.params).In h)
    (F : ∀ (w : World) (mg : Str → Option Value) (fa : Addr) (h : Heap), (K w.params).In h → h.Ns mainGlobals mg → mg d.name = some (.ref fa) →
      ∃ fd : FuncData, (∀ (s : Shared) (u : Value), BindsTo s fd ⟨[u], []⟩ [("_law_script", u)]) ∧ ∀ base : Heap, (K w.params).In base → base.Ns mainGlobals mg → FnOk l.prog w (K w.params) mg base CX0 5 fa fd ["_law_script"] (spLaw (K w.params))) :
    PySem.W.WalkO q loose XP YP l.row.toRowW d [] (fun f vs => PySem.call f vs) :=
  L2.walk_of (n := 63) (k := 5) (x := "_law_script") (CX := fun _ => CX0) (sp := fun w => spLaw (K w.params)) hn (by decide) hdf ⟨rfl, by decide, by decide⟩ hY F (fun _ _ a ns hl hO hS => ⟨a, ns, rfl, hS, hl, fun _ => rfl⟩) fun _ _ _ _ _ z => z
end K07
open PySem PySem.W PyProof.Rows
set_option maxRecDepth 100000 in
set_option maxHeartbeats 0 in
theorem PySem.Challenge.cw_quillhouse_k07_whole_stopped_in_coming_u_holds : PySem.Challenge.rw_quillhouse_k07_whole_stopped_in_coming_u.Holds := by
  w_on; o_law; k_head; (case hw => w_witness2)
  k_fill
  refine K07.walk (l := PySem.Challenge.rw_quillhouse_k07_whole_stopped_in_coming_u) rfl rfl (fun w h Y => PySem.W.kIn_of Y) ?F
  case F =>
    intro w mg fa h KX G hmg
    refine' K07.all_mk KX G hmg ?aC1 ?a1 ?i1 ?l1 ?c1 ?k1 ?a2 ?i2 ?l2 ?c2 ?k2 ?a3 ?l3 ?c3 ?k3 ?a4 ?l4 ?c4 ?k4 ?a5 ?l5 ?c5 ?k5 ?a6 ?l6 ?c6 ?k6 ?a7 ?l7 ?c7 ?k7 ?a8 ?l8 ?c8 ?k8 ?a9 ?l9 ?c9 ?k9 ?a10 ?l10 ?c10 ?k10 ?a11 ?l11 ?c11 ?k11 ?a12 ?l12 ?c12 ?k12 ?a13 ?l13 ?c13 ?k13 ?a14 ?l14 ?c14 ?k14 ?a15 ?l15 ?c15 ?k15 ?a16 ?l16 ?c16 ?k16 ?a17 ?l17 ?c17 ?k17 ?a18 ?l18 ?c18 ?k18 ?a19 ?l19 ?c19 ?k19 ?a20 ?l20 ?c20 ?k20 ?pgC1 ?hdC1 ?poC1 ?saC1 ?mkC1 ?kcC1 ?nC1_pages ?nC1_log ?z1 ?z2 ?z3 ?z4 ?z5 ?z6 ?z7 ?z8 ?z9 ?z10 ?z11
    (case aC1 => k_is)
    (case a1 => k_is)
    (case i1 => k_is)
    (case l1 => k_is)
    (case c1 => k_is)
    (case k1 => k_is)
    (case a2 => k_is)
    (case i2 => k_is)
    (case l2 => k_is)
    (case c2 => k_is)
    (case k2 => k_is)
    (case a3 => k_is)
    (case l3 => k_is)
    (case c3 => k_is)
    (case k3 => k_is)
    (case a4 => k_is)
    (case l4 => k_is)
    (case c4 => k_is)
    (case k4 => k_is)
    (case a5 => k_is)
    (case l5 => k_is)
    (case c5 => k_is)
    (case k5 => k_is)
    (case a6 => k_is)
    (case l6 => k_is)
    (case c6 => k_is)
    (case k6 => k_is)
    (case a7 => k_is)
    (case l7 => k_is)
    (case c7 => k_is)
    (case k7 => k_is)
    (case a8 => k_is)
    (case l8 => k_is)
    (case c8 => k_is)
    (case k8 => k_is)
    (case a9 => k_is)
    (case l9 => k_is)
    (case c9 => k_is)
    (case k9 => k_is)
    (case a10 => k_is)
    (case l10 => k_is)
    (case c10 => k_is)
    (case k10 => k_is)
    (case a11 => k_is)
    (case l11 => k_is)
    (case c11 => k_is)
    (case k11 => k_is)
    (case a12 => k_is)
    (case l12 => k_is)
    (case c12 => k_is)
    (case k12 => k_is)
    (case a13 => k_is)
    (case l13 => k_is)
    (case c13 => k_is)
    (case k13 => k_is)
    (case a14 => k_is)
    (case l14 => k_is)
    (case c14 => k_is)
    (case k14 => k_is)
    (case a15 => k_is)
    (case l15 => k_is)
    (case c15 => k_is)
    (case k15 => k_is)
    (case a16 => k_is)
    (case l16 => k_is)
    (case c16 => k_is)
    (case k16 => k_is)
    (case a17 => k_is)
    (case l17 => k_is)
    (case c17 => k_is)
    (case k17 => k_is)
    (case a18 => k_is)
    (case l18 => k_is)
    (case c18 => k_is)
    (case k18 => k_is)
    (case a19 => k_is)
    (case l19 => k_is)
    (case c19 => k_is)
    (case k19 => k_is)
    (case a20 => k_is)
    (case l20 => k_is)
    (case c20 => k_is)
    (case k20 => k_is)
    (case pgC1 => k_is)
    (case hdC1 => k_is)
    (case poC1 => k_is)
    (case saC1 => k_is)
    (case mkC1 => k_is)
    (case kcC1 => k_is)
    (case nC1_pages => k_is)
    (case nC1_log => k_is)
    (case z1 => k_is)
    (case z2 => k_is)
    (case z3 => k_is)
    (case z4 => k_is)
    (case z5 => k_is)
    (case z6 => k_is)
    (case z7 => k_is)
    (case z8 => k_is)
    (case z9 => k_is)
    (case z10 => k_is)
    (case z11 => k_is)
