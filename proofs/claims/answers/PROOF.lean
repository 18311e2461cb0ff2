import PyProof.Rows.All
import Wide.All
import OpenK.AllK
import Wide.FinOn
import PyProof.EqAt
import PyProof.EqKinds
import PyProof.TupleCall
import KE.BitLaws
import Open.SpecLaws
import KE.OsHead
import KE.OsGo
import PySem.Challenge.RW_chancebits_s01_answers
set_option Elab.async false
set_option linter.all false
set_option maxRecDepth 100000
namespace L2
open PySem PySem.Spec PyProof.Rows

/-- a key: an int or a str -/
abbrev Key := Sum Int Str
def keyIs : Key → Value → Bool
  | .inl k, v => Value.isInt k v
  | .inr x, v => Value.isStrOf x v
def keyH (w : World) : Key → Int
  | .inl k => hashInt k
  | .inr x => hashStr w x
theorem keyIs_shape : ∀ {k : Key} {v : Value}, keyIs k v = true → (∃ i t, k = Sum.inl i ∧ v = Value.int i t) ∨ (∃ x t, k = Sum.inr x ∧ v = Value.str x t)
  | .inl i, v, h => by
    obtain ⟨t, e⟩ := Value.isInt_shape (k := i) (v := v) h
    exact .inl ⟨i, t, rfl, e⟩
  | .inr x, v, h => by
    obtain ⟨t, e⟩ := Value.isStrOf_shape (x := x) (v := v) h
    exact .inr ⟨x, t, rfl, e⟩
theorem key_ll (a b : Int) : decide ((Sum.inl a : Key) = Sum.inl b) = (a == b) := by
  by_cases e : a = b
  · subst e; simp
  · have h : ¬ (Sum.inl a : Key) = Sum.inl b := fun q => e (Sum.inl.inj q)
    rw [decide_eq_false h]
    exact (beq_eq_false_iff_ne.mpr e).symm
theorem key_rr (a b : Str) : decide ((Sum.inr a : Key) = Sum.inr b) = decide (a = b) := by
  by_cases e : a = b
  · subst e; simp
  · have h : ¬ (Sum.inr a : Key) = Sum.inr b := fun q => e (Sum.inr.inj q)
    rw [decide_eq_false h, decide_eq_false e]
theorem key_lr (a : Int) (b : Str) : decide ((Sum.inl a : Key) = Sum.inr b) = false := decide_eq_false (fun q => nomatch q)
theorem key_rl (a : Str) (b : Int) : decide ((Sum.inr a : Key) = Sum.inl b) = false := decide_eq_false (fun q => nomatch q)

def mixKind (prog : Program) (w : World) : PySem.KeyKind prog w Key where
  is := keyIs
  hash := keyH w
  inj := fun v a b ha hb => by
    rcases keyIs_shape ha with ⟨i, t, rfl, rfl⟩ | ⟨x, t, rfl, rfl⟩
    · rcases keyIs_shape hb with ⟨j, u, rfl, e⟩ | ⟨y, u, rfl, e⟩
      · injection e with e1 _; rw [e1]
      · exact nomatch e
    · rcases keyIs_shape hb with ⟨j, u, rfl, e⟩ | ⟨y, u, rfl, e⟩
      · exact nomatch e
      · injection e with e1 _; rw [e1]
  byValue := fun k v h => by
    rcases keyIs_shape h with ⟨i, t, rfl, rfl⟩ | ⟨x, t, rfl, rfl⟩ <;> rfl
  pyHash := fun hv h => by
    rcases keyIs_shape hv with ⟨i, t, rfl, rfl⟩ | ⟨x, t, rfl, rfl⟩
    · exact wpAny_pyHash_int h
    · exact wpAny_pyHash_str h
  eqBool := fun hu hv h => by
    rcases keyIs_shape hu with ⟨i, t, rfl, rfl⟩ | ⟨x, t, rfl, rfl⟩
    · rcases keyIs_shape hv with ⟨j, u, rfl, rfl⟩ | ⟨y, u, rfl, rfl⟩
      · rw [key_ll] at h; exact wpAny_eqBool_int h
      · rw [key_lr] at h; exact SeqAt.EqAt.int_str i t y u _ _ _ _ h
    · rcases keyIs_shape hv with ⟨j, u, rfl, rfl⟩ | ⟨y, u, rfl, rfl⟩
      · rw [key_rl] at h; exact SeqAt.EqAt.str_int x t j u _ _ _ _ h
      · rw [key_rr] at h; exact wpAny_eqBool_str h
  «strs» := fun k x t v h => by
    rcases keyIs_shape h with ⟨i, u, rfl, e⟩ | ⟨y, u, rfl, e⟩
    · exact nomatch e
    · injection e with e1 _
      subst e1
      cases v <;> rfl

end L2

namespace L2
open PySem PySem.Spec PyProof.Rows

/-- a value, without the heap -/
inductive V where
  | non | bl (b : Bool) | int (i : Int) | str (x : Str) | byt (b : Array UInt8) | flt (b : UInt64) | ref (a : Addr) | ty (n : String)
  deriving DecidableEq

def RelV : V → Value → Prop
  | .non, u => u = Value.none
  | .bl b, u => u = Value.bool b
  | .int i, u => ∃ t, u = Value.int i t
  | .str x, u => ∃ t, u = Value.str x t
  | .byt b, u => ∃ t, u = Value.bytes b t
  | .flt b, u => ∃ t, u = Value.float b t
  | .ref a, u => u = Value.ref a
  | .ty n, u => u = Value.type n

abbrev Vals : List V → List Value → Prop := Paired RelV
theorem Vals.length {xs : List V} {us : List Value} (r : Vals xs us) : xs.length = us.length := Paired.length r
theorem Vals.get : ∀ {xs : List V} {us : List Value} {i : Nat} {x : V}, Vals xs us → xs[i]? = some x → ∃ u, us[i]? = some u ∧ RelV x u
  | _, _, _, _, .nil, e => by simp at e
  | _, _, 0, _, .cons r _, e => by simp at e; subst e; exact ⟨_, rfl, r⟩
  | _, _, i + 1, x, .cons _ t, e => by
    obtain ⟨u, h1, h2⟩ := Vals.get (i := i) (x := x) t (by simpa using e)
    exact ⟨u, by simpa using h1, h2⟩
theorem Vals.set {x : V} {u : Value} (r : RelV x u) : ∀ {xs : List V} {us : List Value} (i : Nat), Vals xs us → Vals (xs.set i x) (us.set i u)
  | _, _, _, .nil => .nil
  | _, _, 0, .cons _ t => .cons r t
  | _, _, i + 1, .cons q t => .cons q (Vals.set r i t)
theorem Vals.append : ∀ {xs ys : List V} {us ws : List Value}, Vals xs us → Vals ys ws → Vals (xs ++ ys) (us ++ ws)
  | _, _, _, _, .nil, s => s
  | _, _, _, _, .cons r t, s => .cons r (Vals.append t s)
theorem Vals.take : ∀ {xs : List V} {us : List Value} (n : Nat), Vals xs us → Vals (xs.take n) (us.take n)
  | _, _, 0, _ => .nil
  | _, _, _ + 1, .nil => .nil
  | _, _, n + 1, .cons r t => .cons r (Vals.take n t)
theorem Vals.drop : ∀ {xs : List V} {us : List Value} (n : Nat), Vals xs us → Vals (xs.drop n) (us.drop n)
  | _, _, 0, r => r
  | _, _, _ + 1, .nil => .nil
  | _, _, n + 1, .cons _ t => Vals.drop n t

def RelO : Option V → Option Value → Prop
  | some v, some u => RelV v u
  | none, none => True
  | _, _ => False
def KV {κ : Type} : List (κ × V) → List (κ × Value) → Prop := Paired fun (p : κ × V) (q : κ × Value) => p.1 = q.1 ∧ RelV p.2 q.2

/-- a key of a dict (00_mix): an int or a text -/
def kV : Key → V
  | .inl i => .int i
  | .inr x => .str x

/-- what stands at a tracked address -/
inductive HO where
  /-- a list -/
  | lst (xs : List V)
  /-- a tuple (never changes) -/
  | tup (xs : List V)
  /-- a dict whose keys are ints and texts; one whose keys are tuples of ints and texts (the empty one is both) -/
  | dK (kvs : List (Key × V)) | dT (kvs : List (List Key × V))
  /-- a set of ints: its members, its size -/
  | set (S : Int → Bool) (n : Nat)
  /-- an instance of the class at C, its dict at dx, its attributes -/
  | ins (C dx : Addr) (fs : List (Str × V))
  /-- the dict of the instance at x -/
  | own (x : Addr)
  /-- the dict of an exception -/
  | xd (fs : List (Str × V))
  /-- a bound method, f of x -/
  | met (f x : Addr)
  /-- a range object lo, lo + 1, .. below hi -/
  | rng (lo hi : Int)
  /-- a thing that is known to the object (the script; a dict while a loop walks it): read, never written while it is so -/
  | frz (o : Obj) (u : HO)
  /-- a code object's table -/
  | tbl (ps : Array Value)
  /-- any other thing, by what is true of its one object (a def of one's own: SetO a S n := HO.ext fun h => ..) -/
  | ext (φ : Heap → Prop)

abbrev Hp := Addr → Option HO
def upd (H : Hp) (a : Addr) (o : HO) : Hp := fun b => if b = a then some o else H b
theorem upd_same {H : Hp} {a : Addr} {o : HO} : upd H a o a = some o := by unfold upd; rw [if_pos rfl]
theorem upd_ne {H : Hp} {a b : Addr} {o : HO} (h : b ≠ a) : upd H a o b = H b := by unfold upd; rw [if_neg h]
/-- two objects of different content stand apart -/
theorem ne_of {H : Hp} {a b : Addr} {o u : HO} (h : H a = some o) (h' : H b = some u) (d : o ≠ u) : a ≠ b := by
  intro e; subst e; rw [h] at h'; exact d (Option.some.inj h')
theorem ne_of_none {H : Hp} {a b : Addr} {o : HO} (h : H a = some o) (h' : H b = none) : a ≠ b := by
  intro e; subst e; rw [h] at h'; cases h'

section
variable (P : Program) (w : World)
def ObjOk (H : Hp) (h : Heap) (a : Addr) : HO → Prop
  | .lst xs => xs.length ≤ sizeLine ∧ ∃ (its : List Value) (n : Nat), Vals xs its ∧ h.get? a = some { cls := .type "list", data := .seq its.toArray n }
  | .tup xs => xs.length ≤ sizeLine ∧ ∃ its : List Value, Vals xs its ∧ IsTup h a its.toArray
  | .dK kvs => kvs.length ≤ sizeLine ∧ (a == sysModules) = false ∧ ∃ vs, KV kvs vs ∧ h.DictOf (mixKind P w) a vs
  | .dT kvs => kvs.length ≤ sizeLine ∧ (a == sysModules) = false ∧ ∃ xs : List (List Key × Addr × Value),
      Paired (fun (p : List Key × V) (q : List Key × Addr × Value) => p.1 = q.1 ∧ H q.2.1 = some (.tup (p.1.map kV)) ∧ RelV p.2 q.2.2) kvs xs ∧
      ∃ o es ep, h.get? a = some o ∧ o.ExactDict ∧ o.data = .dict es ep ∧ es.toList = xs.map (entryOfKey (tupleKind (mixKind P w))) ∧ (xs.map (·.1)).Nodup
  | .set S n => h.SetOf (intKind P w) a S n
  | .ins C dx fs => H dx = some (.own a) ∧ fs.length ≤ 1000 ∧ dx ≠ a ∧ h.get? a = some (PySem.W.instObj C dx) ∧
      ∃ mA, h.Ns1 dx mA ∧ (∀ f, RelO (fs.lookup f) (mA f)) ∧ PySem.Within mA (fs.map (·.1))
  | .own _ => ∃ o, h.get? a = some o
  | .xd fs => ∃ mA, h.Ns1 a mA ∧ ∀ f, RelO (fs.lookup f) (mA f)
  | .rng lo hi => ∃ t u v, h.get? a = some { cls := .type "range", data := .fields #[.int lo t, .int hi u, .int 1 v] }
  | .frz o u => h.get? a = some o ∧ ObjOk H h a u
  | .tbl ps => h.get? a = some { cls := .none, data := .fields ps }
  | .met f x => h.get? a = some (PySem.W.methodObj (.ref f) (.ref x))
  | .ext φ => φ h ∧ (∃ o, h.get? a = some o) ∧ ∀ h1 h2 : Heap, φ h1 → (∀ o, h1.get? a = some o → h2.get? a = some o) → φ h2
/-- the abstract heap is held -/
def HOk (H : Hp) (h : Heap) : Prop := ∀ a o, H a = some o → ObjOk P w H h a o
end

section
variable {P : Program} {w : World} {H H' : Hp} {h h' : Heap} {a : Addr} {o : HO}
theorem ObjOk.lt (x : ObjOk P w H h a o) : a < h.objs.size := by
  cases o with
  | lst xs => obtain ⟨_, _, _, _, e⟩ := x; exact Heap.lt_size e
  | tup xs => obtain ⟨_, _, _, p⟩ := x; exact p.lt
  | dK kvs => obtain ⟨_, _, _, _, o, _, _, e, _⟩ := x; exact Heap.lt_size e
  | dT kvs => obtain ⟨_, _, _, _, o, _, _, e, _⟩ := x; exact Heap.lt_size e
  | set S n => obtain ⟨o, _, _, _, e, _⟩ := x; exact Heap.lt_size e
  | ins C dx fs => obtain ⟨_, _, _, e, _⟩ := x; exact Heap.lt_size e
  | own y => obtain ⟨_, e⟩ := x; exact Heap.lt_size e
  | xd fs => obtain ⟨_, ⟨_, _, _, e, _⟩, _⟩ := x; exact Heap.lt_size e
  | rng lo hi => obtain ⟨_, _, _, e⟩ := x; exact Heap.lt_size e
  | frz ob u => obtain ⟨e, _⟩ := x; exact Heap.lt_size e
  | tbl ps => exact Heap.lt_size (show h.get? a = some _ from x)
  | met f y => exact Heap.lt_size (show h.get? a = some _ from x)
  | ext φ => obtain ⟨_, ⟨_, e⟩, _⟩ := x; exact Heap.lt_size e
theorem Paired.mapP {α β : Type} {F G : α → β → Prop} : ∀ {l₁ : List α} {l₂ : List β}, Paired F l₁ l₂ → (∀ a b, F a b → G a b) → Paired G l₁ l₂
  | _, _, .nil, _ => .nil
  | _, _, .cons r t, f => .cons (f _ _ r) (Paired.mapP t f)
/-- what an object's description leans on: its own object, its own dict, the tuples -/
theorem ObjOk.stay (x : ObjOk P w H h a o) (k : ∀ b u, (b = a ∨ H b = some (.own a)) → h.get? b = some u → h'.get? b = some u)
    (ho : ∀ b, H b = some (.own a) → H' b = some (.own a)) (ht : ∀ b xs, H b = some (.tup xs) → H' b = some (.tup xs)) : ObjOk P w H' h' a o := by
  induction o with
  | lst xs => obtain ⟨z, its, n, r, e⟩ := x; exact ⟨z, its, n, r, k _ _ (.inl rfl) e⟩
  | tup xs => obtain ⟨z, its, r, ob, e, c⟩ := x; exact ⟨z, its, r, ob, k _ _ (.inl rfl) e, c⟩
  | dK kvs => obtain ⟨z, y, vs, r, ob, es, ep, e, c⟩ := x; exact ⟨z, y, vs, r, ob, es, ep, k _ _ (.inl rfl) e, c⟩
  | dT kvs =>
    obtain ⟨z, y, xs, r, ob, es, ep, e, c⟩ := x
    exact ⟨z, y, xs, Paired.mapP r fun p q z => ⟨z.1, ht _ _ z.2.1, z.2.2⟩, ob, es, ep, k _ _ (.inl rfl) e, c⟩
  | set S n => obtain ⟨ob, es, ep, t, e, c⟩ := x; exact ⟨ob, es, ep, t, k _ _ (.inl rfl) e, c⟩
  | ins C dx fs =>
    obtain ⟨d, z, ne, e, mA, ⟨od, es, ep, e2, c⟩, r⟩ := x
    exact ⟨ho _ d, z, ne, k _ _ (.inl rfl) e, mA, ⟨od, es, ep, k _ _ (.inr d) e2, c⟩, r⟩
  | own y => obtain ⟨ob, e⟩ := x; exact ⟨ob, k _ _ (.inl rfl) e⟩
  | xd fs => obtain ⟨mA, ⟨od, es, ep, e, c⟩, r⟩ := x; exact ⟨mA, ⟨od, es, ep, k _ _ (.inl rfl) e, c⟩, r⟩
  | rng lo hi => obtain ⟨t, u, v, e⟩ := x; exact ⟨t, u, v, k _ _ (.inl rfl) e⟩
  | frz ob u ih => obtain ⟨e, q⟩ := x; exact ⟨k _ _ (.inl rfl) e, ih q⟩
  | tbl ps =>
    have e : h.get? a = some { cls := .none, data := .fields ps } := x
    show h'.get? a = some { cls := .none, data := .fields ps }
    exact k a _ (.inl rfl) e
  | met f y =>
    have e : h.get? a = some (PySem.W.methodObj (.ref f) (.ref y)) := x
    show h'.get? a = some (PySem.W.methodObj (.ref f) (.ref y))
    exact k a _ (.inl rfl) e
  | ext φ => obtain ⟨p, ⟨o, e⟩, st⟩ := x; exact ⟨st _ _ p fun o q => k _ _ (.inl rfl) q, ⟨o, k _ _ (.inl rfl) e⟩, st⟩
theorem HOk.lt (x : HOk P w H h) (e : H a = some o) : a < h.objs.size := (x a o e).lt
theorem HOk.fresh (x : HOk P w H h) (e : h.objs.size ≤ a) : H a = none := by
  cases q : H a with
  | none => rfl
  | some u => exact absurd (Nat.lt_of_lt_of_le (x.lt q) e) (Nat.lt_irrefl _)
/-- every object of the heap is kept -/
theorem HOk.kept (x : HOk P w H h) (k : ∀ b u, h.get? b = some u → h'.get? b = some u) : HOk P w H h' := fun a o e =>
  (x a o e).stay (fun b u _ q => k b u q) (fun _ q => q) fun _ _ q => q
/-- a new object is laid and tracked -/
theorem HOk.laid (x : HOk P w H h) (k : ∀ b u, h.get? b = some u → h'.get? b = some u) (hp : h.objs.size ≤ a) (new : ObjOk P w (upd H a o) h' a o) : HOk P w (upd H a o) h' := fun b u e => by
  have hn := x.fresh hp
  by_cases hb : b = a
  · subst hb; rw [upd_same] at e; cases e; exact new
  · rw [upd_ne hb] at e
    exact (x b u e).stay (fun c v _ q => k c v q) (fun c q => by rw [upd_ne (ne_of_none q hn)]; exact q) fun c xs q => by rw [upd_ne (ne_of_none q hn)]; exact q
end

/-- what may be read as u: it is u, or a known u -/
def Rd (H : Hp) (a : Addr) (u : HO) : Prop := H a = some u ∨ ∃ o, H a = some (.frz o u)
theorem Rd.ok {P : Program} {w : World} {H : Hp} {h : Heap} {a : Addr} {u : HO} (r : Rd H a u) (x : HOk P w H h) : ObjOk P w H h a u := by
  rcases r with r | ⟨o, r⟩
  · exact x a u r
  · obtain ⟨_, q⟩ := x a _ r
    exact q
/-- what may be written -/
def Mut : Option HO → Prop
  | some (.lst _) => True
  | some (.dK _) => True
  | some (.dT _) => True
  | some (.set _ _) => True
  | some (.ins _ _ _) => True
  | some (.ext _) => True
  | _ => False
section
variable {P : Program} {w : World} {H : Hp} {h h' : Heap} {x e : Addr} {o' : HO}
/-- the object at e is changed: x itself, or the dict of the instance x -/
theorem HOk.write (ok : HOk P w H h) (mu : Mut (H x)) (he : e = x ∨ H e = some (.own x)) (k : ∀ b u, b ≠ e → h.get? b = some u → h'.get? b = some u) (heo : ∃ u, h'.get? e = some u)
    (new : ObjOk P w (upd H x o') h' x o') : HOk P w (upd H x o') h' := fun b u q => by
  have nown : ∀ c y, H c = some (.own y) → c ≠ x := fun c y r z => by subst z; rw [r] at mu; exact mu
  have ntup : ∀ c xs, H c = some (.tup xs) → c ≠ x := fun c xs r z => by subst z; rw [r] at mu; exact mu
  by_cases hb : b = x
  · subst hb; rw [upd_same] at q; cases q; exact new
  · rw [upd_ne hb] at q
    by_cases hbe : b = e
    · have q' : H b = some (.own x) := by
        rcases he with z | z
        · exact absurd (hbe.trans z) hb
        · rw [hbe]; exact z
      rw [q] at q'; cases q'
      obtain ⟨v, hv⟩ := heo
      exact ⟨v, by rw [hbe]; exact hv⟩
    · refine (ok b u q).stay (fun c v hc r => k c v ?_ r) (fun c r => by rw [upd_ne (nown c b r)]; exact r) fun c xs r => by rw [upd_ne (ntup c xs r)]; exact r
      rcases hc with rfl | hc
      · exact hbe
      · rintro rfl
        rcases he with z | z
        · exact nown c b hc z
        · rw [hc] at z; cases z; exact hb rfl
end

/-! ### kept unless tracked; of the frames at fs (the callers') the slots may change (an exception that passes writes there); of the records at ex (iterators) nothing is said -/
structure Un (fs ex : List Addr) (H H' : Hp) (h h' : Heap) : Prop where
  keep : ∀ b o, h.get? b = some o → H b = none → b ∉ fs → b ∉ ex → h'.get? b = some o
  slot : ∀ b o, h.get? b = some o → H b = none → b ∈ fs → b ∉ ex → ∃ sl, h'.get? b = some { o with slots := sl }
  free : ∀ b o, h.get? b = some o → H b = none → b ∉ ex → H' b = none
  there : ∀ b o, h.get? b = some o → b ∉ ex → ∃ o', h'.get? b = some o'
  tups : ∀ b xs, H b = some (.tup xs) → H' b = some (.tup xs)
  frzs : ∀ b o u, H b = some (.frz o u) → H' b = some (.frz o u)
  tbls : ∀ b ps, H b = some (.tbl ps) → ∃ more, H' b = some (.tbl (ps ++ more))
section
variable {fs fs' ex ex' : List Addr} {H H1 H2 : Hp} {h h1 h2 h' : Heap} {a x e : Addr} {o : HO}
theorem Un.any (u : Un fs ex H H1 h h1) {b : Addr} {ob : Obj} (q : h.get? b = some ob) (n : H b = none) (hx : b ∉ ex) : ∃ sl, h1.get? b = some { ob with slots := sl } := by
  by_cases hb : b ∈ fs
  · exact u.slot b ob q n hb hx
  · exact ⟨ob.slots, u.keep b ob q n hb hx⟩
theorem Un.kept (k : ∀ b u, h.get? b = some u → h'.get? b = some u) : Un fs ex H H h h' :=
  ⟨fun b ob q _ _ _ => k b ob q, fun b ob q _ _ _ => ⟨ob.slots, k b ob q⟩, fun _ _ _ n _ => n, fun b ob q _ => ⟨ob, k b ob q⟩, fun _ _ q => q, fun _ _ _ q => q, fun _ ps q => ⟨#[], by rw [q]; simp⟩⟩
theorem Un.refl : Un fs ex H H h h := Un.kept fun _ _ q => q
theorem Un.laid (k : ∀ b u, h.get? b = some u → h'.get? b = some u) (hp : h.objs.size ≤ a) (hn : H a = none) : Un fs ex H (upd H a o) h h' where
  keep := fun b u q _ _ _ => k b u q
  slot := fun b u q _ _ _ => ⟨u.slots, k b u q⟩
  free := fun b u q n _ => by rw [upd_ne (Nat.ne_of_lt (Nat.lt_of_lt_of_le (Heap.lt_size q) hp))]; exact n
  there := fun b u q _ => ⟨u, k b u q⟩
  tups := fun b xs q => by rw [upd_ne (ne_of_none q hn)]; exact q
  frzs := fun b u xs q => by rw [upd_ne (ne_of_none q hn)]; exact q
  tbls := fun b ps q => ⟨#[], by rw [upd_ne (ne_of_none q hn), q]; simp⟩
theorem Un.write (mu : Mut (H x)) (he : e = x ∨ H e = some (.own x)) (k : ∀ b u, b ≠ e → h.get? b = some u → h'.get? b = some u) (heo : ∃ u, h'.get? e = some u) : Un fs ex H (upd H x o) h h' := by
  have hx : ∀ b, H b = none → b ≠ x := fun b n z => by subst z; rw [n] at mu; exact mu
  have hb : ∀ b, H b = none → b ≠ e := fun b n z => by
    subst z
    rcases he with r | r
    · exact hx b n r
    · rw [n] at r; cases r
  have hm : ∀ b u, H b = some u → ¬ Mut (some u) → b ≠ x := fun b u q nm z => by subst z; rw [q] at mu; exact nm mu
  refine ⟨fun b u q n _ _ => k b u (hb b n) q, fun b u q n _ _ => ⟨u.slots, k b u (hb b n) q⟩, fun b u q n _ => by rw [upd_ne (hx b n)]; exact n, fun b u q _ => ?_,
    fun b xs q => by rw [upd_ne (hm b _ q fun z => z)]; exact q, fun b u xs q => by rw [upd_ne (hm b _ q fun z => z)]; exact q, fun b ps q => ⟨#[], by rw [upd_ne (hm b _ q fun z => z), q]; simp⟩⟩
  by_cases hbe : b = e
  · subst hbe; exact heo
  · exact ⟨u, k b u hbe q⟩
end

/-! ### the heap without what is tracked -/
def trk (h : Heap) (H : Hp) : List Addr := (List.range h.objs.size).filter fun a => (H a).isSome
def hidT (h : Heap) (H : Hp) : Heap := PySem.W.hideAll h (trk h H)
theorem hidT_size (h : Heap) (H : Hp) : (hidT h H).objs.size = h.objs.size := PySem.W.hideAll_size _ _
theorem hidT_get {h : Heap} {H : Hp} {b : Addr} {o : Obj} (e : h.get? b = some o) (n : H b = none) : (hidT h H).get? b = some o :=
  PySem.W.hideAll_get _ e fun hm => by
    have q : (H b).isSome = true := (List.mem_filter.mp hm).2
    rw [n] at q; simp at q
theorem of_hidT {h : Heap} {H : Hp} {b : Addr} {o : Obj} (e : (hidT h H).get? b = some o) : h.get? b = some o ∧ H b = none := by
  have e' : h.get? b = some o := PySem.W.of_hideAll (trk h H) e
  refine ⟨e', ?_⟩
  cases q : H b with
  | none => rfl
  | some x =>
    have hm : b ∈ trk h H := List.mem_filter.mpr ⟨List.mem_range.mpr (Heap.lt_size e'), by simp [q]⟩
    have z : (hidT h H).get? b = none := PySem.W.hideAll_none (trk h H) hm
    rw [z] at e; cases e

end L2

namespace L2
open PySem PySem.Spec PyProof.Rows

/-- the module's facts, over the base: the heap at the law's entry without what is tracked there -/
structure Mod (K : PySem.W.Frag) (mg : Str → Option Value) (base : Heap) : Prop where
  kin : K.In base
  glob : base.Ns mainGlobals mg
  blt : ∃ mb, base.Ns builtinsNs mb ∧ ∀ x : Str, x ≠ "__name__" → mb x = bootBuiltins x
  nolimit : base.NoLimit

/-- the context: a def's body (or a comprehension's block) running. base: fixed through the whole law; s₀, H₀: the entry; outer: the frames whose slots others may change (a def's callers); stack: all frames that run;
   ex: iterators that were made ahead of the entry and are walked here (a comprehension's); fn: the names whose cells were made at the entry (a def: all; a comprehension's block: its own); calm: not within an except suite; pn: pins that every state bears; xe: what is wanted of an exception that leaves the code -/
structure Cx where
  prog : Program
  w : World
  K : PySem.W.Frag
  mg : Str → Option Value
  base : Heap
  A : Around
  N : List Str
  s_0 : Shared
  H_0 : Hp
  env : Env
  outer : List Env
  stack : List Env
  ex : List Addr
  fn : Str → Bool
  calm : Bool
  pn : List (Addr × Obj)
  xe : Value → Shared → Prop
/-- the callers' frames -/
def frs (l : List Env) : List Addr := l.filterMap (·.frame)
abbrev Cx.fs (X : Cx) : List Addr := frs X.outer

def Vis (sc : Scope) (x : Str) : Prop := sc.names.lookup x = some .local ∨ sc.names.lookup x = some .cell ∨ sc.names.lookup x = some .free
def Loc (sc : Scope) (x : Str) : Prop := sc.names.lookup x = some .local ∨ sc.names.lookup x = some .cell
def Look (env : Env) (h : Heap) (m : Str → Option Value) (x : Str) (u : Value) : Prop :=
  (env.kindOf x = some .local ∧ m x = some u) ∨ ((env.kindOf x = some .cell ∨ env.kindOf x = some .free) ∧ ∃ c, env.cells.lookup x = some c ∧ h.IsCell c (some u))

structure Cx.Ok (X : Cx) : Prop where
  mod : Mod X.K X.mg X.base
  kind : X.env.scope.kind = .function
  glob : X.env.globals = mainGlobals
  blt : X.env.builtins = builtinsNs
  above : X.s_0.heap.objs.size ≤ X.env.locals
  inj : ∀ x y c, X.env.cells.lookup x = some c → X.env.cells.lookup y = some c → x = y
  has : ∀ x, (X.env.kindOf x = some .cell ∨ X.env.kindOf x = some .free) → ∃ c, X.env.cells.lookup x = some c
  cab : ∀ x c, X.fn x = true → X.env.cells.lookup x = some c → X.s_0.heap.objs.size ≤ c
  hd : X.calm = true → X.A.handled = none
  frames : X.A.frames = some X.stack
  stk : X.stack = X.outer ∨ (X.stack = X.env :: X.outer ∧ X.env.frame = some X.env.locals)
  exf : ∀ b ∈ X.ex, b ≠ X.env.locals ∧ ∀ x c, X.env.cells.lookup x = some c → c ≠ b
  bs : ∀ b o, X.base.get? b = some o → X.s_0.heap.get? b = some o ∧ X.H_0 b = none
  bsz : X.base.objs.size ≤ X.s_0.heap.objs.size
  noex : ∀ b o, X.base.get? b = some o → b ∉ X.ex
  exfs : ∀ b ∈ X.ex, b ∉ X.fs
  funs : X.s_0.heap.FunFrames X.base X.outer
  frf : ∀ b ∈ X.fs, X.H_0 b = none

structure Inv (X : Cx) (pins : List (Addr × Obj)) (σ : List (Option V)) (H : Hp) (s : Shared) : Prop where
  ok : X.Ok
  os : s.os = X.s_0.os
  bare : AllBare s.gens
  base : Un X.fs X.ex X.H_0 H X.s_0.heap s.heap
  loc : ∃ m, s.heap.Ns X.env.locals m ∧ ∀ (i : Nat) (x : Str) (v : V), X.N[i]? = some x → σ[i]? = some (some v) → Vis X.env.scope x → ∃ u, RelV v u ∧ Look X.env s.heap m x u
  cell : ∀ x c, X.env.cells.lookup x = some c → ∃ v, s.heap.IsCell c v
  free : H X.env.locals = none
  freeC : ∀ x c, X.env.cells.lookup x = some c → H c = none
  pin : ∀ p ∈ X.pn ++ pins, s.heap.get? p.1 = some p.2 ∧ H p.1 = none ∧ p.1 ≠ X.env.locals ∧ p.1 ∉ X.fs ∧ ∀ v, p.2.data ≠ .cell v
  hok : HOk X.prog X.w H s.heap
  len : σ.length = X.N.length

section
variable {X : Cx} {pins : List (Addr × Obj)} {σ : List (Option V)} {H H' : Hp} {s : Shared} {h' : Heap}

theorem Cx.Ok.nofr (ok : X.Ok) {b : Addr} {o : Obj} (e : X.base.get? b = some o) : b ∉ X.fs := fun hb => by
  have := (ok.funs.mem hb).1
  rw [e] at this; cases this
theorem Inv.bs (I : Inv X pins σ H s) : ∀ b o, X.base.get? b = some o → s.heap.get? b = some o ∧ H b = none := fun b o e =>
  ⟨I.base.keep b o (I.ok.bs b o e).1 (I.ok.bs b o e).2 (I.ok.nofr e) (I.ok.noex b o e), I.base.free b o (I.ok.bs b o e).1 (I.ok.bs b o e).2 (I.ok.noex b o e)⟩
theorem Inv.bk (I : Inv X pins σ H s) : ∀ b o, X.base.get? b = some o → s.heap.get? b = some o := fun b o e => (I.bs b o e).1
theorem Inv.mod (I : Inv X pins σ H s) : Mod X.K X.mg X.base := I.ok.mod
theorem Inv.kIn (I : Inv X pins σ H s) : X.K.In s.heap := I.ok.mod.kin.keeps I.bk
theorem Inv.lt (I : Inv X pins σ H s) : X.env.locals < s.heap.objs.size := let ⟨_, hn, _⟩ := I.loc; hn.lt
theorem Inv.sz (I : Inv X pins σ H s) : X.s_0.heap.objs.size ≤ s.heap.objs.size := Nat.le_trans I.ok.above (Nat.le_of_lt I.lt)
theorem Inv.nofs (I : Inv X pins σ H s) {a : Addr} (h : s.heap.objs.size ≤ a) : a ∉ X.fs := fun hb => by
  obtain ⟨_, o, ho, _⟩ := I.ok.funs.mem hb
  exact absurd (Nat.lt_of_lt_of_le (Heap.lt_size ho) (Nat.le_trans I.sz h)) (Nat.lt_irrefl _)
theorem Inv.cne (I : Inv X pins σ H s) : ∀ x c, X.env.cells.lookup x = some c → c ≠ X.env.locals := fun x c e z => by
  obtain ⟨v, o, ho, hd⟩ := I.cell x c e
  obtain ⟨m, ⟨o', es, ep, ho', hd', _⟩, _⟩ := I.loc
  rw [z, ho'] at ho; cases ho; rw [hd'] at hd; cases hd
theorem Inv.funs (I : Inv X pins σ H s) : s.heap.FunFrames X.base X.outer := by
  have all : ∀ (l : List Env), (∀ b ∈ frs l, b ∈ X.fs) → X.s_0.heap.FunFrames X.base l → s.heap.FunFrames X.base l := by
    intro l
    induction l with
    | nil => intro _ _; trivial
    | cons env r ih =>
      intro hs hl
      obtain ⟨hk, ⟨L, o, hf, hn, ho, hd⟩, hr⟩ := hl
      have hL : L ∈ X.fs := hs L (by unfold frs; rw [List.filterMap_cons, hf]; exact List.mem_cons_self)
      obtain ⟨sl, e⟩ := I.base.slot L o ho (I.ok.frf L hL) hL fun z => I.ok.exfs L z hL
      exact ⟨hk, ⟨L, _, hf, hn, e, hd⟩, ih (fun b hb => hs b (by unfold frs; rw [List.filterMap_cons, hf]; exact List.mem_cons_of_mem _ hb)) hr⟩
  exact all X.outer (fun _ hb => hb) I.ok.funs

/-- the frames that run, for a call -/
theorem Inv.stack (I : Inv X pins σ H s) : s.heap.FunFrames X.base X.stack := by
  rcases I.ok.stk with e | ⟨e, hf⟩
  · rw [e]; exact I.funs
  · rw [e]
    obtain ⟨m, hn, _⟩ := I.loc
    refine .cons (by rw [I.ok.kind]; decide) hf hn ?_ I.funs
    exact Heap.get?_none_of_le (Nat.le_trans I.ok.bsz I.ok.above)
theorem Inv.stkSub (I : Inv X pins σ H s) : ∀ b ∈ frs X.stack, b ∈ X.env.locals :: X.fs := fun b hb => by
  rcases I.ok.stk with e | ⟨e, hf⟩
  · rw [e] at hb; exact List.mem_cons_of_mem _ hb
  · rw [e] at hb
    unfold frs at hb
    rw [List.filterMap_cons, hf] at hb
    exact hb
theorem Inv.stkFree (I : Inv X pins σ H s) : ∀ b ∈ frs X.stack, H b = none := fun b hb => by
  rcases List.mem_cons.mp (I.stkSub b hb) with e | hb
  · rw [e]; exact I.free
  · obtain ⟨_, o, ho, _⟩ := I.ok.funs.mem hb
    exact I.base.free b o ho (I.ok.frf b hb) fun z => I.ok.exfs b z hb

/-- THE STEP: the untracked objects but the frame and the records at ch are kept (the callers' frames up to slots), the frame's map is kept, the new abstract heap is held -/
theorem Inv.step {g' : Array GenState} {t' : Nat} {d' : Drawn} {ch : List Addr} (I : Inv X pins σ H s)
    (hch : ∀ b ∈ ch, (b ∈ X.ex ∨ X.s_0.heap.objs.size ≤ b) ∧ b ≠ X.env.locals ∧ (∀ x c, X.env.cells.lookup x = some c → c ≠ b) ∧ ∀ p ∈ X.pn ++ pins, p.1 ≠ b)
    (keep : ∀ b o, b ≠ X.env.locals → b ∉ X.fs → b ∉ ch → s.heap.get? b = some o → H b = none → h'.get? b = some o)
    (slot : ∀ b o, b ≠ X.env.locals → b ∈ X.fs → b ∉ ch → s.heap.get? b = some o → H b = none → ∃ sl, h'.get? b = some { o with slots := sl }) (free : ∀ b o, b ∉ ch → s.heap.get? b = some o → H b = none → H' b = none)
    (there : ∀ b o, b ∉ ch → s.heap.get? b = some o → ∃ o', h'.get? b = some o')
    (tups : ∀ b xs, H b = some (.tup xs) → H' b = some (.tup xs)) (frzs : ∀ b o u, H b = some (.frz o u) → H' b = some (.frz o u)) (tbls : ∀ b ps, H b = some (.tbl ps) → ∃ more, H' b = some (.tbl (ps ++ more)))
    (ns : ∀ m, s.heap.Ns X.env.locals m → h'.Ns X.env.locals m) (hok : HOk X.prog X.w H' h') (hg : AllBare g') :
    Inv X pins σ H' { s with heap := h', gens := g', drawn := d', toks := t' } := by
  have neL : ∀ b o, X.s_0.heap.get? b = some o → b ≠ X.env.locals := fun b o e => Nat.ne_of_lt (Nat.lt_of_lt_of_le (Heap.lt_size e) I.ok.above)
  have neC : ∀ b o, X.s_0.heap.get? b = some o → b ∉ X.ex → b ∉ ch := fun b o e hx hb => by
    rcases (hch b hb).1 with z | z
    · exact hx z
    · exact absurd (Nat.lt_of_lt_of_le (Heap.lt_size e) z) (Nat.lt_irrefl _)
  have cellK : ∀ x c, X.env.cells.lookup x = some c → ∀ v, s.heap.IsCell c v → h'.IsCell c v := fun x c e v ⟨o, ho, hd⟩ => by
    have nch : c ∉ ch := fun z => (hch c z).2.2.1 x c e rfl
    by_cases hc : c ∈ X.fs
    · obtain ⟨sl, q⟩ := slot c o (I.cne x c e) hc nch ho (I.freeC x c e)
      exact ⟨_, q, hd⟩
    · exact ⟨o, keep c o (I.cne x c e) hc nch ho (I.freeC x c e), hd⟩
  refine ⟨I.ok, I.os, hg, ⟨fun b o e n hb hx => ?_, fun b o e n hb hx => ?_, fun b o e n hx => ?_, fun b o e hx => ?_, fun b xs e => tups b xs (I.base.tups b xs e), fun b o xs e => frzs b o xs (I.base.frzs b o xs e), fun b ps e => ?_⟩, ?_, fun x c e => ?_, ?_, fun x c e => ?_, fun p hp => ?_, hok, I.len⟩
  · exact keep b o (neL b o e) hb (neC b o e hx) (I.base.keep b o e n hb hx) (I.base.free b o e n hx)
  · obtain ⟨sl, e1⟩ := I.base.slot b o e n hb hx
    obtain ⟨sl', e2⟩ := slot b _ (neL b o e) hb (neC b o e hx) e1 (I.base.free b o e n hx)
    exact ⟨sl', e2⟩
  · obtain ⟨o', e1⟩ := I.base.there b o e hx
    exact free b o' (neC b o e hx) e1 (I.base.free b o e n hx)
  · obtain ⟨o', e1⟩ := I.base.there b o e hx
    exact there b o' (neC b o e hx) e1
  · obtain ⟨m1, e1⟩ := I.base.tbls b ps e
    obtain ⟨m2, e2⟩ := tbls b _ e1
    exact ⟨m1 ++ m2, by rw [e2, Array.append_assoc]⟩
  · obtain ⟨m, hn, hl⟩ := I.loc
    refine ⟨m, ns m hn, fun i x v e1 e2 e3 => ?_⟩
    obtain ⟨u, r, l⟩ := hl i x v e1 e2 e3
    refine ⟨u, r, ?_⟩
    rcases l with l | ⟨k, c, e, z⟩
    · exact .inl l
    · exact .inr ⟨k, c, e, cellK x c e _ z⟩
  · obtain ⟨v, z⟩ := I.cell x c e
    exact ⟨v, cellK x c e v z⟩
  · obtain ⟨m, ⟨o, _, _, ho, _⟩, _⟩ := I.loc
    exact free _ o (fun z => (hch _ z).2.1 rfl) ho I.free
  · obtain ⟨v, o, ho, hd⟩ := I.cell x c e
    exact free c o (fun z => (hch c z).2.2.1 x c e rfl) ho (I.freeC x c e)
  · obtain ⟨e, n, ne, nf, d⟩ := I.pin p hp
    have nch : p.1 ∉ ch := fun z => (hch p.1 z).2.2.2 p hp rfl
    exact ⟨keep p.1 p.2 ne nf nch e n, free p.1 p.2 nch e n, ne, nf, d⟩
/-- .. where the frame's own object is kept too -/
theorem Inv.un {t' : Nat} (I : Inv X pins σ H s) (u : Un X.fs [] H H' s.heap h') (hok : HOk X.prog X.w H' h') : Inv X pins σ H' { s with heap := h', toks := t' } := by
  obtain ⟨m, ⟨o, es, ep, ho, r⟩, _⟩ := id I.loc
  obtain ⟨sl, hL⟩ := u.any ho I.free (by simp)
  exact I.step (g' := s.gens) (d' := s.drawn) (ch := []) (fun _ z => nomatch z) (fun b o _ hb _ e n => u.keep b o e n hb (by simp)) (fun b o _ hb _ e n => u.slot b o e n hb (by simp)) (fun b o _ e n => u.free b o e n (by simp)) (fun b o _ e => u.there b o e (by simp)) u.tups u.frzs u.tbls (fun m' hm => by
    obtain ⟨o', es', ep', ho', r'⟩ := hm
    rw [ho] at ho'; cases ho'
    exact ⟨_, es', ep', hL, r'⟩) hok I.bare
/-- behind a call (or a comprehension's block): the slots of this frame may have changed too, the records at ch may have turned -/
theorem Inv.call {g' : Array GenState} {t' : Nat} {d' : Drawn} {ch : List Addr} (I : Inv X pins σ H s) (u : Un (frs X.stack) ch H H' s.heap h') (hok : HOk X.prog X.w H' h') (hg : AllBare g')
    (hch : ∀ b ∈ ch, (b ∈ X.ex ∨ X.s_0.heap.objs.size ≤ b) ∧ b ≠ X.env.locals ∧ (∀ x c, X.env.cells.lookup x = some c → c ≠ b) ∧ ∀ p ∈ X.pn ++ pins, p.1 ≠ b) :
    Inv X pins σ H' { s with heap := h', gens := g', drawn := d', toks := t' } := by
  obtain ⟨m, ⟨o, es, ep, ho, r⟩, _⟩ := id I.loc
  obtain ⟨sl, hL⟩ := u.any ho I.free fun z => (hch _ z).2.1 rfl
  exact I.step (ch := ch) hch (fun b o hL hb hc e n => u.keep b o e n (fun z => (List.mem_cons.mp (I.stkSub b z)).elim hL hb) hc) (fun b o _ _ hc e n => u.any e n hc) (fun b o hc e n => u.free b o e n hc) (fun b o hc e => u.there b o e hc) u.tups u.frzs u.tbls (fun m' hm => by
    obtain ⟨o', es', ep', ho', r'⟩ := hm
    rw [ho] at ho'; cases ho'
    exact ⟨_, es', ep', hL, r'⟩) hok hg
/-- an untracked record of ours (an iterator) has turned -/
theorem Inv.turned {t' : Nat} {it : Addr} (I : Inv X pins σ H s) (k : ∀ b o, b ≠ it → s.heap.get? b = some o → h'.get? b = some o) (hn : H it = none) (hL : it ≠ X.env.locals)
    (h1 : it ∈ X.ex ∨ X.s_0.heap.objs.size ≤ it) (h2 : ∀ x c, X.env.cells.lookup x = some c → c ≠ it) (h3 : ∀ p ∈ X.pn ++ pins, p.1 ≠ it) : Inv X pins σ H { s with heap := h', toks := t' } := by
  have nit : ∀ b u, H b = some u → b ≠ it := fun b u e z => by rw [z, hn] at e; cases e
  refine I.step (g' := s.gens) (d' := s.drawn) (ch := [it]) (fun b hb => ?_) (fun b o _ _ hc e _ => k b o (fun z => hc (by simp [z])) e) (fun b o _ _ hc e _ => ⟨o.slots, k b o (fun z => hc (by simp [z])) e⟩) (fun _ _ _ _ n => n)
    (fun b o hc e => ⟨o, k b o (fun z => hc (by simp [z])) e⟩) (fun _ _ e => e) (fun _ _ _ e => e) (fun b ps e => ⟨#[], by rw [e]; simp⟩) (fun m hm => ?_) (fun b u e => ?_) I.bare
  · have e : b = it := by simpa using hb
    subst e
    exact ⟨h1, hL, h2, h3⟩
  · obtain ⟨o, es, ep, ho, r⟩ := hm
    exact ⟨o, es, ep, k _ o (Ne.symm hL) ho, r⟩
  · refine (I.hok b u e).stay (fun c v hc q => k c v ?_ q) (fun _ q => q) fun _ _ q => q
    rcases hc with z | z
    · rw [z]; exact nit b u e
    · exact nit c _ z
theorem Inv.tok (I : Inv X pins σ H s) (t : Nat) : Inv X pins σ H { s with toks := t } := I.un (h' := s.heap) (t' := t) Un.refl I.hok
/-- all objects kept -/
theorem Inv.kept {t' : Nat} (I : Inv X pins σ H s) (k : ∀ b u, s.heap.get? b = some u → h'.get? b = some u) : Inv X pins σ H { s with heap := h', toks := t' } := I.un (Un.kept k) (I.hok.kept k)
/-- a new object laid and tracked -/
theorem Inv.laid {a : Addr} {o : HO} {t' : Nat} (I : Inv X pins σ H s) (k : ∀ b u, s.heap.get? b = some u → h'.get? b = some u) (hp : s.heap.objs.size ≤ a) (new : ObjOk X.prog X.w (upd H a o) h' a o) :
    Inv X pins σ (upd H a o) { s with heap := h', toks := t' } := I.un (Un.laid k hp (I.hok.fresh hp)) (I.hok.laid k hp new)
/-- an object written -/
theorem Inv.write {x e : Addr} {o : HO} {t' : Nat} (I : Inv X pins σ H s) (mu : Mut (H x)) (he : e = x ∨ H e = some (.own x)) (k : ∀ b u, b ≠ e → s.heap.get? b = some u → h'.get? b = some u) (heo : ∃ u, h'.get? e = some u)
    (new : ObjOk X.prog X.w (upd H x o) h' x o) : Inv X pins σ (upd H x o) { s with heap := h', toks := t' } := I.un (Un.write mu he k heo) (I.hok.write mu he k heo new)
/-- forgetting slots, pins -/
theorem Inv.weak {σ' : List (Option V)} (I : Inv X pins σ H s) (hl : σ'.length = σ.length) (w : ∀ (i : Nat) v, σ'[i]? = some (some v) → σ[i]? = some (some v)) : Inv X pins σ' H s :=
  ⟨I.ok, I.os, I.bare, I.base, let ⟨m, hn, hl'⟩ := I.loc; ⟨m, hn, fun i x v e1 e2 e3 => hl' i x v e1 (w i v e2) e3⟩, I.cell, I.free, I.freeC, I.pin, I.hok, hl.trans I.len⟩
theorem Inv.pins_of {pins' : List (Addr × Obj)} (I : Inv X pins σ H s) (h : ∀ p ∈ pins', s.heap.get? p.1 = some p.2 ∧ H p.1 = none ∧ p.1 ≠ X.env.locals ∧ p.1 ∉ X.fs ∧ ∀ v, p.2.data ≠ .cell v) : Inv X pins' σ H s :=
  ⟨I.ok, I.os, I.bare, I.base, I.loc, I.cell, I.free, I.freeC, fun p hp => (List.mem_append.mp hp).elim (fun z => I.pin p (List.mem_append_left _ z)) (h p), I.hok, I.len⟩

theorem nodup_ix {N : List Str} (hN : N.Nodup) {i j : Nat} {x : Str} (a : N[i]? = some x) (b : N[j]? = some x) : i = j := by
  obtain ⟨h1, e1⟩ := List.getElem?_eq_some_iff.mp a
  obtain ⟨h2, e2⟩ := List.getElem?_eq_some_iff.mp b
  exact (List.getElem_inj hN).mp (e1.trans e2.symm)

/-- a name is stored; what changed -/
theorem store_ok2 {M : Model} {A : Around} {E : Value → Shared → Prop} {i : Nat} {x : Str} {v : V} {u : Value} {Q : Unit → Shared → Prop} (I : Inv X pins σ H s) (hN : X.N.Nodup) (hi : X.N[i]? = some x) (hx : Loc X.env.scope x) (r : RelV v u)
    (h : ∀ s', Inv X pins (σ.set i (some v)) H s' → (∃ a, Heap.SameBut a s.heap s'.heap ∧ (a = X.env.locals ∨ X.env.cells.lookup x = some a)) → Q () s') (hf : X.fn x = true ∨ X.env.scope.names.lookup x = some .local := by first | exact .inl rfl | exact .inr rfl | assumption) : wpAny M A (storeName X.env x u) Q E s := by
  obtain ⟨m, hn, hl⟩ := id I.loc
  have hcls : (X.env.scope.kind == .class || (X.env.scope.kind == .module && X.env.locals != X.env.globals)) = false := by rw [I.ok.kind]; rfl
  have hiσ : i < σ.length := by rw [I.len]; exact (List.getElem?_eq_some_iff.mp hi).1
  have cne := I.cne
  have tracked : ∀ {a : Addr} {h' : Heap}, (∃ o, s.heap.get? a = some o ∧ H a = none) → Heap.SameBut a s.heap h' → HOk X.prog X.w H h' := fun {a h'} ha hs b ob e => by
    obtain ⟨_, _, hfree⟩ := ha
    refine (I.hok b ob e).stay (fun c w' hc q => (hs.2 c ?_).trans q) (fun _ q => q) fun _ _ q => q
    rintro rfl
    rcases hc with rfl | hc
    · rw [hfree] at e; cases e
    · rw [hfree] at hc; cases hc
  rcases hx with hk | hk
  · refine wpAny_storeName_local hk hn (fun h' hn' hs => ?_) hcls
    obtain ⟨oL, _, _, hoL, _⟩ := id hn
    refine h _ ⟨I.ok, I.os, I.bare, ⟨fun b o e n hb hx => ?_, fun b o e n hb hx => ?_, I.base.free, fun b o e hx => ?_, I.base.tups, I.base.frzs, I.base.tbls⟩, ⟨_, hn', fun j y v' e1 e2 e3 => ?_⟩, fun y c e => ?_, I.free, I.freeC, fun p hp => ?_, tracked ⟨oL, hoL, I.free⟩ hs, by simpa using I.len⟩ ⟨_, hs, .inl rfl⟩
    · exact (hs.2 b (Nat.ne_of_lt (Nat.lt_of_lt_of_le (Heap.lt_size e) I.ok.above))).trans (I.base.keep b o e n hb hx)
    · obtain ⟨sl, e1⟩ := I.base.slot b o e n hb hx
      exact ⟨sl, (hs.2 b (Nat.ne_of_lt (Nat.lt_of_lt_of_le (Heap.lt_size e) I.ok.above))).trans e1⟩
    · obtain ⟨o', e1⟩ := I.base.there b o e hx
      exact ⟨o', (hs.2 b (Nat.ne_of_lt (Nat.lt_of_lt_of_le (Heap.lt_size e) I.ok.above))).trans e1⟩
    · by_cases hj : j = i
      · subst hj
        rw [hi] at e1; cases e1
        rw [List.getElem?_set_self hiσ] at e2
        cases e2
        exact ⟨u, r, .inl ⟨hk, by simp⟩⟩
      · rw [List.getElem?_set_ne (Ne.symm hj)] at e2
        obtain ⟨u', r', q⟩ := hl j y v' e1 e2 e3
        refine ⟨u', r', ?_⟩
        rcases q with ⟨k, e⟩ | ⟨k, c, e, z⟩
        · refine .inl ⟨k, ?_⟩
          have : y ≠ x := fun e => hj (nodup_ix hN e1 (e ▸ hi))
          simp [this, e]
        · exact .inr ⟨k, c, e, z.sameBut hs (cne y c e)⟩
    · obtain ⟨w', z⟩ := I.cell y c e
      exact ⟨w', z.sameBut hs (cne y c e)⟩
    · obtain ⟨e, n, ne, nf, d⟩ := I.pin p hp
      exact ⟨(hs.2 p.1 ne).trans e, n, ne, nf, d⟩
  · have hfn : X.fn x = true := by
      rcases hf with z | z
      · exact z
      · rw [z] at hk; cases hk
    obtain ⟨c, hc⟩ := I.ok.has x (.inl hk)
    obtain ⟨w', z⟩ := I.cell x c hc
    refine wpAny_storeName_cell I.ok.kind hk hc z (fun h' hc' hs => ?_)
    obtain ⟨oc, hoc, hocd⟩ := id z
    refine h { s with heap := h' } ⟨I.ok, I.os, I.bare, ⟨fun b o e n hb hx => ?_, fun b o e n hb hx => ?_, I.base.free, fun b o e hx => ?_, I.base.tups, I.base.frzs, I.base.tbls⟩, ⟨m, hn.sameBut hs (Ne.symm (cne x c hc)), fun j y v' e1 e2 e3 => ?_⟩, fun y c' e => ?_, I.free, I.freeC, fun p hp => ?_, tracked ⟨oc, hoc, I.freeC x c hc⟩ hs, by simpa using I.len⟩ ⟨c, hs, .inr hc⟩
    · exact (hs.2 b (Nat.ne_of_lt (Nat.lt_of_lt_of_le (Heap.lt_size e) (I.ok.cab x c hfn hc)))).trans (I.base.keep b o e n hb hx)
    · obtain ⟨sl, e1⟩ := I.base.slot b o e n hb hx
      exact ⟨sl, (hs.2 b (Nat.ne_of_lt (Nat.lt_of_lt_of_le (Heap.lt_size e) (I.ok.cab x c hfn hc)))).trans e1⟩
    · obtain ⟨o', e1⟩ := I.base.there b o e hx
      exact ⟨o', (hs.2 b (Nat.ne_of_lt (Nat.lt_of_lt_of_le (Heap.lt_size e) (I.ok.cab x c hfn hc)))).trans e1⟩
    · by_cases hj : j = i
      · subst hj
        rw [hi] at e1; cases e1
        rw [List.getElem?_set_self hiσ] at e2
        cases e2
        exact ⟨u, r, .inr ⟨.inl hk, c, hc, hc'⟩⟩
      · rw [List.getElem?_set_ne (Ne.symm hj)] at e2
        obtain ⟨u', r', q⟩ := hl j y v' e1 e2 e3
        refine ⟨u', r', ?_⟩
        rcases q with q | ⟨k, c', e, z'⟩
        · exact .inl q
        · refine .inr ⟨k, c', e, z'.sameBut hs ?_⟩
          rintro rfl
          exact hj (nodup_ix hN e1 (I.ok.inj _ _ _ e hc ▸ hi))
    · by_cases hcc : c' = c
      · subst hcc; exact ⟨_, hc'⟩
      · obtain ⟨w2, z2⟩ := I.cell y c' e
        exact ⟨w2, z2.sameBut hs hcc⟩
    · obtain ⟨e, n, ne, nf, d⟩ := I.pin p hp
      refine ⟨(hs.2 p.1 ?_).trans e, n, ne, nf, d⟩
      intro q
      rw [q, hoc] at e
      have q' : oc = p.2 := Option.some.inj e
      exact d w' (by rw [← q']; exact hocd)
theorem store_ok {M : Model} {A : Around} {E : Value → Shared → Prop} {i : Nat} {x : Str} {v : V} {u : Value} {Q : Unit → Shared → Prop} (I : Inv X pins σ H s) (hN : X.N.Nodup) (hi : X.N[i]? = some x) (hx : Loc X.env.scope x) (r : RelV v u)
    (h : ∀ s', Inv X pins (σ.set i (some v)) H s' → Q () s') (hf : X.fn x = true ∨ X.env.scope.names.lookup x = some .local := by first | exact .inl rfl | exact .inr rfl | assumption) : wpAny M A (storeName X.env x u) Q E s :=
  store_ok2 I hN hi hx r (fun s' I' _ => h s' I') hf
/-- behind a call or a block, the state as it is -/
theorem Inv.call' {s' : Shared} {ch : List Addr} (I : Inv X pins σ H s) (ho : s'.os = s.os) (u : Un (frs X.stack) ch H H' s.heap s'.heap) (hok : HOk X.prog X.w H' s'.heap) (hg : AllBare s'.gens)
    (hch : ∀ b ∈ ch, (b ∈ X.ex ∨ X.s_0.heap.objs.size ≤ b) ∧ b ≠ X.env.locals ∧ (∀ x c, X.env.cells.lookup x = some c → c ≠ b) ∧ ∀ p ∈ X.pn ++ pins, p.1 ≠ b) : Inv X pins σ H' s' := by
  obtain ⟨h', g', d', t', o'⟩ := s'
  have e : o' = s.os := ho
  subst e
  exact I.call (g' := g') (t' := t') (d' := d') u hok hg hch
end

/-! ### the judgements -/
/-- an exception: its class, its own dict's address (where it has one), the abstract heap behind it -/
abbrev XK := Value → Option Addr → Hp → Prop
abbrev St := List (Option V)
abbrev VK := V → Hp → Prop
/-- an expression's reading; a test's; an argument list's -/
abbrev TE := St → Hp → VK → Prop
abbrev TT := St → Hp → (Bool → Hp → Prop) → Prop
abbrev TA := St → Hp → (List V → Hp → Prop) → Prop
/-- what is wanted behind a statement -/
structure Ends where
  nx : St → Hp → Prop
  rt : VK
  bk : St → Hp → Prop := fun _ _ => False
  ct : St → Hp → Prop := fun _ _ => False
abbrev TS := Ends → St → Hp → Prop

def EP (X : Cx) (pins : List (Addr × Obj)) (σ : St) (Q : VK) (u : Value) (s' : Shared) : Prop := ∃ v H', Inv X pins σ H' s' ∧ RelV v u ∧ Q v H'
def TP (X : Cx) (pins : List (Addr × Obj)) (σ : St) (Q : Bool → Hp → Prop) (b : Bool) (s' : Shared) : Prop := ∃ H', Inv X pins σ H' s' ∧ Q b H'
def AP (X : Cx) (pins : List (Addr × Obj)) (σ : St) (Q : List V → Hp → Prop) (us : List Value) (s' : Shared) : Prop := ∃ vs H', Inv X pins σ H' s' ∧ Vals vs us ∧ Q vs H'
def SP (X : Cx) (pins : List (Addr × Obj)) (D : Ends) (f : Flow) (s' : Shared) : Prop :=
  match f with
  | .next => ∃ σ' H', Inv X pins σ' H' s' ∧ D.nx σ' H'
  | .brk => ∃ σ' H', Inv X pins σ' H' s' ∧ D.bk σ' H'
  | .cont => ∃ σ' H', Inv X pins σ' H' s' ∧ D.ct σ' H'
  | .ret u => ∃ v σ' H', Inv X pins σ' H' s' ∧ RelV v u ∧ D.rt v H'

def PE (X : Cx) (e : Expr) (t : TE) : Prop :=
  ∀ (pins : List (Addr × Obj)) (s : Shared) (σ : St) (H : Hp) (Q : VK), Inv X pins σ H s → t σ H Q → wpAny (model X.prog X.w) X.A (eval e X.env) (EP X pins σ Q) X.xe s
def PT (X : Cx) (e : Expr) (t : TT) : Prop :=
  ∀ (pins : List (Addr × Obj)) (s : Shared) (σ : St) (H : Hp) (Q : Bool → Hp → Prop), Inv X pins σ H s → t σ H Q → wpAny (model X.prog X.w) X.A (isTrue e X.env (eval e X.env)) (TP X pins σ Q) X.xe s
/-- a test whatever its 'whole' is (and, or) -/
def PW (X : Cx) (e : Expr) (t : TT) : Prop :=
  ∀ (whole : Sem Value) (pins : List (Addr × Obj)) (s : Shared) (σ : St) (H : Hp) (Q : Bool → Hp → Prop), Inv X pins σ H s → t σ H Q → wpAny (model X.prog X.w) X.A (isTrue e X.env whole) (TP X pins σ Q) X.xe s
/-- an argument list (no star), from the left -/
def PA (X : Cx) (es : List Expr) (t : TA) : Prop :=
  ∀ (pos : Pos) (pins : List (Addr × Obj)) (s : Shared) (σ : St) (H : Hp) (Q : List V → Hp → Prop), Inv X pins σ H s → t σ H Q → wpAny (model X.prog X.w) X.A (spliced (backTo pos (starEach es X.env))) (AP X pins σ Q) X.xe s
def PS (X : Cx) (st : Stmt) (t : TS) : Prop :=
  ∀ (pins : List (Addr × Obj)) (s : Shared) (σ : St) (H : Hp) (D : Ends), Inv X pins σ H s → t D σ H → wpAny (model X.prog X.w) X.A (exec st X.env) (SP X pins D) X.xe s
def PSs (X : Cx) (st : List Stmt) (t : TS) : Prop :=
  ∀ (pins : List (Addr × Obj)) (s : Shared) (σ : St) (H : Hp) (D : Ends), Inv X pins σ H s → t D σ H → wpAny (model X.prog X.w) X.A (execs st X.env) (SP X pins D) X.xe s
/-- weaken the end -/
theorem thn {α : Type} {t : Sem α} {Q Q' : α → Shared → Prop} {M : Model} {A : Around} {E : Value → Shared → Prop} {s : Shared} (h : wpAny M A t Q E s) (hQ : ∀ a s, Q a s → Q' a s) : wpAny M A t Q' E s := wpAny_mono h hQ fun _ _ x => x
end L2

namespace L2
open PySem PySem.Spec PyProof.Rows
section
variable {X : Cx}

/-- two expressions in a row -/
theorem bin {a b : Expr} {ta tb : TE} (ha : PE X a ta) (hb : PE X b tb) {pins : List (Addr × Obj)} {s : Shared} {σ : St} {H : Hp} {R : V → V → Hp → Prop} (I : Inv X pins σ H s) (h : ta σ H fun x H1 => tb σ H1 fun y H2 => R x y H2)
    {α : Type} {Q : α → Shared → Prop} {f : Value → Value → Sem α}
    (hf : ∀ v u s2 x y H2, Inv X pins σ H2 s2 → RelV x v → RelV y u → R x y H2 → wpAny (model X.prog X.w) X.A (f v u) Q X.xe s2) :
    wpAny (model X.prog X.w) X.A (eval a X.env) (fun v s₁ => wpAny (model X.prog X.w) X.A (eval b X.env) (fun u s₂ => wpAny (model X.prog X.w) X.A (f v u) Q X.xe s₂) X.xe s₁) X.xe s := by
  refine thn (ha pins s σ H _ I h) fun v s1 ⟨x, H1, I1, r1, q1⟩ => ?_
  refine thn (hb pins s1 σ H1 _ I1 q1) fun u s2 ⟨y, H2, I2, r2, q2⟩ => ?_
  exact hf v u s2 x y H2 I2 r1 r2 q2

/-! ### names and constants -/
def tVar (i : Nat) : TE := fun σ H Q => ∃ v, σ[i]? = some (some v) ∧ Q v H
def tC (v : V) : TE := fun _ H Q => Q v H
theorem pe_var {i : Nat} {x : Str} {pos : Pos} (hN : X.N[i]? = some x) (hv : Vis X.env.scope x) (hd : (x == ("__debug__" : Str)) = false := by decide) (hcd : (x == ("__classdict__" : Str)) = false := by decide) : PE X (.Name x pos) (tVar i) := by
  intro pins s σ H Q I h
  obtain ⟨v, e, h⟩ := h
  obtain ⟨m, hn, hl⟩ := I.loc
  obtain ⟨u, r, l⟩ := hl i x v hN e hv
  have fin : EP X pins σ Q u s := ⟨v, H, I, r, h⟩
  rcases l with ⟨hk, hm⟩ | ⟨hk, c, hc, hcell⟩
  · exact wpAny_Name (wpAny_loadName_local I.ok.kind hk hn hm fin) hd
  · rcases hk with hk | hk
    · exact wpAny_Name (wpAny_loadName_cell I.ok.kind hk hc hcell fin) hd
    · exact wpAny_Name (wpAny_loadName_free I.ok.kind hk hc hcell fin hcd) hd
theorem pe_int {i j pos} : PE X (.Constant (.int i) j pos) (tC (.int i)) := fun _ _ _ H _ I h => wpAny_Constant_int ⟨.int i, H, I.tok _, ⟨_, rfl⟩, h⟩
theorem pe_bl {b j pos} : PE X (.Constant (.bool b) j pos) (tC (.bl b)) := fun _ _ _ H _ I h => Constant_bool ⟨.bl b, H, I, rfl, h⟩
theorem pe_non {j pos} : PE X (.Constant .none j pos) (tC .non) := fun _ _ _ H _ I h => Constant_none ⟨.non, H, I, rfl, h⟩

/-- a global name of the def -/
def Gl (X : Cx) (x : Str) : Prop := X.env.kindOf x = some .globalImplicit
theorem ld_glob {E : Value → Shared → Prop} {pins : List (Addr × Obj)} {s : Shared} {σ : St} {H : Hp} {x : Str} {u : Value} {pos : Pos} {Q : Value → Shared → Prop} (I : Inv X pins σ H s) (hg : Gl X x) (hm : X.mg x = some u) (h : Q u s)
    (hd : (x == ("__debug__" : Str)) = false := by decide) : wpAny (model X.prog X.w) X.A (eval (.Name x pos) X.env) Q E s :=
  Calls.Name_function_global I.ok.kind hg (Calls.loadGlobal_global (by rw [I.ok.glob]; exact I.mod.glob.keeps I.bk) hm h) hd
theorem ld_blt {E : Value → Shared → Prop} {pins : List (Addr × Obj)} {s : Shared} {σ : St} {H : Hp} {x : Str} {u : Value} {pos : Pos} {Q : Value → Shared → Prop} (I : Inv X pins σ H s) (hg : Gl X x) (hm : X.mg x = none) (hv : bootBuiltins x = some u) (h : Q u s)
    (hn : x ≠ "__name__" := by decide) (hd : (x == ("__debug__" : Str)) = false := by decide) : wpAny (model X.prog X.w) X.A (eval (.Name x pos) X.env) Q E s := by
  obtain ⟨mb, h1, h2⟩ := I.mod.blt
  exact Calls.Name_function_global I.ok.kind hg (Calls.loadGlobal_builtin (by rw [I.ok.glob]; exact I.mod.glob.keeps I.bk) hm (by rw [I.ok.blt]; exact h1.keeps I.bk) ((h2 x hn).trans hv) h) hd
/-- a module's constant, a class, a function, as a value -/
theorem pe_glob {x : Str} {v : V} {u : Value} {pos : Pos} (hg : Gl X x) (hm : X.mg x = some u) (r : RelV v u) (hd : (x == ("__debug__" : Str)) = false := by decide) : PE X (.Name x pos) (tC v) :=
  fun _ _ _ H _ I h => ld_glob I hg hm ⟨v, H, I, r, h⟩ hd

/-! ### arithmetic -/
/-- two ints -/
def t2I (ta tb : TE) (k : Int → Int → Hp → Prop) : St → Hp → Prop := fun σ H => ta σ H fun x H1 => tb σ H1 fun y H2 => ∃ i j, x = .int i ∧ y = .int j ∧ k i j H2
variable {a b : Expr} {ta tb : TE} {pos : Pos}

/-! ### comparisons -/
def PC (X : Cx) (op : CmpOp) (a b : Expr) (t : TE) : Prop :=
  ∀ (pins : List (Addr × Obj)) (s : Shared) (σ : St) (H : Hp) (Q : VK), Inv X pins σ H s → t σ H Q →
    wpAny (model X.prog X.w) X.A (eval a X.env) (fun v s₁ => wpAny (model X.prog X.w) X.A (eval b X.env) (fun u s₂ => wpAny (model X.prog X.w) X.A (compareOp op v u) (EP X pins σ Q) X.xe s₂) X.xe s₁) X.xe s
theorem nobehind (b : Expr) {op : CmpOp} (h : op ≠ .In) (h2 : op ≠ .NotIn) : behindInMarks op b = false := by
  have e1 : (op == CmpOp.In) = false := by cases op <;> first | rfl | exact absurd rfl h
  have e2 : (op == CmpOp.NotIn) = false := by cases op <;> first | rfl | exact absurd rfl h2
  cases b <;> simp [behindInMarks, e1, e2]
def tCmp (p : Int → Int → Bool) (ta tb : TE) : TE := fun σ H Q => t2I ta tb (fun i j H2 => Q (.bl (p i j)) H2) σ H
abbrev tGt : TE → TE → TE := tCmp fun i j => decide (j < i)
abbrev tGe : TE → TE → TE := tCmp fun i j => decide (j ≤ i)
abbrev tEqI : TE → TE → TE := tCmp fun i j => decide (i = j)
/-- a comparison of two ints, by its rule -/
theorem pc_int {op : CmpOp} {p : Int → Int → Bool} (ha : PE X a ta) (hb : PE X b tb)
    (rule : ∀ (i j : Int) (t u : Tok) (Q : Value → Shared → Prop) (s : Shared), Q (.bool (p i j)) s → wpAny (model X.prog X.w) X.A (compareOp op (.int i t) (.int j u)) Q X.xe s) : PC X op a b (tCmp p ta tb) := by
  intro pins s σ H Q I h
  refine bin ha hb I h fun v u s2 x y H2 I2 rx ry q => ?_
  obtain ⟨i, j, rfl, rfl, q⟩ := q
  obtain ⟨t, rfl⟩ := rx
  obtain ⟨t', rfl⟩ := ry
  exact rule i j t t' _ s2 ⟨.bl _, H2, I2, rfl, q⟩
theorem pc_gt (ha : PE X a ta) (hb : PE X b tb) : PC X .Gt a b (tGt ta tb) := pc_int ha hb fun _ _ _ _ _ _ h => gt_int h
theorem pc_ge (ha : PE X a ta) (hb : PE X b tb) : PC X .GtE a b (tGe ta tb) := pc_int ha hb fun _ _ _ _ _ _ h => ge_int h
theorem pc_eqI (ha : PE X a ta) (hb : PE X b tb) : PC X .Eq a b (tEqI ta tb) := pc_int ha hb fun _ _ _ _ _ _ h => eq_int (by rw [Bool.beq_eq_decide_eq]; exact h)
/-- is None -/
def tIsN (ta : TE) : TE := fun σ H Q => ta σ H fun x H1 => Q (.bl (decide (x = .non))) H1
def tNotN (ta : TE) : TE := fun σ H Q => ta σ H fun x H1 => Q (.bl (!decide (x = .non))) H1
theorem RelV.none_iff {x : V} {v : Value} (r : RelV x v) : (v == Value.none) = decide (x = .non) := by
  cases x with
  | non => cases r; rfl
  | bl _ => cases r; rfl
  | int _ => obtain ⟨t, rfl⟩ := r; rfl
  | str _ => obtain ⟨t, rfl⟩ := r; rfl
  | byt _ => obtain ⟨t, rfl⟩ := r; rfl
  | flt _ => obtain ⟨t, rfl⟩ := r; rfl
  | ref _ => cases r; rfl
  | ty _ => cases r; rfl
theorem pc_isN {j pos'} (ha : PE X a ta) : PC X .Is a (.Constant .none j pos') (tIsN ta) := by
  intro pins s σ H Q I h
  refine thn (ha pins s σ H _ I h) fun v s1 ⟨x, H1, I1, r1, q1⟩ => ?_
  exact Constant_none (is_none_gen ⟨.bl _, H1, I1, by rw [r1.none_iff]; rfl, q1⟩)
theorem pc_notN {j pos'} (ha : PE X a ta) : PC X .IsNot a (.Constant .none j pos') (tNotN ta) := by
  intro pins s σ H Q I h
  refine thn (ha pins s σ H _ I h) fun v s1 ⟨x, H1, I1, r1, q1⟩ => ?_
  exact Constant_none (isnot_none_gen ⟨.bl _, H1, I1, by rw [r1.none_iff]; rfl, q1⟩)
/-- a comparison as a value, as a test -/
def tB (t : TE) : TT := fun σ H Q => t σ H fun x H1 => ∃ c, x = .bl c ∧ Q c H1
theorem pt_cmp {op : CmpOp} {t : TE} (h : PC X op a b t) (h1 : behindInMarks op b = false := by first | exact nobehind _ (by decide) (by decide) | rfl) : PT X (.Compare a [op] [b] pos) (tB t) := by
  intro pins s σ H Q I hw
  refine wpAny_isTrue_Compare1 (thn (h pins s σ H _ I hw) fun v s1 h1 => thn h1 fun u s2 h2 => thn h2 fun c s3 ⟨x, H1, I1, r1, q1⟩ => ?_) h1
  obtain ⟨d, rfl, q⟩ := q1
  cases r1
  exact wpAny_truthy_bool ⟨H1, I1, q⟩
/-- an expression whose value is a bool, as a test -/
theorem pt_val {e : Expr} {t : TE} (h : PE X e t) (he : ∀ whole, isTrue e X.env whole = (do let v ← whole; standAt e.pos; holding [v] (truthy v)) := by intro _; rfl) : PT X e (tB t) := by
  intro pins s σ H Q I hw
  refine isTrue_plain (thn (h pins s σ H _ I hw) fun v s1 ⟨x, H1, I1, r1, q1⟩ => ?_) (he _)
  obtain ⟨d, rfl, q⟩ := q1
  cases r1
  exact wpAny_truthy_bool ⟨H1, I1, q⟩

/-! ### and, or, not -/
variable {tA tB' : TT} {rest : List Expr}
def tOr (t u : TT) : TT := fun σ H Q => t σ H fun c H1 => if c = true then Q true H1 else u σ H1 Q
def tNot (t : TT) : TT := fun σ H Q => t σ H fun c H1 => Q (!c) H1
theorem pw_or1 (ha : PT X a tA) : PW X (.BoolOp .Or [a] pos) tA := by
  intro wh pins s σ H Q I h
  refine isTrue_or (thn (ha pins s σ H Q I h) fun c s1 e => ?_)
  cases c with
  | false => exact isTrue_or_nil e
  | true => exact e
theorem pw_or (ha : PT X a tA) (hb : PW X (.BoolOp .Or (b :: rest) pos) tB') : PW X (.BoolOp .Or (a :: b :: rest) pos) (tOr tA tB') := by
  intro wh pins s σ H Q I h
  refine isTrue_or (thn (ha pins s σ H _ I h) fun c s1 ⟨H1, I1, q1⟩ => ?_)
  cases c with
  | true => exact ⟨H1, I1, q1⟩
  | false => exact hb wh pins s1 σ H1 Q I1 q1
theorem pt_not (ha : PT X a tA) : PT X (.UnaryOp .Not a pos) (tNot tA) := by
  intro pins s σ H Q I h
  exact isTrue_not (ha pins s σ H (fun c H1 => Q (!c) H1) I h)
end
end L2

namespace L2
open PySem PySem.Spec PyProof.Rows

/-! ### a list, a tuple that is read: tracked, frozen, or an object of the module -/
def SqL (K : PySem.W.Frag) (H : Hp) (a : Addr) (xs : List V) : Prop :=
  Rd H a (.lst xs) ∨
    ∃ (o : Obj) (its : Array Value) (n : Nat), K.lookup a = some o ∧ o.cls = .type "list" ∧ o.dict = none ∧ o.data = .seq its n ∧ its.size ≤ sizeLine ∧ Vals xs its.toList
def SqT (K : PySem.W.Frag) (H : Hp) (a : Addr) (xs : List V) : Prop :=
  Rd H a (.tup xs) ∨
    ∃ (o : Obj) (its : Array Value) (n : Nat), K.lookup a = some o ∧ o.cls = .type "tuple" ∧ o.data = .seq its n ∧ its.size ≤ sizeLine ∧ Vals xs its.toList
def absV : Value → Option V
  | .none => some .non
  | .bool b => some (.bl b)
  | .int i _ => some (.int i)
  | .str x _ => some (.str x)
  | .bytes b _ => some (.byt b)
  | .float b _ => some (.flt b)
  | .ref a => some (.ref a)
  | .type n => some (.ty n)
  | _ => none
theorem RelV.abs {x : V} {u : Value} (r : RelV x u) : absV u = some x := by
  cases x with
  | non => cases r; rfl
  | bl _ => cases r; rfl
  | int _ => obtain ⟨t, rfl⟩ := r; rfl
  | str _ => obtain ⟨t, rfl⟩ := r; rfl
  | byt _ => obtain ⟨t, rfl⟩ := r; rfl
  | flt _ => obtain ⟨t, rfl⟩ := r; rfl
  | ref _ => cases r; rfl
  | ty _ => cases r; rfl
theorem RelV.inj {x y : V} {u : Value} (r : RelV x u) (q : RelV y u) : x = y := Option.some.inj (r.abs.symm.trans q.abs)
theorem Vals.inj : ∀ {xs ys : List V} {us : List Value}, Vals xs us → Vals ys us → xs = ys
  | _, _, _, .nil, .nil => rfl
  | _, _, _, .cons r t, .cons r' t' => by rw [r.inj r', Vals.inj t t']
section
variable {X : Cx} {pins : List (Addr × Obj)} {σ : St} {H : Hp} {s : Shared} {a : Addr} {xs ys : List V}
theorem SqL.of {K : PySem.W.Frag} (h : H a = some (.lst xs)) : SqL K H a xs := .inl (.inl h)
theorem SqT.of {K : PySem.W.Frag} (h : H a = some (.tup xs)) : SqT K H a xs := .inl (.inl h)
theorem Inv.list (I : Inv X pins σ H s) (h : SqL X.K H a xs) : ∃ its : List Value, Vals xs its ∧ PlainL s.heap a its.toArray ∧ xs.length ≤ sizeLine := by
  rcases h with h | ⟨o, its, n, hk, hc, hd, hs, hz, r⟩
  · obtain ⟨z, its, n, r, e⟩ := h.ok I.hok
    exact ⟨its, r, ⟨_, n, e, rfl, rfl, rfl⟩, z⟩
  · refine ⟨its.toList, r, ⟨o, n, I.kIn a o hk, hc, hd, by simpa using hs⟩, ?_⟩
    have e := r.length
    simp only [Array.length_toList] at e
    omega
theorem Inv.tuple (I : Inv X pins σ H s) (h : SqT X.K H a xs) : ∃ its : List Value, Vals xs its ∧ IsTup s.heap a its.toArray ∧ xs.length ≤ sizeLine := by
  rcases h with h | ⟨o, its, n, hk, hc, hs, hz, r⟩
  · obtain ⟨z, its, r, p⟩ := h.ok I.hok
    exact ⟨its, r, p, z⟩
  · refine ⟨its.toList, r, ⟨o, I.kIn a o hk, hc, n, by simpa using hs⟩, ?_⟩
    have e := r.length
    simp only [Array.length_toList] at e
    omega
theorem Inv.list_inj (I : Inv X pins σ H s) (h : SqL X.K H a xs) (h' : SqL X.K H a ys) : xs = ys := by
  obtain ⟨its, r, ⟨o, n, e, _, _, d⟩, _⟩ := I.list h
  obtain ⟨its', r', ⟨o', n', e', _, _, d'⟩, _⟩ := I.list h'
  rw [e] at e'; cases e'
  rw [d] at d'
  injection d' with d1 _
  have : its = its' := by simpa using congrArg Array.toList d1
  subst this
  exact r.inj r'
theorem Inv.tuple_inj (I : Inv X pins σ H s) (h : SqT X.K H a xs) (h' : SqT X.K H a ys) : xs = ys := by
  obtain ⟨its, r, ⟨o, e, _, n, d⟩, _⟩ := I.tuple h
  obtain ⟨its', r', ⟨o', e', _, n', d'⟩, _⟩ := I.tuple h'
  rw [e] at e'; cases e'
  rw [d] at d'
  injection d' with d1 _
  have : its = its' := by simpa using congrArg Array.toList d1
  subst this
  exact r.inj r'
end

/-! ### another wish about exceptions -/
abbrev Cx.wish (X : Cx) (E : Value → Shared → Prop) : Cx := { X with xe := E }
/-- no exception leaves -/
abbrev Cx.nox (X : Cx) : Cx := X.wish fun _ _ => False
theorem Cx.Ok.wish {X : Cx} (ok : X.Ok) (E : Value → Shared → Prop) : (X.wish E).Ok :=
  ⟨ok.mod, ok.kind, ok.glob, ok.blt, ok.above, ok.inj, ok.has, ok.cab, ok.hd, ok.frames, ok.stk, ok.exf, ok.bs, ok.bsz, ok.noex, ok.exfs, ok.funs, ok.frf⟩
theorem Cx.Ok.unwish {X : Cx} {E : Value → Shared → Prop} (ok : (X.wish E).Ok) : X.Ok :=
  ⟨ok.mod, ok.kind, ok.glob, ok.blt, ok.above, ok.inj, ok.has, ok.cab, ok.hd, ok.frames, ok.stk, ok.exf, ok.bs, ok.bsz, ok.noex, ok.exfs, ok.funs, ok.frf⟩
section
variable {X : Cx} {pins : List (Addr × Obj)} {σ : St} {H : Hp} {s : Shared} {E : Value → Shared → Prop}
theorem Inv.wish (I : Inv X pins σ H s) (E : Value → Shared → Prop) : Inv (X.wish E) pins σ H s := ⟨I.ok.wish E, I.os, I.bare, I.base, I.loc, I.cell, I.free, I.freeC, I.pin, I.hok, I.len⟩
theorem Inv.unwish (I : Inv (X.wish E) pins σ H s) : Inv X pins σ H s := ⟨I.ok.unwish, I.os, I.bare, I.base, I.loc, I.cell, I.free, I.freeC, I.pin, I.hok, I.len⟩
theorem SP.unwish {D : Ends} {f : Flow} {s' : Shared} (h : SP (X.wish E) pins D f s') : SP X pins D f s' := by
  cases f with
  | next => obtain ⟨σ', H', I, q⟩ := h; exact ⟨σ', H', I.unwish, q⟩
  | brk => obtain ⟨σ', H', I, q⟩ := h; exact ⟨σ', H', I.unwish, q⟩
  | cont => obtain ⟨σ', H', I, q⟩ := h; exact ⟨σ', H', I.unwish, q⟩
  | ret u => obtain ⟨v, σ', H', I, r, q⟩ := h; exact ⟨v, σ', H', I.unwish, r, q⟩
theorem PSs.nox {st : List Stmt} {t : TS} (h : PSs X.nox st t) : PSs X st t := fun pins s σ H D I hw =>
  wpAny_mono (h pins s σ H D (I.wish _) hw) (fun _ _ q => q.unwish) fun _ _ z => False.elim z
end

/-! ### blocks and small statements -/
section
variable {X : Cx} {st : Stmt} {rest : List Stmt} {t u : TS} {e : Expr} {te : TE} {pos : Pos}
def tNext : TS := fun D σ H => D.nx σ H
def tSeq (t u : TS) : TS := fun D σ H => t { D with nx := u D } σ H
theorem pss_nil : PSs X [] tNext := fun _ _ σ H _ I h => wpAny_execs_nil ⟨σ, H, I, h⟩
theorem pss_cons (h1 : PS X st t) (h2 : PSs X rest u) : PSs X (st :: rest) (tSeq t u) := by
  intro pins s σ H D I h
  refine wpAny_execs_cons (thn (h1 pins s σ H { D with nx := u D } I h) fun f s1 q => ?_)
  cases f with
  | next =>
    obtain ⟨σ', H', I', q⟩ := q
    exact h2 pins s1 σ' H' D I' q
  | ret v => exact q
  | brk => exact q
  | cont => exact q
theorem pss_one (h1 : PS X st t) : PSs X [st] t := by
  intro pins s σ H D I h
  refine wpAny_execs_cons (thn (h1 pins s σ H D I h) fun f s1 q => ?_)
  cases f with
  | next => exact wpAny_execs_nil q
  | ret v => exact q
  | brk => exact q
  | cont => exact q
/-- in a def's body nothing is shown -/
theorem Inv.quiet {pins : List (Addr × Obj)} {σ : St} {H : Hp} {s : Shared} (I : Inv X pins σ H s) : interactive X.env = false := by simp [interactive, I.ok.kind]
/-- an expression whose value is dropped -/
def tDrop (te : TE) : TS := fun D σ H => te σ H fun _ H1 => D.nx σ H1
theorem ps_expr (he : PE X e te) (hs : swapsWith e none pos.line X.env = pure false := by rfl) : PS X (.Expr e pos) (tDrop te) := by
  intro pins s σ H D I h
  exact wpAny_Expr_any (thn (he pins s σ H _ I h) fun v s1 ⟨x, H1, I1, r1, q1⟩ => ⟨σ, H1, I1, q1⟩) I.quiet hs
def tRet (te : TE) : TS := fun D σ H => te σ H D.rt
theorem ps_ret (he : PE X e te) : PS X (.Return (some e) pos) (tRet te) := by
  intro pins s σ H D I h
  exact wpAny_Return_some (thn (he pins s σ H _ I h) fun v s1 ⟨x, H1, I1, r1, q1⟩ => ⟨x, σ, H1, I1, r1, q1⟩)
def tIfS (c : TT) (t u : TS) : TS := fun D σ H => c σ H fun b H1 => if b = true then t D σ H1 else u D σ H1
theorem ps_if {c : Expr} {a b : List Stmt} {tc : TT} (hc : PT X c tc) (ha : PSs X a t) (hb : PSs X b u) : PS X (.If c a b pos) (tIfS tc t u) := by
  intro pins s σ H D I h
  refine wpAny_If (thn (hc pins s σ H _ I h) fun d s1 ⟨H1, I1, q1⟩ => ?_)
  cases d with
  | true => exact ha pins s1 σ H1 D I1 q1
  | false => exact hb pins s1 σ H1 D I1 q1
end

/-! ### targets -/
abbrev TG := V → St → Hp → (St → Hp → Prop) → Prop
abbrev TGs := List V → St → Hp → (St → Hp → Prop) → Prop
def PG (X : Cx) (target : Expr) (t : TG) : Prop :=
  ∀ (pins : List (Addr × Obj)) (s : Shared) (σ : St) (H : Hp) (v : V) (u : Value) (Q : St → Hp → Prop), Inv X pins σ H s → RelV v u → t v σ H Q →
    wpAny (model X.prog X.w) X.A (assign target X.env u) (fun _ s' => ∃ σ' H', Inv X pins σ' H' s' ∧ Q σ' H') X.xe s
/-- several targets, one after another -/
def PGs (X : Cx) (ts : List Expr) (t : TGs) : Prop :=
  ∀ (pins : List (Addr × Obj)) (s : Shared) (σ : St) (H : Hp) (vs : List V) (us : List Value) (Q : St → Hp → Prop), Inv X pins σ H s → Vals vs us → t vs σ H Q →
    wpAny (model X.prog X.w) X.A (assignInOrder ((assignEach ts X.env).map (·.2)) us) (fun _ s' => ∃ σ' H', Inv X pins σ' H' s' ∧ Q σ' H') X.xe s
/-- o[i] = v, by values -/
abbrev TSet := V → V → V → Hp → (Hp → Prop) → Prop
def PSet (X : Cx) (t : TSet) : Prop :=
  ∀ (pins : List (Addr × Obj)) (s : Shared) (σ : St) (H : Hp) (o i v : V) (ov iv u : Value) (Q : Hp → Prop), Inv X pins σ H s → RelV o ov → RelV i iv → RelV v u → t o i v H Q →
    wpAny (model X.prog X.w) X.A (setItem ov iv u) (fun _ s' => ∃ H', Inv X pins σ H' s' ∧ Q H') X.xe s
/-- a op= b, by values -/
abbrev TIp := V → V → Hp → VK → Prop
def PIp (X : Cx) (op : Operator) (t : TIp) : Prop :=
  ∀ (pins : List (Addr × Obj)) (s : Shared) (σ : St) (H : Hp) (x y : V) (v u : Value) (Q : VK), Inv X pins σ H s → RelV x v → RelV y u → t x y H Q →
    wpAny (model X.prog X.w) X.A (inplaceOp op v u) (EP X pins σ Q) X.xe s
section
variable {X : Cx} {pos : Pos}
def gName (i : Nat) : TG := fun v σ H Q => Q (σ.set i (some v)) H
theorem pg_name {i : Nat} {x : Str} (hN : X.N.Nodup) (hi : X.N[i]? = some x) (hx : Loc X.env.scope x) (hf : X.fn x = true ∨ X.env.scope.names.lookup x = some .local := by first | exact .inl rfl | exact .inr rfl | assumption) : PG X (.Name x pos) (gName i) := by
  intro pins s σ H v u Q I r h
  exact wpAny_assign_Name (store_ok I hN hi hx r (fun s' I' => ⟨_, H, I', h⟩) hf)
def gNil : TGs := fun vs σ H Q => vs = [] ∧ Q σ H
def gCons (t : TG) (u : TGs) : TGs := fun vs σ H Q => ∃ v r, vs = v :: r ∧ t v σ H fun σ' H' => u r σ' H' Q
theorem pgs_nil : PGs X [] gNil := by
  intro pins s σ H vs us Q I r h
  obtain ⟨e, h⟩ := h
  subst e
  cases r
  exact assignInOrder_nil ⟨σ, H, I, h⟩
theorem pgs_cons {e : Expr} {es : List Expr} {t : TG} {u : TGs} (h1 : PG X e t) (h2 : PGs X es u)
    (hs : (assignEach (e :: es) X.env).map (·.2) = assign e X.env :: (assignEach es X.env).map (·.2) := by rfl) : PGs X (e :: es) (gCons t u) := by
  intro pins s σ H vs us Q I r h
  obtain ⟨v, vr, e1, h⟩ := h
  subst e1
  cases r with
  | cons r rr =>
    rw [hs]
    refine assignInOrder_cons (thn (h1 pins s σ H _ _ _ I r h) fun _ s1 ⟨σ1, H1, I1, q1⟩ => ?_)
    exact h2 pins s1 σ1 H1 _ _ Q I1 rr q1
/-- (a, b, ..) = a tuple of that length -/
def gTup (K : PySem.W.Frag) (n : Nat) (t : TGs) : TG := fun v σ H Q => ∃ a xs, v = .ref a ∧ SqT K H a xs ∧ xs.length = n ∧ t xs σ H Q
theorem pg_tup {es : List Expr} {k : Nat} {t : TGs} {n : Nat} (hc : X.calm = true) (h : PGs X es t)
    (hn : (assignEach es X.env).length = n := by rfl) (hst : (assignEach es X.env).findIdx? (·.1) = none := by rfl) : PG X (.Tuple es k pos) (gTup X.K n t) := by
  intro pins s σ H v u Q I r hw
  obtain ⟨a, xs, e1, hq, hl, hw⟩ := hw
  subst e1
  cases r
  obtain ⟨its, rv, ht, hz⟩ := I.tuple hq
  refine assign_Tuple_tuple (I.ok.hd hc) ht (by simp [hn, ← hl, rv.length]) hst fun h' hx => ?_
  have I1 : Inv X pins σ H { s with heap := h' } := I.kept (t' := s.toks) fun b o e => hx b o (Nat.ne_of_lt (Heap.lt_size e)) e
  exact h pins _ σ H xs _ Q I1 (by simpa using rv) hw
/-- o[i] = .. -/
def gSub (to ti : TE) (t : TSet) : TG := fun v σ H Q => to σ H fun o H1 => ti σ H1 fun i H2 => t o i v H2 fun H3 => Q σ H3
theorem pg_sub {o i : Expr} {to ti : TE} {t : TSet} (ho : PE X o to) (hi : PE X i ti) (hs : PSet X t)
    (ha : ∀ v, assign (.Subscript o i pos) X.env v = (do
      let ov ← holding [v] (eval o X.env)
      let iv ← holding [v, ov] (eval i X.env)
      standAt pos
      holding [v, ov, iv] (setItem ov iv v)
      release [v, ov, iv] []) := by intro _; rfl) : PG X (.Subscript o i pos) (gSub to ti t) := by
  intro pins s σ H v u Q I r h
  rw [ha]
  refine wpAny_bind (wpAny_holding (thn (ho pins s σ H _ I h) fun ov s1 ⟨x, H1, I1, r1, q1⟩ => ?_))
  refine wpAny_bind (wpAny_holding (thn (hi pins s1 σ H1 _ I1 q1) fun iv s2 ⟨y, H2, I2, r2, q2⟩ => ?_))
  refine wpAny_bind (wpAny_standAt (wpAny_bind (wpAny_holding (thn (hs pins s2 σ H2 x y v ov iv u _ I2 r1 r2 r q2) fun _ s3 ⟨H3, I3, q3⟩ => ?_))))
  exact wpAny_release ⟨σ, H3, I3, q3⟩
/-- target = value -/
def tAsg (te : TE) (g : TG) : TS := fun D σ H => te σ H fun x H1 => g x σ H1 D.nx
theorem ps_asg {tg e : Expr} {te : TE} {g : TG} (he : PE X e te) (hg : PG X tg g) (hs : swapsWithSole [tg] e pos.line X.env = pure false := by rfl) (hw : swappedStores [tg] e X.env = pure none := by rfl)
    (h1 : (assignEach [tg] X.env).map (·.2) = [assign tg X.env] := by rfl) : PS X (.Assign [tg] e pos) (tAsg te g) := by
  intro pins s σ H D I h
  refine wpAny_Assign_stores (thn (he pins s σ H _ I h) fun v s1 ⟨x, H1, I1, r1, q1⟩ => ?_) hs hw
  rw [h1]
  exact thn (hg pins s1 σ H1 x v _ I1 r1 q1) fun _ s2 q => q
/-- name = value -/
theorem ps_set {i : Nat} {x : Str} {e : Expr} {te : TE} {pos' : Pos} (hN : X.N.Nodup) (hi : X.N[i]? = some x) (hx : Loc X.env.scope x) (he : PE X e te) (hs : swapsWith e (some (.Name x pos')) pos.line X.env = pure false := by rfl) (hf : X.fn x = true ∨ X.env.scope.names.lookup x = some .local := by first | exact .inl rfl | exact .inr rfl | assumption) :
    PS X (.Assign [.Name x pos'] e pos) (tAsg te (gName i)) := by
  intro pins s σ H D I h
  refine wpAny_Assign_Name (thn (he pins s σ H _ I h) fun v s1 ⟨y, H1, I1, r1, q1⟩ => ?_) hs
  exact store_ok I1 hN hi hx r1 (fun s2 I2 => ⟨_, H1, I2, q1⟩) hf
/-- name op= e -/
def tAug (i : Nat) (te : TE) (ti : TIp) : TS := fun D σ H => ∃ x, σ[i]? = some (some x) ∧ te σ H fun y H1 => ti x y H1 fun z H2 => D.nx (σ.set i (some z)) H2
theorem ps_aug {i : Nat} {x : Str} {e : Expr} {te : TE} {op : Operator} {ti : TIp} {pos' : Pos} (hN : X.N.Nodup) (hi : X.N[i]? = some x) (hx : Loc X.env.scope x) (he : PE X e te) (ho : PIp X op ti) (hf : X.fn x = true ∨ X.env.scope.names.lookup x = some .local := by first | exact .inl rfl | exact .inr rfl | assumption) :
    PS X (.AugAssign (.Name x pos') op e pos) (tAug i te ti) := by
  intro pins s σ H D I h
  obtain ⟨v, e1, h⟩ := h
  obtain ⟨m, hn, hl⟩ := I.loc
  have vis : Vis X.env.scope x := by rcases hx with k | k; exact .inl k; exact .inr (.inl k)
  obtain ⟨u, r, l⟩ := hl i x v hi e1 vis
  refine wpAny_AugAssign_Name ?_
  have go : wpAny (model X.prog X.w) X.A (eval e X.env) (fun w s₂ => wpAny (model X.prog X.w) X.A (inplaceOp op u w) (fun r s₃ => wpAny (model X.prog X.w) X.A (storeName X.env x r) (fun _ => SP X pins D .next) X.xe s₃) X.xe s₂) X.xe s := by
    refine thn (he pins s σ H _ I h) fun w s1 ⟨y, H1, I1, r1, q1⟩ => ?_
    refine thn (ho pins s1 σ H1 v y u w _ I1 r r1 q1) fun z s2 ⟨zv, H2, I2, r2, q2⟩ => ?_
    exact store_ok I2 hN hi hx r2 (fun s3 I3 => ⟨_, H2, I3, q2⟩) hf
  rcases l with ⟨hk, hm⟩ | ⟨hk, c, hc, hcell⟩
  · exact wpAny_loadName_local I.ok.kind hk hn hm go
  · rcases hk with hk | hk
    · exact wpAny_loadName_cell I.ok.kind hk hc hcell go
    · rcases hx with k | k
      · have : X.env.scope.names.lookup x = some .free := hk
        rw [k] at this; cases this
      · have : X.env.scope.names.lookup x = some .free := hk
        rw [k] at this; cases this
/-- o[i] op= e -/
def tAugS (to ti te : TE) (tget : V → V → Hp → VK → Prop) (tip : TIp) (tset : TSet) : TS := fun D σ H => to σ H fun o H1 => ti σ H1 fun i H2 => tget o i H2 fun x H3 => te σ H3 fun y H4 => tip x y H4 fun z H5 => tset o i z H5 fun H6 => D.nx σ H6
/-- o[i], by values -/
def PGet (X : Cx) (t : V → V → Hp → VK → Prop) : Prop :=
  ∀ (pins : List (Addr × Obj)) (s : Shared) (σ : St) (H : Hp) (o i : V) (ov iv : Value) (Q : VK), Inv X pins σ H s → RelV o ov → RelV i iv → t o i H Q →
    wpAny (model X.prog X.w) X.A (getItem ov iv) (EP X pins σ Q) X.xe s
theorem ps_augS {o i e : Expr} {to ti te : TE} {tget : V → V → Hp → VK → Prop} {tip : TIp} {tset : TSet} {op : Operator} {tpos : Pos} (ho : PE X o to) (hi : PE X i ti) (hg : PGet X tget) (he : PE X e te) (hp : PIp X op tip) (hs : PSet X tset)
    (ha : ∀ ov iv new, augStore i ov iv new = (do holding [new, ov, iv] (setItem ov iv new); release [new, ov, iv] []; pure .next) := by intros; rfl) : PS X (.AugAssign (.Subscript o i tpos) op e pos) (tAugS to ti te tget tip tset) := by
  intro pins s σ H D I h
  refine wpAny_AugAssign_SubscriptAny (thn (ho pins s σ H _ I h) fun ov s1 ⟨x1, H1, I1, r1, q1⟩ => ?_) ha
  refine thn (hi pins s1 σ H1 _ I1 q1) fun iv s2 ⟨x2, H2, I2, r2, q2⟩ => ?_
  refine thn (hg pins s2 σ H2 x1 x2 ov iv _ I2 r1 r2 q2) fun old s3 ⟨x3, H3, I3, r3, q3⟩ => ?_
  refine thn (he pins s3 σ H3 _ I3 q3) fun v s4 ⟨x4, H4, I4, r4, q4⟩ => ?_
  refine thn (hp pins s4 σ H4 x3 x4 old v _ I4 r3 r4 q4) fun new s5 ⟨x5, H5, I5, r5, q5⟩ => ?_
  exact thn (hs pins s5 σ H5 x1 x2 x5 ov iv new _ I5 r1 r2 r5 q5) fun _ s6 ⟨H6, I6, q6⟩ => ⟨σ, H6, I6, q6⟩
/-- ints -/
def ipI (f : Int → Int → Int) : TIp := fun x y H Q => ∃ i j, x = .int i ∧ y = .int j ∧ Q (.int (f i j)) H
theorem ip_add : PIp X .Add (ipI fun i j => i + j) := by
  intro pins s σ H x y v u Q I r1 r2 h
  obtain ⟨i, j, e1, e2, q⟩ := h
  subst e1; subst e2
  obtain ⟨t, rfl⟩ := r1
  obtain ⟨t', rfl⟩ := r2
  exact iadd_int ⟨.int _, H, I.tok _, ⟨_, rfl⟩, q⟩
theorem ip_sub : PIp X .Sub (ipI fun i j => i - j) := by
  intro pins s σ H x y v u Q I r1 r2 h
  obtain ⟨i, j, e1, e2, q⟩ := h
  subst e1; subst e2
  obtain ⟨t, rfl⟩ := r1
  obtain ⟨t', rfl⟩ := r2
  exact isub_int ⟨.int _, H, I.tok _, ⟨_, rfl⟩, q⟩
end

/-! ### while -/
section
variable {X : Cx} {pos : Pos}
/-- the invariant W with its measure -/
def tWhile (c : TT) (tb : TS) : TS := fun D σ H => ∃ W : Nat → St → Hp → Prop, (∃ m, W m σ H) ∧ ∀ m σ H, W m σ H →
  c σ H fun b H1 => if b = true then ∃ N : St → Hp → Prop, (∀ σ' H', N σ' H' → ∃ m', m' < m ∧ W m' σ' H') ∧ tb { D with nx := N, ct := N, bk := D.nx } σ H1 else D.nx σ H1
theorem ps_while {c : Expr} {body : List Stmt} {tc : TT} {tb : TS} (hp : PassesOwn (model X.prog X.w) X.A X.env X.xe) (hc : PT X c tc) (hb : PSs X body tb) : PS X (.While c body [] pos) (tWhile tc tb) := by
  intro pins s σ H D I h
  obtain ⟨W, ⟨m0, w0⟩, turn⟩ := h
  refine wpAny_While (codeAny_whileLoop (fun n s' => ∃ σ' H', Inv X pins σ' H' s' ∧ W n σ' H') ?_ m0 ⟨σ, H, I, w0⟩)
  rintro n s1 ⟨σ1, H1, I1, w1⟩
  refine wpAny_passesOwn hp (thn (hc pins s1 σ1 H1 _ I1 (turn n σ1 H1 w1)) fun b s2 ⟨H2, I2, q2⟩ => ?_)
  cases b with
  | true =>
    obtain ⟨N, hN, q2⟩ := q2
    rw [if_pos rfl]
    refine wpAny_passesOwn hp (thn (hb pins s2 σ1 H2 _ I2 q2) fun f s3 q3 => ?_)
    cases f with
    | next =>
      obtain ⟨σ3, H3, I3, n3⟩ := q3
      obtain ⟨m', hm, w3⟩ := hN σ3 H3 n3
      exact ⟨m', hm, σ3, H3, I3, w3⟩
    | cont =>
      obtain ⟨σ3, H3, I3, n3⟩ := q3
      obtain ⟨m', hm, w3⟩ := hN σ3 H3 n3
      exact ⟨m', hm, σ3, H3, I3, w3⟩
    | brk => exact q3
    | ret v => exact q3
  | false =>
    rw [if_neg Bool.false_ne_true]
    exact wpAny_execs_nil ⟨σ1, H2, I2, q2⟩
end

/-! ### what a loop or a comprehension walks -/
/-- at turn i: it yields x (the heap may grow), or it stops -/
structure It where
  go : Nat → Hp → Prop
  yld : Nat → Hp → V → Hp → Prop
  stop : Nat → Hp → Prop
/-- the iterator's own objects may turn: they are not the frame's, not pinned, younger than the entry (or a comprehension's own) -/
def FpOk (X : Cx) (pins : List (Addr × Obj)) (H : Hp) (b : Addr) : Prop :=
  H b = none ∧ b ≠ X.env.locals ∧ b ∉ X.fs ∧ (b ∈ X.ex ∨ X.s_0.heap.objs.size ≤ b) ∧ (∀ x c, X.env.cells.lookup x = some c → c ≠ b) ∧ ∀ p ∈ X.pn ++ pins, p.1 ≠ b
theorem Inv.fpOk {X : Cx} {pins : List (Addr × Obj)} {σ : St} {H H' : Hp} {s : Shared} {b : Addr} (I : Inv X pins σ H s) (hb : s.heap.objs.size ≤ b) (hn : H' b = none) : FpOk X pins H' b := by
  refine ⟨hn, Nat.ne_of_gt (Nat.lt_of_lt_of_le I.lt hb), I.nofs hb, .inr (Nat.le_trans I.sz hb), fun x c e z => ?_, fun p hp z => ?_⟩
  · obtain ⟨v, q⟩ := I.cell x c e
    exact absurd (Nat.lt_of_lt_of_le q.lt (by rw [z]; exact hb)) (Nat.lt_irrefl _)
  · exact absurd (Nat.lt_of_lt_of_le (Heap.lt_size (I.pin p hp).1) (by rw [z]; exact hb)) (Nat.lt_irrefl _)
structure Turn (P : Program) (w : World) (K : PySem.W.Frag) (tg : Expr) (J : It) (fp : List Addr) (it : Addr) (tn : Nat → Heap → Prop) : Prop where
  mem : it ∈ fp
  obj : ∀ i h, tn i h → ∀ b ∈ fp, ∃ o, h.get? b = some o ∧ ∀ v, o.data ≠ .cell v
  keep : ∀ i h h', tn i h → (∀ b ∈ fp, ∀ o, h.get? b = some o → h'.get? b = some o) → tn i h'
  item : ∀ (X : Cx), X.prog = P → X.w = w → X.K = K → X.calm = true → ∀ (i : Nat) (pins : List (Addr × Obj)) (s : Shared) (σ : St) (H : Hp) (E : Value → Shared → Prop), Inv X pins σ H s → (∀ b ∈ fp, FpOk X pins H b) → tn i s.heap → J.go i H →
    wpAny (model P w) X.A (pyNext (.ref it)) (fun r s1 => ∃ u, r = some u ∧
      wpAny (model P w) X.A (letOwnedTupleGo tg (.ref it) u) (fun _ s2 => ∃ x H', Inv X pins σ H' s2 ∧ RelV x u ∧ J.yld i H x H' ∧ tn (i + 1) s2.heap ∧ ∀ b ∈ fp, H' b = none) E s1) E s
  done : ∀ (X : Cx), X.prog = P → X.w = w → X.K = K → X.calm = true → ∀ (i : Nat) (pins : List (Addr × Obj)) (s : Shared) (σ : St) (H : Hp) (E : Value → Shared → Prop), Inv X pins σ H s → (∀ b ∈ fp, FpOk X pins H b) → tn i s.heap → J.stop i H →
    wpAny (model P w) X.A (pyNext (.ref it)) (fun r s1 => r = none ∧ Inv X pins σ H s1) E s
  self : ∀ (A : Around) (i : Nat) (s : Shared) (Q : Value → Shared → Prop) (E : Value → Shared → Prop), tn i s.heap → Q (.ref it) s → wpAny (model P w) A (pyIter (.ref it)) Q E s
abbrev TI := St → Hp → (It → Hp → Prop) → Prop
/-- an iterator has come -/
def PIE (X : Cx) (pins : List (Addr × Obj)) (σ : St) (tg : Expr) (R : It → Hp → Prop) (itv : Value) (s2 : Shared) : Prop :=
  ∃ (it : Addr) (fp : List Addr) (tn : Nat → Heap → Prop) (J : It) (H' : Hp), itv = .ref it ∧ Inv X pins σ H' s2 ∧ Turn X.prog X.w X.K tg J fp it tn ∧ tn 0 s2.heap ∧ (∀ b ∈ fp, FpOk X pins H' b) ∧ R J H'
def PI (X : Cx) (tg iter : Expr) (wi : TI) : Prop :=
  ∀ (pins : List (Addr × Obj)) (s : Shared) (σ : St) (H : Hp) (R : It → Hp → Prop), Inv X pins σ H s → wi σ H R →
    wpAny (model X.prog X.w) X.A (eval iter X.env) (fun v s1 => wpAny (model X.prog X.w) X.A (pyIter v) (PIE X pins σ tg R) X.xe s1) X.xe s

/-- the step ahead of the store is nothing for an iterator that keeps no tuple -/
theorem go_of {M : Model} {A : Around} {E : Value → Shared → Prop} {s : Shared} {tg : Expr} {it : Addr} {u : Value} {o : Obj} {n : String} {vs : Array Value} {Q : Unit → Shared → Prop} (ho : s.heap.get? it = some o) (hc : o.cls = .type n) (hd : o.data = .fields vs)
    (hn : ["enumerate", "zip", "dict_itemiterator", "dict_reverseitemiterator", "odict_iterator", "itertools.zip_longest", "itertools.pairwise"].contains n = false) (hQ : Q () s) : wpAny M A (letOwnedTupleGo tg (.ref it) u) Q E s := by
  unfold letOwnedTupleGo
  cases tg <;> first
    | exact wpAny_pure hQ
    | (cases u <;> first
        | exact wpAny_pure hQ
        | (refine wpAny_bind (wpAny_load ho ?_)
           rw [hc, hd]
           show wpAny M A (if (["enumerate", "zip", "dict_itemiterator", "dict_reverseitemiterator", "odict_iterator", "itertools.zip_longest", "itertools.pairwise"].contains n && vs[0]? == some (rawInt _)) = true then _ else _) Q E s
           rw [if_neg (by intro h; rw [hn, Bool.false_and] at h; cases h)]
           exact wpAny_pure hQ))

/-- the list at a, as it stands at each turn (a loop may append to it) -/
def Itl (K : PySem.W.Frag) (a : Addr) : It :=
  ⟨fun i H => ∃ xs x, SqL K H a xs ∧ xs[i]? = some x, fun i H x H' => H' = H ∧ ∀ xs, SqL K H a xs → xs[i]? = some x, fun i H => ∃ xs, SqL K H a xs ∧ xs.length ≤ i⟩
def Itt (K : PySem.W.Frag) (a : Addr) : It :=
  ⟨fun i H => ∃ xs x, SqT K H a xs ∧ xs[i]? = some x, fun i H x H' => H' = H ∧ ∀ xs, SqT K H a xs → xs[i]? = some x, fun i H => ∃ xs, SqT K H a xs ∧ xs.length ≤ i⟩
/-- lo, lo + 1, .. (n of them) -/
def Itr (lo : Int) (n : Nat) : It := ⟨fun i _ => i < n, fun i H x H' => H' = H ∧ x = .int (lo + i), fun i _ => n ≤ i⟩
theorem turn_list {P : Program} {w : World} {K : PySem.W.Frag} {tg : Expr} (a it : Addr) : Turn P w K tg (Itl K a) [it] it (fun i h => h.IsListIter it a i) where
  mem := by simp
  obj := fun i h st b hb => by
    have e : b = it := by simpa using hb
    subst e
    obtain ⟨o, e, c, d⟩ := st
    exact ⟨o, e, fun v z => by rw [d] at z; cases z⟩
  keep := fun i h h' st k => st.at fun o e => k it (by simp) o e
  item := by
    intro X hP hw hK hc i pins s σ H E I hf st hg
    subst hP hw hK
    obtain ⟨xs, x, hq, hx⟩ := hg
    obtain ⟨its, rv, p, hz⟩ := I.list hq
    obtain ⟨u, hu, ru⟩ := rv.get hx
    obtain ⟨f0, f1, f2, f3, f4, f5⟩ := hf it (by simp)
    refine wpAny_pyNext_list_item st p.isList (x := u) (by simpa using hu) fun h' st' sb => ?_
    have I1 : Inv X pins σ H { s with heap := h' } := I.turned (t' := s.toks) (fun b o hb e => (sb.2 b hb).trans e) f0 f1 f3 f4 f5
    obtain ⟨o, e, c, d⟩ := id st'
    exact ⟨u, rfl, go_of (s := { s with heap := h' }) e c d (by decide) ⟨x, H, I1, ru, ⟨rfl, fun ys hy => by rw [I.list_inj hy hq]; exact hx⟩, st', fun b hb => (hf b hb).1⟩⟩
  done := by
    intro X hP hw hK hc i pins s σ H E I hf st hg
    subst hP hw hK
    obtain ⟨xs, hq, hx⟩ := hg
    obtain ⟨its, rv, p, hz⟩ := I.list hq
    obtain ⟨f0, f1, f2, f3, f4, f5⟩ := hf it (by simp)
    have hl := rv.length
    exact wpAny_pyNext_list_end (I.ok.hd hc) st p.isList (by simp; omega) fun h' eb => ⟨rfl, I.turned (t' := s.toks) (fun b o hb e => eb b o hb e) f0 f1 f3 f4 f5⟩
  self := fun _ _ _ _ _ st h => wpAny_pyIter_listiter st h
theorem turn_tuple {P : Program} {w : World} {K : PySem.W.Frag} {tg : Expr} (a it : Addr) : Turn P w K tg (Itt K a) [it] it (fun i h => h.IsTupleIter it a i) where
  mem := by simp
  obj := fun i h st b hb => by
    have e : b = it := by simpa using hb
    subst e
    obtain ⟨o, e, c, d⟩ := st
    exact ⟨o, e, fun v z => by rw [d] at z; cases z⟩
  keep := fun i h h' st k => st.at fun o e => k it (by simp) o e
  item := by
    intro X hP hw hK hc i pins s σ H E I hf st hg
    subst hP hw hK
    obtain ⟨xs, x, hq, hx⟩ := hg
    obtain ⟨its, rv, p, hz⟩ := I.tuple hq
    obtain ⟨u, hu, ru⟩ := rv.get hx
    obtain ⟨f0, f1, f2, f3, f4, f5⟩ := hf it (by simp)
    refine wpAny_pyNext_tuple_item st (show s.heap.IsTuple a its.toArray from p) (x := u) (by simpa using hu) fun h' st' sb => ?_
    have I1 : Inv X pins σ H { s with heap := h' } := I.turned (t' := s.toks) (fun b o hb e => (sb.2 b hb).trans e) f0 f1 f3 f4 f5
    obtain ⟨o, e, c, d⟩ := id st'
    exact ⟨u, rfl, go_of (s := { s with heap := h' }) e c d (by decide) ⟨x, H, I1, ru, ⟨rfl, fun ys hy => by rw [I.tuple_inj hy hq]; exact hx⟩, st', fun b hb => (hf b hb).1⟩⟩
  done := by
    intro X hP hw hK hc i pins s σ H E I hf st hg
    subst hP hw hK
    obtain ⟨xs, hq, hx⟩ := hg
    obtain ⟨its, rv, p, hz⟩ := I.tuple hq
    obtain ⟨f0, f1, f2, f3, f4, f5⟩ := hf it (by simp)
    have hl := rv.length
    exact wpAny_pyNext_tuple_end (I.ok.hd hc) st (show s.heap.IsTuple a its.toArray from p) (by simp; omega) fun h' eb => ⟨rfl, I.turned (t' := s.toks) (fun b o hb e => eb b o hb e) f0 f1 f3 f4 f5⟩
  self := fun _ _ _ _ _ st h => wpAny_pyIter_tupleiter st h
theorem turn_range {P : Program} {w : World} {K : PySem.W.Frag} {tg : Expr} (it : Addr) (lo : Int) (n : Nat) : Turn P w K tg (Itr lo n) [it] it (fun i h => IsRangeIter h it (lo + (i : Nat) * 1) ((n : Int) - (i : Nat)) 1) where
  mem := by simp
  obj := fun i h st b hb => by
    have e : b = it := by simpa using hb
    subst e
    exact ⟨_, st, fun v z => by
      have z' : Data.fields _ = Data.cell v := z
      cases z'⟩
  keep := fun i h h' st k => k it (by simp) _ st
  item := by
    intro X hP hw hK hc i pins s σ H E I hf st hg
    subst hP hw hK
    obtain ⟨f0, f1, f2, f3, f4, f5⟩ := hf it (by simp)
    have W := Walks.range (prog := X.prog) (w := X.w) (I.ok.hd hc) it lo 1 n
    refine W.item i s _ _ hg st fun v h' tk hv st' kk => ?_
    obtain ⟨t, rfl⟩ := hv
    have I1 : Inv X pins σ H { s with heap := h', toks := tk } := I.turned (fun b o hb e => kk b o (by simpa using hb) e) f0 f1 f3 f4 f5
    refine ⟨_, rfl, go_of (s := { s with heap := h', toks := tk }) (n := "range_iterator") st' rfl rfl (by decide) ⟨.int (lo + i), H, I1, ⟨t, ?_⟩, ⟨rfl, rfl⟩, st', fun b hb => (hf b hb).1⟩⟩
    rw [Int.mul_one]
  done := by
    intro X hP hw hK hc i pins s σ H E I hf st hg
    subst hP hw hK
    obtain ⟨f0, f1, f2, f3, f4, f5⟩ := hf it (by simp)
    exact wpAny_pyNext_range_end (I.ok.hd hc) st (by have : n ≤ i := hg; omega) fun h' eb => ⟨rfl, I.turned (t' := s.toks) (fun b o hb e => eb b o hb e) f0 f1 f3 f4 f5⟩
  self := fun _ _ _ _ _ st h => wpAny_pyIter_rangeiter st h
end L2

namespace L2
open PySem PySem.Spec PyProof.Rows
section
variable {X : Cx} {tg : Expr}
def iList (K : PySem.W.Frag) (tl : TE) : TI := fun σ H R => tl σ H fun x H1 => ∃ a, x = .ref a ∧ (∃ xs, SqL K H1 a xs) ∧ R (Itl K a) H1
def iTup (K : PySem.W.Frag) (tl : TE) : TI := fun σ H R => tl σ H fun x H1 => ∃ a, x = .ref a ∧ (∃ xs, SqT K H1 a xs) ∧ R (Itt K a) H1
theorem pi_list {l : Expr} {tl : TE} (hl : PE X l tl) : PI X tg l (iList X.K tl) := by
  intro pins s σ H R I h
  refine thn (hl pins s σ H _ I h) fun v s1 ⟨x, H1, I1, r1, q1⟩ => ?_
  obtain ⟨a, e, ⟨xs, hq⟩, q⟩ := q1
  subst e
  cases r1
  obtain ⟨its, rv, p, hz⟩ := I1.list hq
  refine wpAny_pyIter_list p.isList ?_
  refine ⟨s1.heap.objs.size, [s1.heap.objs.size], _, _, H1, rfl, I1.kept (t' := s1.toks) fun b o e => Heap.get?_push_of_some _ e, turn_list a _, ⟨_, Heap.get?_push_size _ rfl, rfl, rfl⟩, fun b hb => ?_, q⟩
  have e : b = s1.heap.objs.size := by simpa using hb
  subst e
  exact I1.fpOk (Nat.le_refl _) (I1.hok.fresh (Nat.le_refl _))
theorem pi_tup {l : Expr} {tl : TE} (hl : PE X l tl) : PI X tg l (iTup X.K tl) := by
  intro pins s σ H R I h
  refine thn (hl pins s σ H _ I h) fun v s1 ⟨x, H1, I1, r1, q1⟩ => ?_
  obtain ⟨a, e, ⟨xs, hq⟩, q⟩ := q1
  subst e
  cases r1
  obtain ⟨its, rv, p, hz⟩ := I1.tuple hq
  refine wpAny_pyIter_tuple (show s1.heap.IsTuple a its.toArray from p) ?_
  refine ⟨s1.heap.objs.size, [s1.heap.objs.size], _, _, H1, rfl, I1.kept (t' := s1.toks) fun b o e => Heap.get?_push_of_some _ e, turn_tuple a _, ⟨_, Heap.get?_push_size _ rfl, rfl, rfl⟩, fun b hb => ?_, q⟩
  have e : b = s1.heap.objs.size := by simpa using hb
  subst e
  exact I1.fpOk (Nat.le_refl _) (I1.hok.fresh (Nat.le_refl _))
/-- a range object just made, walked -/
theorem range_it {pins : List (Addr × Obj)} {σ : St} {H : Hp} {s : Shared} {R : It → Hp → Prop} {E : Value → Shared → Prop} {lo hi : Int} {t u v : Tok} {tk : Nat} (I : Inv X pins σ H s) (h1 : -(2 ^ 62) ≤ lo) (h2 : lo < 2 ^ 62) (h3 : -(2 ^ 62) ≤ hi) (h4 : hi < 2 ^ 62)
    (q : R (Itr lo (hi - lo).toNat) H) : wpAny (model X.prog X.w) X.A (pyIter (.ref s.heap.objs.size)) (PIE X pins σ tg R) E { s with heap := s.heap.push { cls := .type "range", data := .fields #[.int lo t, .int hi u, .int 1 v] }, toks := tk } := by
  refine wpAny_pyIter_range (IsRange.new ..) (small_one h1 h2 h3 h4) ?_
  have I1 : Inv X pins σ H { s with heap := s.heap.push { cls := .type "range", data := .fields #[.int lo t, .int hi u, .int 1 v] }, toks := tk } := I.kept fun b o e => Heap.get?_push_of_some _ e
  refine ⟨(s.heap.push { cls := .type "range", data := .fields #[.int lo t, .int hi u, .int 1 v] }).objs.size, [(s.heap.push { cls := .type "range", data := .fields #[.int lo t, .int hi u, .int 1 v] }).objs.size], _, _, H, rfl,
    I1.kept (t' := tk) fun b o e => Heap.get?_push_of_some _ e, turn_range _ lo (hi - lo).toNat, ?_, fun b hb => ?_, q⟩
  · have e1 : lo + ((0 : Nat) : Int) * 1 = lo := by simp
    have e2 : (((hi - lo).toNat : Nat) : Int) - ((0 : Nat) : Int) = Builtin.Range.rangeSize lo hi 1 := by rw [rangeSize_one]; split <;> omega
    show IsRangeIter _ _ (lo + ((0 : Nat) : Int) * 1) ((((hi - lo).toNat : Nat) : Int) - ((0 : Nat) : Int)) 1
    rw [e1, e2]
    exact Heap.get?_push_size _ rfl
  · have e : b = (s.heap.push { cls := .type "range", data := .fields #[.int lo t, .int hi u, .int 1 v] }).objs.size := by simpa using hb
    subst e
    exact I1.fpOk (Nat.le_refl _) (I1.hok.fresh (Nat.le_refl _))
def iRng1 (ta : TA) : TI := fun σ H R => ta σ H fun vs H1 => ∃ j : Int, vs = [.int j] ∧ -(2 ^ 62) ≤ j ∧ j < 2 ^ 62 ∧ R (Itr 0 j.toNat) H1
theorem pi_range1 {a : Expr} {ta : TA} {p pos : Pos} (hg : Gl X "range") (hm : X.mg "range" = none) (ha : PA X [a] ta) (hs : starEach [a] X.env = [(false, eval a X.env)] := by rfl) : PI X tg (.Call (.Name "range" p) [a] [] pos) (iRng1 ta) := by
  intro pins s σ H R I h
  refine Call_ (ld_blt I hg hm boot_range (PyProof.Rows.callWith_type1 (thn (ha pos pins s σ H _ I h) fun us s1 ⟨vs, H1, I1, r1, q1⟩ => ?_) hs rfl))
  obtain ⟨j, e, q1, q2, q⟩ := q1
  subst e
  cases r1 with
  | cons r rr =>
    cases rr
    obtain ⟨t, rfl⟩ := r
    exact call_range_1 (range_it I1 (by omega) (by omega) q1 q2 (by simpa using q))

/-! ### for -/
/-- W: the invariant by the turn and a measure; N: what the body is to reach -/
def tFor (wi : TI) (g : TG) (tb : TS) : TS := fun D σ H => wi σ H fun J H1 => ∃ W : Nat → Nat → St → Hp → Prop, (∃ m, W 0 m σ H1) ∧ ∀ i m σ H, W i m σ H →
  (J.stop i H ∧ D.nx σ H) ∨ (J.go i H ∧ ∃ N : St → Hp → Prop, (∀ σ' H', N σ' H' → ∃ m', m' < m ∧ W (i + 1) m' σ' H') ∧ ∀ x H', J.yld i H x H' → g x σ H' fun σ2 H2 => tb { D with nx := N, ct := N, bk := D.nx } σ2 H2)
/-- the records at fp as they stand -/
def pinsAt (fp : List Addr) (h : Heap) : List (Addr × Obj) := fp.filterMap fun b => (h.get? b).map fun o => (b, o)
theorem mem_pinsAt {fp : List Addr} {h : Heap} {b : Addr} {o : Obj} (hb : b ∈ fp) (e : h.get? b = some o) : (b, o) ∈ pinsAt fp h := List.mem_filterMap.mpr ⟨b, hb, by rw [e]; rfl⟩
theorem of_pinsAt {fp : List Addr} {h : Heap} {p : Addr × Obj} (hp : p ∈ pinsAt fp h) : p.1 ∈ fp ∧ h.get? p.1 = some p.2 := by
  obtain ⟨b, hb, e⟩ := List.mem_filterMap.mp hp
  cases q : h.get? b with
  | none => rw [q] at e; cases e
  | some o =>
    rw [q] at e
    have e' : (b, o) = p := Option.some.inj e
    subst e'
    exact ⟨hb, q⟩
theorem Inv.pinned {pins : List (Addr × Obj)} {σ : St} {H : Hp} {s : Shared} {fp : List Addr} (I : Inv X pins σ H s) (hf : ∀ b ∈ fp, FpOk X pins H b) (ho : ∀ b ∈ fp, ∃ o, s.heap.get? b = some o ∧ ∀ v, o.data ≠ .cell v) : Inv X (pins ++ pinsAt fp s.heap) σ H s :=
  I.pins_of fun p hp => (List.mem_append.mp hp).elim (fun z => I.pin p (List.mem_append_right _ z)) fun z => by
    obtain ⟨hb, e⟩ := of_pinsAt z
    obtain ⟨f0, f1, f2, _⟩ := hf p.1 hb
    obtain ⟨o, e', d⟩ := ho p.1 hb
    rw [e] at e'; cases e'
    exact ⟨e, f0, f1, f2, d⟩
theorem Inv.unpinned {pins pl : List (Addr × Obj)} {σ : St} {H : Hp} {s : Shared} (I : Inv X (pins ++ pl) σ H s) : Inv X pins σ H s := I.pins_of fun p hp => I.pin p (List.mem_append_right _ (List.mem_append_left _ hp))
theorem ps_for {iter : Expr} {body : List Stmt} {wi : TI} {g : TG} {tb : TS} {pos : Pos} (hp : PassesOwn (model X.prog X.w) X.A X.env X.xe) (hc : X.calm = true) (hi : PI X tg iter wi) (hg : PG X tg g) (hb : PSs X body tb)
    (hs : ∀ x, foldedSetIterable iter X.env x = pure x := by intro _; rfl) : PS X (.For tg iter body [] pos) (tFor wi g tb) := by
  intro pins s σ H D I h
  refine wpAny_For (thn (hi pins s σ H _ I h) fun v s1 h1 => thn h1 fun itv s2 h2 => ?_) hs
  obtain ⟨it, fp, tn, J, H2, e, I2, T, st2, f2, W, ⟨m0, w0⟩, turn⟩ := h2
  subst e
  -- what stays true of the iterator's objects through the loop
  have stat : ∀ {H' : Hp}, (∀ b ∈ fp, H' b = none) → ∀ b ∈ fp, FpOk X pins H' b := fun hn b hb => ⟨hn b hb, (f2 b hb).2⟩
  refine codeAny_forLoop_any (fun n s' => ∃ i σ' H', Inv X pins σ' H' s' ∧ tn i s'.heap ∧ (∀ b ∈ fp, H' b = none) ∧ W i n σ' H') ?_ m0 ⟨0, σ, H2, I2, st2, fun b hb => (f2 b hb).1, w0⟩
  rintro n s3 ⟨i, σ3, H3, I3, st3, fr3, w3⟩
  rcases turn i n σ3 H3 w3 with ⟨stop, qn⟩ | ⟨go, N, hN, step⟩
  · refine wpAny_passesOwn hp (thn (T.done X rfl rfl rfl hc i pins s3 σ3 H3 X.xe I3 (stat fr3) st3 stop) fun r s4 ⟨hr, I4⟩ => ?_)
    subst hr
    exact wpAny_execs_nil ⟨σ3, H3, I4, qn⟩
  · refine wpAny_passesOwn hp (thn (T.item X rfl rfl rfl hc i pins s3 σ3 H3 X.xe I3 (stat fr3) st3 go) fun r s4 ⟨u, hr, h4⟩ => ?_)
    subst hr
    refine wpAny_passesOwn hp (thn h4 fun _ s5 ⟨x, H5, I5, r5, y5, st5, fr5⟩ => ?_)
    have I5' := I5.pinned (stat fr5) (T.obj _ _ st5)
    refine wpAny_passesOwn hp (thn (hg _ s5 σ3 H5 x u _ I5' r5 (step x H5 y5)) fun _ s6 ⟨σ6, H6, I6, q6⟩ => ?_)
    refine wpAny_passesOwn hp (thn (hb _ s6 σ6 H6 _ I6 q6) fun f s7 q7 => ?_)
    have again : ∀ {σ7 : St} {H7 : Hp}, Inv X (pins ++ pinsAt fp s5.heap) σ7 H7 s7 → N σ7 H7 → ∃ m, m < n ∧ ∃ i σ' H', Inv X pins σ' H' s7 ∧ tn i s7.heap ∧ (∀ b ∈ fp, H' b = none) ∧ W i m σ' H' := fun {σ7 H7} I7 n7 => by
      obtain ⟨m', hm, w7⟩ := hN σ7 H7 n7
      refine ⟨m', hm, i + 1, σ7, H7, I7.unpinned, T.keep _ _ _ st5 fun b hb o e => (I7.pin (b, o) (List.mem_append_right _ (List.mem_append_right _ (mem_pinsAt hb e)))).1, fun b hb => ?_, w7⟩
      obtain ⟨o, e, d⟩ := T.obj _ _ st5 b hb
      exact (I7.pin (b, o) (List.mem_append_right _ (List.mem_append_right _ (mem_pinsAt hb e)))).2.1
    cases f with
    | next => obtain ⟨σ7, H7, I7, n7⟩ := q7; exact again I7 n7
    | cont => obtain ⟨σ7, H7, I7, n7⟩ := q7; exact again I7 n7
    | brk => obtain ⟨σ7, H7, I7, q7⟩ := q7; exact ⟨σ7, H7, I7.unpinned, q7⟩
    | ret v => obtain ⟨x7, σ7, H7, I7, r7, q7⟩ := q7; exact ⟨x7, σ7, H7, I7.unpinned, r7, q7⟩
end

/-! ### the forms one uses -/
/-- over a list that the body leaves as it is -/
theorem for_list {K : PySem.W.Frag} {a : Addr} {xs : List V} {g : TG} {tb : TS} {D : Ends} {σ : St} {H : Hp} (Pv : Nat → St → Hp → Prop) (h0 : Pv 0 σ H) (hl : ∀ i σ H, i ≤ xs.length → Pv i σ H → SqL K H a xs)
    (hs : ∀ i x σ H, xs[i]? = some x → Pv i σ H → g x σ H fun σ2 H2 => tb { D with nx := Pv (i + 1), ct := Pv (i + 1), bk := D.nx } σ2 H2) (hd : ∀ σ H, Pv xs.length σ H → D.nx σ H) :
    ∃ W : Nat → Nat → St → Hp → Prop, (∃ m, W 0 m σ H) ∧ ∀ i m σ H, W i m σ H →
      ((Itl K a).stop i H ∧ D.nx σ H) ∨ ((Itl K a).go i H ∧ ∃ N : St → Hp → Prop, (∀ σ' H', N σ' H' → ∃ m', m' < m ∧ W (i + 1) m' σ' H') ∧ ∀ x H', (Itl K a).yld i H x H' → g x σ H' fun σ2 H2 => tb { D with nx := N, ct := N, bk := D.nx } σ2 H2) := by
  refine ⟨fun i m σ H => m = xs.length - i ∧ i ≤ xs.length ∧ Pv i σ H, ⟨xs.length, by simp, Nat.zero_le _, h0⟩, ?_⟩
  rintro i m σ H ⟨rfl, hi, p⟩
  have q := hl i σ H hi p
  by_cases hlt : i < xs.length
  · refine .inr ⟨⟨xs, xs[i], q, by simp [hlt]⟩, Pv (i + 1), fun σ' H' p' => ⟨xs.length - (i + 1), by omega, rfl, hlt, p'⟩, fun x H' y => ?_⟩
    obtain ⟨e, y⟩ := y
    subst e
    exact hs i x σ _ (y xs q) p
  · have e : i = xs.length := by omega
    subst e
    exact .inl ⟨⟨xs, q, Nat.le_refl _⟩, hd σ H p⟩
theorem for_range {lo : Int} {n : Nat} {g : TG} {tb : TS} {D : Ends} {σ : St} {H : Hp} (Pv : Nat → St → Hp → Prop) (h0 : Pv 0 σ H)
    (hs : ∀ i σ H, i < n → Pv i σ H → g (.int (lo + i)) σ H fun σ2 H2 => tb { D with nx := Pv (i + 1), ct := Pv (i + 1), bk := D.nx } σ2 H2) (hd : ∀ σ H, Pv n σ H → D.nx σ H) :
    ∃ W : Nat → Nat → St → Hp → Prop, (∃ m, W 0 m σ H) ∧ ∀ i m σ H, W i m σ H →
      ((Itr lo n).stop i H ∧ D.nx σ H) ∨ ((Itr lo n).go i H ∧ ∃ N : St → Hp → Prop, (∀ σ' H', N σ' H' → ∃ m', m' < m ∧ W (i + 1) m' σ' H') ∧ ∀ x H', (Itr lo n).yld i H x H' → g x σ H' fun σ2 H2 => tb { D with nx := N, ct := N, bk := D.nx } σ2 H2) := by
  refine ⟨fun i m σ H => m = n - i ∧ i ≤ n ∧ Pv i σ H, ⟨n, by simp, Nat.zero_le _, h0⟩, ?_⟩
  rintro i m σ H ⟨rfl, hi, p⟩
  by_cases hlt : i < n
  · refine .inr ⟨hlt, Pv (i + 1), fun σ' H' p' => ⟨n - (i + 1), by omega, rfl, hlt, p'⟩, fun x H' y => ?_⟩
    obtain ⟨e, y⟩ := y
    subst e y
    exact hs i σ _ hlt p
  · have e : i = n := by omega
    subst e
    exact .inl ⟨Nat.le_refl _, hd σ H p⟩
end L2

namespace L2
open PySem PySem.Spec PyProof.Rows

abbrev R2 := V → V → Hp → VK → Prop
/-- a two-place operation on values: f is binaryOp op, inplaceOp op or compareOp op -/
def OpR (X : Cx) (f : Value → Value → Sem Value) (r : R2) : Prop :=
  ∀ (pins : List (Addr × Obj)) (s : Shared) (σ : St) (H : Hp) (x y : V) (v u : Value) (Q : VK), Inv X pins σ H s → RelV x v → RelV y u → r x y H Q →
    wpAny (model X.prog X.w) X.A (f v u) (EP X pins σ Q) X.xe s
/-- a one-place operation -/
def UnR (X : Cx) (f : Value → Sem Value) (r : V → Hp → VK → Prop) : Prop :=
  ∀ (pins : List (Addr × Obj)) (s : Shared) (σ : St) (H : Hp) (x : V) (v : Value) (Q : VK), Inv X pins σ H s → RelV x v → r x H Q →
    wpAny (model X.prog X.w) X.A (f v) (EP X pins σ Q) X.xe s
/-- a call of a value that is known (a builtin, a type) with values -/
def CallR (X : Cx) (f : Value) (r : List V → Hp → VK → Prop) : Prop :=
  ∀ (pins : List (Addr × Obj)) (s : Shared) (σ : St) (H : Hp) (xs : List V) (us : List Value) (Q : VK), Inv X pins σ H s → Vals xs us → r xs H Q →
    wpAny (model X.prog X.w) X.A (call f us) (EP X pins σ Q) X.xe s

def tOp (r : R2) (ta tb : TE) : TE := fun σ H Q => ta σ H fun x H1 => tb σ H1 fun y H2 => r x y H2 Q
def tUn (r : V → Hp → VK → Prop) (ta : TE) : TE := fun σ H Q => ta σ H fun x H1 => r x H1 Q
/-- ints in, under C, and a value out -/
def rI (C : Int → Int → Prop) (g : Int → Int → V) : R2 := fun x y H Q => ∃ i j, x = .int i ∧ y = .int j ∧ C i j ∧ Q (g i j) H
def rI0 (g : Int → Int → V) : R2 := fun x y H Q => ∃ i j, x = .int i ∧ y = .int j ∧ Q (g i j) H
def rU (g : Int → V) : V → Hp → VK → Prop := fun x H Q => ∃ i, x = .int i ∧ Q (g i) H

section
variable {X : Cx} {a b c : Expr} {ta tb tc : TE} {pos : Pos}

theorem binT (ha : PE X a ta) (hb : PE X b tb) {pins : List (Addr × Obj)} {s : Shared} {σ : St} {H : Hp} {R : V → V → Hp → Prop} (I : Inv X pins σ H s)
    (h : ta σ H fun x H1 => tb σ H1 fun y H2 => R x y H2) {Q : Value → Shared → Prop} {f : Value → Value → Sem Value}
    (hf : ∀ v u s2 x y H2, Inv X pins σ H2 s2 → RelV x v → RelV y u → R x y H2 → wpAny (model X.prog X.w) X.A (f v u) Q X.xe s2) :
    wpAny (model X.prog X.w) X.A (eval a X.env) (fun v s₁ => wpAny (model X.prog X.w) X.A (eval b X.env) (fun u s₂ => wpAny (model X.prog X.w) X.A (f v u) Q X.xe s₂) X.xe s₁) X.xe s := by
  refine thn (ha pins s σ H _ I h) fun v s1 ⟨x, H1, I1, r1, q1⟩ => ?_
  refine thn (hb pins s1 σ H1 _ I1 q1) fun u s2 ⟨y, H2, I2, r2, q2⟩ => ?_
  exact hf v u s2 x y H2 I2 r1 r2 q2

theorem pe_op {op : Operator} {r : R2} (ho : OpR X (binaryOp op) r) (ha : PE X a ta) (hb : PE X b tb) : PE X (.BinOp a op b pos) (tOp r ta tb) := by
  intro pins s σ H Q I h
  exact wpAny_BinOp (binT ha hb I h fun v u s2 x y H2 I2 rx ry q => ho pins s2 σ H2 x y v u Q I2 rx ry q)
theorem pe_un {op : UnaryOp} {r : V → Hp → VK → Prop} (ho : UnR X (unaryOp op) r) (ha : PE X a ta) : PE X (.UnaryOp op a pos) (tUn r ta) := by
  intro pins s σ H Q I h
  exact UnaryOp_ (thn (ha pins s σ H _ I h) fun v s1 ⟨x, H1, I1, r1, q1⟩ => ho pins s1 σ H1 x v Q I1 r1 q1)

/-! ### ints -/
theorem opI {f : Value → Value → Sem Value} {C : Int → Int → Prop} {g : Int → Int → Int}
    (rule : ∀ (i j : Int) (t u : Tok) (s : Shared) (Q : Value → Shared → Prop) (E : Value → Shared → Prop), C i j → Q (.int (g i j) s.toks) { s with toks := s.toks + 1 } → wpAny (model X.prog X.w) X.A (f (.int i t) (.int j u)) Q E s) :
    OpR X f (rI C fun i j => .int (g i j)) := by
  intro pins s σ H x y v u Q I rx ry h
  obtain ⟨i, j, rfl, rfl, hc, q⟩ := h
  obtain ⟨t, rfl⟩ := rx
  obtain ⟨t', rfl⟩ := ry
  exact rule i j t t' s _ _ hc ⟨.int (g i j), H, I.tok _, ⟨_, rfl⟩, q⟩
theorem opI0 {f : Value → Value → Sem Value} {g : Int → Int → Int}
    (rule : ∀ (i j : Int) (t u : Tok) (s : Shared) (Q : Value → Shared → Prop) (E : Value → Shared → Prop), Q (.int (g i j) s.toks) { s with toks := s.toks + 1 } → wpAny (model X.prog X.w) X.A (f (.int i t) (.int j u)) Q E s) :
    OpR X f (rI0 fun i j => .int (g i j)) := by
  intro pins s σ H x y v u Q I rx ry h
  obtain ⟨i, j, rfl, rfl, q⟩ := h
  obtain ⟨t, rfl⟩ := rx
  obtain ⟨t', rfl⟩ := ry
  exact rule i j t t' s _ _ ⟨.int (g i j), H, I.tok _, ⟨_, rfl⟩, q⟩
theorem opB0 {f : Value → Value → Sem Value} {g : Int → Int → Bool}
    (rule : ∀ (i j : Int) (t u : Tok) (s : Shared) (Q : Value → Shared → Prop) (E : Value → Shared → Prop), Q (.bool (g i j)) s → wpAny (model X.prog X.w) X.A (f (.int i t) (.int j u)) Q E s) :
    OpR X f (rI0 fun i j => .bl (g i j)) := by
  intro pins s σ H x y v u Q I rx ry h
  obtain ⟨i, j, rfl, rfl, q⟩ := h
  obtain ⟨t, rfl⟩ := rx
  obtain ⟨t', rfl⟩ := ry
  exact rule i j t t' s _ _ ⟨.bl (g i j), H, I, rfl, q⟩

def CDiv (i j : Int) : Prop := 0 < j ∧ j < 1073741824
def CPow (i j : Int) : Prop := 0 ≤ j ∧ j ≤ 1000000 ∧ i.natAbs < 2 ^ 64
def CMul (i j : Int) : Prop := (-(2 ^ 64) < i ∧ i < 2 ^ 64) ∨ (-(2 ^ 64) < j ∧ j < 2 ^ 64)
theorem CMul.ok {i j : Int} (h : CMul i j) : IntMulOk i j := by
  rcases h with ⟨h1, h2⟩ | ⟨h1, h2⟩
  · exact .of_left (intBits_le_64 h1 h2)
  · exact .of_right (intBits_le_64 h1 h2)
theorem two_pow_nn (k : Nat) : (0 : Int) ≤ 2 ^ k := by
  rw [two_pow_cast]
  exact Int.natCast_nonneg _

theorem op_add : OpR X (binaryOp .Add) (rI0 fun i j => .int (i + j)) := opI0 fun _ _ _ _ _ _ _ q => add_int q
theorem op_sub : OpR X (binaryOp .Sub) (rI0 fun i j => .int (i - j)) := opI0 fun _ _ _ _ _ _ _ q => sub_int q
theorem op_mul : OpR X (binaryOp .Mult) (rI CMul fun i j => .int (i * j)) := opI fun _ _ _ _ _ _ _ hc q => mul_int q hc.ok
/-- // by a positive divisor -/
theorem op_fdiv : OpR X (binaryOp .FloorDiv) (rI CDiv fun i j => .int (i / j)) := opI fun i j _ _ _ _ _ hc q => by
  have h1 : (0 : Int) < j := hc.1
  have h2 : j < 1073741824 := hc.2
  exact floordiv_int (by omega) (by rw [Int.fdiv_eq_ediv_of_nonneg i (by omega)]; exact q) (.inl (PyProof.noPylong_small (by omega)))
/-- % by a positive divisor of any size -/
theorem op_mod : OpR X (binaryOp .Mod) (rI (fun _ j => 0 < j) fun i j => .int (i % j)) := opI fun i j _ _ _ _ _ hc q => by
  have h1 : (0 : Int) < j := hc
  exact mod_int' (by omega) (by rw [Int.fmod_eq_emod_of_nonneg i (by omega)]; exact q)
theorem op_shl : OpR X (binaryOp .LShift) (rI CPow fun i j => .int (i * 2 ^ j.toNat)) := opI fun _ _ _ _ _ _ _ hc q => lshift_int_small hc.1 hc.2.1 hc.2.2 q
theorem op_shr : OpR X (binaryOp .RShift) (rI (fun _ j => 0 ≤ j) fun i j => .int (i / 2 ^ j.toNat)) := opI fun i j _ _ _ _ _ hc q =>
  rshift_int hc (by rw [Int.fdiv_eq_ediv_of_nonneg i (two_pow_nn _)]; exact q)
theorem op_and : OpR X (binaryOp .BitAnd) (rI0 fun i j => .int (Builtin.bitAnd i j)) := opI0 fun _ _ _ _ _ _ _ q => and_int q


theorem unI {f : Value → Sem Value} {g : Int → Int}
    (rule : ∀ (i : Int) (t : Tok) (s : Shared) (Q : Value → Shared → Prop) (E : Value → Shared → Prop), Q (.int (g i) s.toks) { s with toks := s.toks + 1 } → wpAny (model X.prog X.w) X.A (f (.int i t)) Q E s) :
    UnR X f (rU fun i => .int (g i)) := by
  intro pins s σ H x v Q I rx h
  obtain ⟨i, rfl, q⟩ := h
  obtain ⟨t, rfl⟩ := rx
  exact rule i t s _ _ ⟨.int (g i), H, I.tok _, ⟨_, rfl⟩, q⟩
theorem un_neg : UnR X (unaryOp .USub) (rU fun i => .int (-i)) := unI fun _ _ _ _ _ q => neg_int q

end



section
variable {X : Cx} {a b c : Expr} {ta tb tc : TE} {pos : Pos}

theorem op_lt : OpR X (compareOp .Lt) (rI0 fun i j => .bl (decide (i < j))) := opB0 fun _ _ _ _ _ _ _ q => lt_int q
theorem op_le : OpR X (compareOp .LtE) (rI0 fun i j => .bl (decide (i ≤ j))) := opB0 fun _ _ _ _ _ _ _ q => le_int q
theorem op_gt : OpR X (compareOp .Gt) (rI0 fun i j => .bl (decide (j < i))) := opB0 fun _ _ _ _ _ _ _ q => gt_int q
theorem op_ge : OpR X (compareOp .GtE) (rI0 fun i j => .bl (decide (j ≤ i))) := opB0 fun _ _ _ _ _ _ _ q => ge_int q




theorem nomark (b : Expr) {op : CmpOp} (h : op ≠ .In := by decide) (h2 : op ≠ .NotIn := by decide) : behindInMarks op b = false := by
  have e1 : (op == CmpOp.In) = false := by cases op <;> first | rfl | exact absurd rfl h
  have e2 : (op == CmpOp.NotIn) = false := by cases op <;> first | rfl | exact absurd rfl h2
  cases b <;> simp [behindInMarks, e1, e2]
/-- a comparison as a value; hm: nomark b, or (for in, not in) by with_unfolding_all rfl -/
theorem pe_cmpR {op : CmpOp} {r : R2} (ho : OpR X (compareOp op) r) (ha : PE X a ta) (hb : PE X b tb) (hm : behindInMarks op b = false) : PE X (.Compare a [op] [b] pos) (tOp r ta tb) := by
  intro pins s σ H Q I h
  exact wpAny_Compare1 (binT ha hb I h fun v u s2 x y H2 I2 rx ry q => ho pins s2 σ H2 x y v u Q I2 rx ry q) hm
/-- a reading of a value as a test -/
def tTest (t : TE) : TT := fun σ H Q => t σ H fun x H' => ∃ k, x = .bl k ∧ Q k H'
theorem pt_cmpR {op : CmpOp} {r : R2} (ho : OpR X (compareOp op) r) (ha : PE X a ta) (hb : PE X b tb) (hm : behindInMarks op b = false) : PT X (.Compare a [op] [b] pos) (tTest (tOp r ta tb)) := by
  intro pins s σ H Q I h
  refine wpAny_isTrue_Compare1 (thn (ha pins s σ H _ I h) fun v s1 ⟨x, H1, I1, r1, q1⟩ => thn (hb pins s1 σ H1 _ I1 q1) fun u s2 ⟨y, H2, I2, r2, q2⟩ =>
    thn (ho pins s2 σ H2 x y v u _ I2 r1 r2 q2) fun c s3 ⟨z, H3, I3, r3, k, e, q3⟩ => ?_) hm
  subst e
  cases r3
  exact wpAny_truthy_bool ⟨H3, I3, q3⟩
/-- a op1 b op2 c -/
def tChain (r r' : R2) (ta tb tc : TE) : TE := fun σ H Q => ta σ H fun x H1 => tb σ H1 fun y H2 => r x y H2 fun z H3 => ∃ k, z = .bl k ∧
  (if k = true then tc σ H3 fun w' H4 => r' y w' H4 Q else Q (.bl false) H3)
theorem pe_chain {op op' : CmpOp} {r r' : R2} (ho : OpR X (compareOp op) r) (ho' : OpR X (compareOp op') r') (ha : PE X a ta) (hb : PE X b tb) (hc : PE X c tc)
    (hm : lastMarks [op, op'] [b, c] = false := by with_unfolding_all rfl) : PE X (.Compare a [op, op'] [b, c] pos) (tChain r r' ta tb tc) := by
  intro pins s σ H Q I h
  refine Compare_chain (thn (ha pins s σ H _ I h) fun v s1 ⟨x, H1, I1, r1, q1⟩ => chain_link (thn (hb pins s1 σ H1 _ I1 q1) fun u s2 ⟨y, H2, I2, r2, q2⟩ =>
    thn (ho pins s2 σ H2 x y v u _ I2 r1 r2 q2) fun d s3 ⟨z, H3, I3, r3, k, e, q3⟩ => ?_)) hm
  subst e
  cases r3
  refine wpAny_truthy_bool ?_
  cases k with
  | false => exact ite_ff ⟨.bl false, H3, I3, rfl, q3⟩
  | true => exact ite_tt (chain_last (thn (hc pins s3 σ H3 _ I3 q3) fun w' s4 ⟨z', H4, I4, r4, q4⟩ => ho' pins s4 σ H4 y z' u w' Q I4 r2 r4 q4))
theorem pt_chain {op op' : CmpOp} {r r' : R2} (ho : OpR X (compareOp op) r) (ho' : OpR X (compareOp op') r') (ha : PE X a ta) (hb : PE X b tb) (hc : PE X c tc)
    (hm : lastMarks [op, op'] [b, c] = false := by with_unfolding_all rfl) : PT X (.Compare a [op, op'] [b, c] pos) (tTest (tChain r r' ta tb tc)) := by
  intro pins s σ H Q I h
  refine isTrue_chain (thn (ha pins s σ H _ I h) fun v s1 ⟨x, H1, I1, r1, q1⟩ => test_link (thn (hb pins s1 σ H1 _ I1 q1) fun u s2 ⟨y, H2, I2, r2, q2⟩ =>
    thn (ho pins s2 σ H2 x y v u _ I2 r1 r2 q2) fun d s3 ⟨z, H3, I3, r3, k, e, q3⟩ => ?_)) hm
  subst e
  cases r3
  refine wpAny_truthy_bool ?_
  cases k with
  | false =>
    obtain ⟨k', e', q'⟩ := q3
    cases e'
    exact ite_ff ⟨H3, I3, q'⟩
  | true =>
    refine ite_tt (test_last (thn (hc pins s3 σ H3 _ I3 q3) fun w' s4 ⟨z', H4, I4, r4, q4⟩ => thn (ho' pins s4 σ H4 y z' u w' _ I4 r2 r4 q4) fun d' s5 ⟨z2, H5, I5, r5, k2, e2, q5⟩ => ?_))
    subst e2
    cases r5
    exact wpAny_truthy_bool ⟨H5, I5, q5⟩

theorem line63 : (sizeLine : Nat) < 2 ^ 63 := by rw [sizeLine_eq]; decide



/-! ### scalar builtins, by CallR -/
theorem vals1 {x : V} {us : List Value} (r : Vals [x] us) : ∃ u, us = [u] ∧ RelV x u := by
  cases r with
  | cons r1 r2 => cases r2; exact ⟨_, rfl, r1⟩
end
end L2

namespace L2
open PySem PySem.Spec PyProof.Rows

/-! ### an instance, its attributes a map -/
structure ObjM (h : Heap) (x dx C : Addr) (mA : Str → Option Value) : Prop where
  obj : h.get? x = some (PySem.W.instObj C dx)
  ns : h.Ns1 dx mA
  ne : dx ≠ x

theorem lookIn_ns {h : Heap} {dx : Addr} {mA : Str → Option Value} (n : h.Ns1 dx mA) : ∃ od, h.get? dx = some od ∧ ∀ name, PySem.W.lookIn name od = some (mA name) := by
  obtain ⟨o, es, ep, ho, hd, hk, _, hm⟩ := n
  refine ⟨o, ho, fun name => ?_⟩
  have e := hm name
  unfold nsFind findBy at e
  rw [← Array.find?_toList] at e
  unfold PySem.W.lookIn
  rw [hd]
  dsimp only
  split
  · rename_i y q
    rw [q] at e
    exact congrArg some e
  · rename_i q
    rw [q] at e
    have a : es.toList.any (·.refKey) = false := by
      rw [List.any_eq_false]
      intro y hy
      obtain ⟨z, t, hkey⟩ := hk y (Array.mem_toList_iff.mp hy)
      simp [DictEntry.refKey, hkey]
    have a' : ¬ es.toList.any (·.refKey) = true := by rw [a]; exact Bool.false_ne_true
    rw [if_neg a']
    exact congrArg some e

theorem ObjM.look {h : Heap} {x dx C : Addr} {mA : Str → Option Value} (I : ObjM h x dx C mA) : ∃ od, PySem.W.InstAt h x (PySem.W.instObj C dx) C (some od) ∧ ∀ name, PySem.W.lookIn name od = some (mA name) :=
  let ⟨od, ho, hl⟩ := lookIn_ns I.ns
  ⟨od, ⟨I.obj, rfl, rfl, ho⟩, hl⟩

section
variable {prog : Program} {w : World} {A : Around} {E : Value → Shared → Prop} {s : Shared} {K : PySem.W.Frag} {x dx C f : Addr} {mA : Str → Option Value} {name : Str} {v : Value}

theorem get_map {expr : Bool} {Q : Value → Shared → Prop} (X : K.In s.heap) (I : ObjM s.heap x dx C mA) (hg : PySem.W.plainGet K C name = true) (hh : PySem.W.hasDictIn K C = true)
    (ha : PySem.W.findIn K (.ref C) name = some none) (hv : mA name = some v) (hv' : PySem.W.handedIn v = true) (h : Q v { s with toks := s.toks + 1 }) :
    wpAny (model prog w) A (getAttr (.ref x) name expr) Q E s := by
  obtain ⟨od, J, hl⟩ := I.look
  exact PySem.W.get_value X J (PySem.W.plainGet_of hg).1 (PySem.W.findObj_own hh ha rfl (by rw [hl, hv])) hv' h


theorem get_meth {pl : Sem Bool} {Q : Value × List Value → Shared → Prop} (X : K.In s.heap) (I : ObjM s.heap x dx C mA) (hg : PySem.W.plainGet K C name = true)
    (hf : PySem.W.findIn K (.ref C) name = some (some (.ref f))) (ht : PySem.W.isFn K (.ref f) = true) (hv : mA name = none) (h : Q (.ref f, [.ref x]) s) :
    wpAny (model prog w) A (getMethod (.ref x) name pl) Q E s := by
  obtain ⟨od, J, hl⟩ := I.look
  exact PySem.W.method_fn X J (PySem.W.plainGet_of hg).1 (PySem.W.plainGet_of hg).2 hf (beq_iff_eq.mp ht) (by show (PySem.W.lookIn name od).map (·.isSome) = some false; rw [hl, hv]; rfl) h

theorem set_map {ns : List Str} {Q : Unit → Shared → Prop} (X : K.In s.heap) (I : ObjM s.heap x dx C mA)
    (hs : PySem.W.findIn K (.ref C) "__setattr__" = some (some (.builtin "object.__setattr__"))) (hp : PySem.W.plainOver K C = true) (ht : PySem.W.takerIn K C name = some none) (hh : PySem.W.hasDictIn K C = true)
    (hw : PySem.Within mA ns) (hsz : ns.length ≤ sizeLine)
    (h : ∀ h', ObjM h' x dx C (fun y => if y = name then some v else mA y) → Heap.SameBut dx s.heap h' → Q () { s with heap := h', toks := s.toks + 2 }) :
    wpAny (model prog w) A (setAttr (.ref x) name v) Q E s := by
  obtain ⟨od, J, hl⟩ := I.look
  refine PySem.W.set_plain X J hs (PySem.W.osa_open (s := { s with toks := s.toks + 1 }) (r := none) X J hp ht fun b => ?_)
  obtain ⟨cd, hc, hd'⟩ := PySem.W.any_some hh
  have hx : s.heap.get? x = some ⟨.ref C, some dx, .plain, #[]⟩ := I.obj
  refine wpAny_bind (wpAny_pure (wpAny_bind (wpAny_bind (wpAny_loadPart hx (wpAny_bind (PySem.W.Looks.here (s := { s with toks := s.toks + 1 }) (PySem.W.looks_clsIn X hc) ?_))))))
  rw [hd']
  refine wpAny_pure (a := some dx) (wpAny_bind (wpAny_pure (wpAny_bind ?_)))
  refine wpAny_nsSet1 (s := { s with toks := s.toks + 1 }) I.ns fun h' hn2 hs2 => ?_
  obtain ⟨oD, esD, epD, hoD, hdD, hcD⟩ := hn2.count (PySem.Within.cons name v hw)
  refine wpAny_bind (wpAny_lookBehind hoD (by rw [hdD]; exact pastItsLine_dict (Nat.le_trans hcD (by rw [List.length_cons]; omega))) ?_)
  exact wpAny_pure (h _ ⟨(hs2.2 _ (Ne.symm I.ne)).trans I.obj, hn2, I.ne⟩ hs2)

/-- C(..): the dict at the heap's end, the instance behind it; then its __init__ -/
theorem make_map {R : Result → Shared → Prop} {vs : List Value} {kw : List (Str × Value)} (X : K.In s.heap) (hm : PySem.W.makesIn K C = true)
    (hi : PySem.W.findIn K (.ref C) "__init__" = some (some (.ref f))) (hf : PySem.W.typeIn K (.ref f) = some (.type "function"))
    (h : codeAny (model prog w) (A.under (.builtin "type.__call__" ⟨.ref C :: vs, kw⟩)) (.call (.ref f) ⟨.ref (s.heap.objs.size + 1) :: vs, kw⟩) (PySem.W.InitBack (s.heap.objs.size + 1) R)
      { s with heap := (s.heap.push PySem.W.emptyDict).push (PySem.W.instObj C s.heap.objs.size) }) :
    codeAny (model prog w) A (.call (.ref C) ⟨vs, kw⟩) R s := by
  obtain ⟨hh, g, d, t, os⟩ := s
  exact PySem.W.make_core (PySem.W.makes_of X hm) (PySem.W.looks_findIn X hi) (fun self => PySem.W.bind_fn X self hf) (.inl rfl) h
end

/-! ### the attributes as a list of pairs -/
def putF (f : Str) (v : V) : List (Str × V) → List (Str × V)
  | [] => [(f, v)]
  | (g, x) :: r => if g = f then (g, v) :: r else (g, x) :: putF f v r
theorem lookup_putF (f g : Str) (v : V) : ∀ fs : List (Str × V), (putF f v fs).lookup g = if g = f then some v else fs.lookup g
  | [] => by
    show List.lookup g [(f, v)] = _
    by_cases h : g = f
    · have hb : (g == f) = true := beq_iff_eq.mpr h
      simp only [List.lookup, hb, if_pos h]
    · have hb : (g == f) = false := beq_eq_false_iff_ne.mpr h
      simp only [List.lookup, hb, if_neg h]
  | (k, x) :: r => by
    have ih := lookup_putF f g v r
    rw [show putF f v ((k, x) :: r) = (if k = f then (k, v) :: r else (k, x) :: putF f v r) from rfl]
    by_cases hk : k = f
    · rw [if_pos hk]
      by_cases h : g = k
      · have hb : (g == k) = true := beq_iff_eq.mpr h
        simp only [List.lookup, hb, if_pos (h.trans hk)]
      · have hb : (g == k) = false := beq_eq_false_iff_ne.mpr h
        simp only [List.lookup, hb, if_neg (fun e : g = f => h (e.trans hk.symm))]
    · rw [if_neg hk]
      by_cases h : g = k
      · have hb : (g == k) = true := beq_iff_eq.mpr h
        simp only [List.lookup, hb, if_neg (fun e : g = f => hk (h.symm.trans e))]
      · have hb : (g == k) = false := beq_eq_false_iff_ne.mpr h
        simp only [List.lookup, hb]
        exact ih
theorem keys_putF (f : Str) (v : V) : ∀ fs : List (Str × V), f ∈ (putF f v fs).map (·.1) ∧ ∀ g, g ∈ fs.map (·.1) → g ∈ (putF f v fs).map (·.1)
  | [] => ⟨by simp [putF], fun g h => by simp at h⟩
  | (k, x) :: r => by
    obtain ⟨i1, i2⟩ := keys_putF f v r
    rw [show putF f v ((k, x) :: r) = (if k = f then (k, v) :: r else (k, x) :: putF f v r) from rfl]
    by_cases hk : k = f
    · rw [if_pos hk]
      subst hk
      exact ⟨by simp, fun g h => by simpa using h⟩
    · rw [if_neg hk]
      refine ⟨?_, fun g h => ?_⟩
      · rw [List.map_cons]
        exact List.mem_cons_of_mem _ i1
      · rw [List.map_cons] at h ⊢
        rcases List.mem_cons.mp h with e | e
        · exact List.mem_cons.mpr (.inl e)
        · exact List.mem_cons_of_mem _ (i2 g e)
theorem length_putF (f : Str) (v : V) : ∀ fs : List (Str × V), (putF f v fs).length ≤ fs.length + 1
  | [] => by simp [putF]
  | (k, x) :: r => by
    have ih := length_putF f v r
    rw [show putF f v ((k, x) :: r) = (if k = f then (k, v) :: r else (k, x) :: putF f v r) from rfl]
    by_cases hk : k = f
    · rw [if_pos hk, List.length_cons, List.length_cons]; omega
    · rw [if_neg hk, List.length_cons, List.length_cons]; omega

theorem RelO.some_of {v : V} {o : Option Value} (r : RelO (some v) o) : ∃ u, o = some u ∧ RelV v u := by
  cases o with
  | none => exact (show False from r).elim
  | some u => exact ⟨u, rfl, r⟩
theorem RelO.none_of {o : Option Value} (r : RelO none o) : o = none := by
  cases o with
  | none => rfl
  | some u => exact (show False from r).elim
theorem handed_of {v : V} {u : Value} (r : RelV v u) : PySem.W.handedIn u = true := by
  cases v with
  | non => cases (show u = Value.none from r); rfl
  | bl b => cases (show u = Value.bool b from r); rfl
  | int i => obtain ⟨t, e⟩ := (show ∃ t, u = Value.int i t from r); cases e; rfl
  | str x => obtain ⟨t, e⟩ := (show ∃ t, u = Value.str x t from r); cases e; rfl
  | byt b => obtain ⟨t, e⟩ := (show ∃ t, u = Value.bytes b t from r); cases e; rfl
  | flt b => obtain ⟨t, e⟩ := (show ∃ t, u = Value.float b t from r); cases e; rfl
  | ref a => cases (show u = Value.ref a from r); rfl
  | ty n => cases (show u = Value.type n from r); rfl

section
variable {P : Program} {w : World} {H H' : Hp} {h h' : Heap} {a C dx : Addr} {fs fs' : List (Str × V)}
theorem ins_get (hok : HOk P w H h) (e : H a = some (.ins C dx fs)) : ∃ mA, ObjM h a dx C mA ∧ (∀ f, RelO (fs.lookup f) (mA f)) ∧ PySem.Within mA (fs.map (·.1)) ∧ fs.length ≤ 1000 ∧ H dx = some (.own a) := by
  obtain ⟨d, z, ne, ob, mA, n, r, q⟩ := (show ObjOk P w H h a (.ins C dx fs) from hok a _ e)
  exact ⟨mA, ⟨ob, n, ne⟩, r, q, z, d⟩
end

/-! ### what of the text a class must have -/
structure Cls (K : PySem.W.Frag) (C : Addr) : Prop where
  pg : PySem.W.plainGet K C Str.empty = true
  hd : PySem.W.hasDictIn K C = true
  po : PySem.W.plainOver K C = true
  sa : PySem.W.findIn K (.ref C) "__setattr__" = some (some (.builtin "object.__setattr__"))
theorem Cls.get {K : PySem.W.Frag} {C : Addr} (c : Cls K C) (f : Str) : PySem.W.plainGet K C f = true := c.pg
/-- no class of it has the name -/
def NoAttr (K : PySem.W.Frag) (C : Addr) (f : Str) : Prop := PySem.W.findIn K (.ref C) f = some none
theorem NoAttr.taker {K : PySem.W.Frag} {C : Addr} {f : Str} (n : NoAttr K C f) : PySem.W.takerIn K C f = some none := by
  unfold PySem.W.takerIn
  rw [show PySem.W.findIn K (.ref C) f = some none from n]
  rfl
/-- a method: a plain def of the class or of one above it -/
structure Meth (K : PySem.W.Frag) (C : Addr) (m : Str) (f : Addr) : Prop where
  at_ : PySem.W.findIn K (.ref C) m = some (some (.ref f))
  fn : PySem.W.isFn K (.ref f) = true
  kp : PySem.W.keepIn K (.ref f) = true

section
variable {X : Cx} {pins : List (Addr × Obj)} {σ : St} {H : Hp} {s : Shared} {a C dx : Addr} {fs : List (Str × V)} {f : Str} {v : V} {A : Around} {E : Value → Shared → Prop}

theorem getattr_ok {b : Bool} {Q : Value → Shared → Prop} (I : Inv X pins σ H s) (e : H a = some (.ins C dx fs)) (c : Cls X.K C) (n : NoAttr X.K C f) (l : fs.lookup f = some v)
    (h : ∀ u s', Inv X pins σ H s' → RelV v u → Q u s') : wpAny (model X.prog X.w) A (getAttr (.ref a) f b) Q E s := by
  obtain ⟨mA, O, r, _, _, _⟩ := ins_get I.hok e
  obtain ⟨u, hu, ru⟩ := RelO.some_of (v := v) (o := mA f) (by rw [← l]; exact r f)
  exact get_map I.kIn O (c.get f) c.hd n hu (handed_of ru) (h u _ (I.tok _) ru)


theorem getmeth_ok {m : Str} {g : Addr} {pl : Sem Bool} {Q : Value × List Value → Shared → Prop} (I : Inv X pins σ H s) (e : H a = some (.ins C dx fs)) (c : Cls X.K C) (k : Meth X.K C m g) (l : fs.lookup m = none)
    (h : Q (.ref g, [.ref a]) s) : wpAny (model X.prog X.w) A (getMethod (.ref a) m pl) Q E s := by
  obtain ⟨mA, O, r, _, _, _⟩ := ins_get I.hok e
  have hn : mA m = none := RelO.none_of (by rw [← l]; exact r m)
  exact get_meth I.kIn O (c.get m) k.at_ k.fn hn h

theorem setattr_ok {y : V} {u : Value} {Q : Unit → Shared → Prop} (I : Inv X pins σ H s) (e : H a = some (.ins C dx fs)) (c : Cls X.K C) (n : NoAttr X.K C f) (hl : fs.length < 1000) (ry : RelV y u)
    (h : ∀ s', Inv X pins σ (upd H a (.ins C dx (putF f y fs))) s' → Q () s') : wpAny (model X.prog X.w) A (setAttr (.ref a) f u) Q E s := by
  obtain ⟨mA, O, r, wi, _, ho⟩ := ins_get I.hok e
  have hz : (fs.map (·.1)).length ≤ sizeLine := by rw [List.length_map, sizeLine_eq]; omega
  refine set_map I.kIn O c.sa c.po n.taker c.hd wi hz fun h' O' sb => h _ ?_
  have hd : ∃ o, h'.get? dx = some o := let ⟨o, _, _, e', _⟩ := O'.ns; ⟨o, e'⟩
  refine I.write (x := a) (e := dx) (by rw [e]; exact True.intro) (.inr ho) (fun b q hb z => (sb.2 b hb).trans z) hd ?_
  refine ⟨by rw [upd_ne O.ne]; exact ho, ?_, O.ne, O'.obj, _, O'.ns, fun g => ?_, fun g hg => ?_⟩
  · have := length_putF f y fs; omega
  · show RelO ((putF f y fs).lookup g) (if g = f then some u else mA g)
    rw [lookup_putF]
    by_cases q : g = f
    · rw [if_pos q, if_pos q]; exact ry
    · rw [if_neg q, if_neg q]; exact r g
  · by_cases q : g = f
    · rw [q]; exact (keys_putF f y fs).1
    · refine (keys_putF f y fs).2 g (wi g fun z => hg ?_)
      show (if g = f then some u else mA g) = none
      rw [if_neg q]; exact z

/-- a new instance, tracked, without attributes -/
theorem Inv.made (I : Inv X pins σ H s) : Inv X pins σ (upd (upd H s.heap.objs.size (.own (s.heap.objs.size + 1))) (s.heap.objs.size + 1) (.ins C s.heap.objs.size []))
    { s with heap := (s.heap.push PySem.W.emptyDict).push (PySem.W.instObj C s.heap.objs.size) } := by
  have e1 : (s.heap.push PySem.W.emptyDict).get? s.heap.objs.size = some PySem.W.emptyDict := Heap.get?_push_size s.heap rfl
  have e2 : ((s.heap.push PySem.W.emptyDict).push (PySem.W.instObj C s.heap.objs.size)).get? (s.heap.objs.size + 1) = some (PySem.W.instObj C s.heap.objs.size) := by
    have := Heap.get?_push_size (s.heap.push PySem.W.emptyDict) (o := PySem.W.instObj C s.heap.objs.size) rfl
    rwa [Heap.size_push] at this
  have e3 : (s.heap.push PySem.W.emptyDict).Ns s.heap.objs.size (fun _ => none) := ⟨PySem.W.emptyDict, #[], _, e1, rfl, (fun e he => absurd he (by simp)), fun _ => rfl⟩
  have I1 := I.laid (a := s.heap.objs.size) (o := .own (s.heap.objs.size + 1)) (h' := s.heap.push PySem.W.emptyDict) (t' := s.toks) (fun b u q => Heap.get?_push_of_some _ q) (Nat.le_refl _) ⟨_, e1⟩
  refine I1.laid (a := s.heap.objs.size + 1) (o := .ins C s.heap.objs.size []) (t' := s.toks) (fun b u q => Heap.get?_push_of_some _ q) (Nat.le_of_eq (Heap.size_push _ _)) ?_
  have ne : s.heap.objs.size ≠ s.heap.objs.size + 1 := Nat.ne_of_lt (Nat.lt_succ_self _)
  refine ⟨by rw [upd_ne ne, upd_same], Nat.zero_le _, ne, e2, fun _ => none, (Heap.Ns1.of_empty e3).at fun o q => Heap.get?_push_of_some _ q, fun _ => True.intro, fun y hy => absurd rfl hy⟩

/-- e.f where nothing but the object is asked: through attributeBase (super) and the last hold -/
theorem attr_of {prog : Program} {w : World} {env : Env} {e : Expr} {f : Str} {pos : Pos} {s : Shared} {Q : Value → Shared → Prop} (hb : attributeBase e f env (eval e env) = eval e env)
    (h : wpAny (model prog w) A (eval e env) (fun o s₁ => wpAny (model prog w) A (getAttr o f true) Q E s₁) E s) : wpAny (model prog w) A (eval (.Attribute e f pos) env) Q E s :=
  Attribute_any_ h (by rw [arm_eval_Attribute, hb])
end

/-! ### readings and rules -/
/-- e.f, an attribute of the instance -/
def tFld (K : PySem.W.Frag) (ta : TE) (f : Str) : TE := fun σ H Q => ta σ H fun x H1 => ∃ a C dx fs v, x = .ref a ∧ H1 a = some (.ins C dx fs) ∧ Cls K C ∧ NoAttr K C f ∧ fs.lookup f = some v ∧ Q v H1
/-- e.f = value -/
def sFld (K : PySem.W.Frag) (ta tv : TE) (f : Str) : TS := fun D σ H => tv σ H fun y H1 => ta σ H1 fun x H2 => ∃ a C dx fs, x = .ref a ∧ H2 a = some (.ins C dx fs) ∧ Cls K C ∧ NoAttr K C f ∧ fs.length < 1000 ∧
  D.nx σ (upd H2 a (.ins C dx (putF f y fs)))
/-- an augmented operator on two values -/
def InOp (X : Cx) (op : Operator) (rd : V → V → Hp → VK → Prop) : Prop :=
  ∀ (pins : List (Addr × Obj)) (s : Shared) (σ : St) (H : Hp) (x y : V) (u v : Value) (Q : VK), Inv X pins σ H s → RelV x u → RelV y v → rd x y H Q → wpAny (model X.prog X.w) X.A (inplaceOp op u v) (EP X pins σ Q) X.xe s
/-- e.f op= value -/
def sFldAug (K : PySem.W.Frag) (ta tv : TE) (rd : V → V → Hp → VK → Prop) (f : Str) : TS := fun D σ H => ta σ H fun x H1 => ∃ a C dx fs v, x = .ref a ∧ H1 a = some (.ins C dx fs) ∧ Cls K C ∧ NoAttr K C f ∧ fs.lookup f = some v ∧
  tv σ H1 fun y H2 => rd v y H2 fun z H3 => ∃ dx' fs', H3 a = some (.ins C dx' fs') ∧ fs'.length < 1000 ∧ D.nx σ (upd H3 a (.ins C dx' (putF f z fs')))

section
variable {X : Cx} {o e value : Expr} {f : Str} {pos pos' tpos : Pos} {ta tv : TE}
theorem pe_fld (he : PE X e ta) (hb : attributeBase e f X.env (eval e X.env) = eval e X.env) : PE X (.Attribute e f pos) (tFld X.K ta f) := by
  intro pins s σ H Q I h
  refine attr_of hb (thn (he pins s σ H _ I h) fun u s1 ⟨x, H1, I1, rx, a, C, dx, fs, v, ex, ea, c, n, l, q⟩ => ?_)
  subst ex
  obtain rfl : u = Value.ref a := rx
  exact getattr_ok I1 ea c n l fun u' s2 I2 ru => ⟨v, H1, I2, ru, q⟩
theorem ps_fld (ha : PE X o ta) (hv : PE X value tv) (hs : swapsWith value (some (.Attribute o f pos')) pos.line X.env = pure false) : PS X (.Assign [.Attribute o f pos'] value pos) (sFld X.K ta tv f) := by
  intro pins s σ H D I h
  refine plainObj_wpAny_Assign_Attribute (thn (hv pins s σ H _ I h) fun u s1 ⟨y, H1, I1, ry, q⟩ => thn (ha pins s1 σ H1 _ I1 q) fun ov s2 ⟨x, H2, I2, rx, a, C, dx, fs, ex, ea, c, n, l, q2⟩ => ?_) hs
  subst ex
  obtain rfl : ov = Value.ref a := rx
  exact setattr_ok I2 ea c n l ry fun s3 I3 => ⟨σ, _, I3, q2⟩
theorem ps_fldaug {op : Operator} {rd : V → V → Hp → VK → Prop} (ha : PE X o ta) (hv : PE X value tv) (hop : InOp X op rd) : PS X (.AugAssign (.Attribute o f tpos) op value pos) (sFldAug X.K ta tv rd f) := by
  intro pins s σ H D I h
  refine wpAny_AugAssign_AttributeAny (thn (ha pins s σ H _ I h) fun ov s1 ⟨x, H1, I1, rx, a, C, dx, fs, v, ex, ea, c, n, l, q⟩ => ?_)
  subst ex
  obtain rfl : ov = Value.ref a := rx
  refine getattr_ok I1 ea c n l fun u s2 I2 ru => thn (hv pins s2 σ H1 _ I2 q) fun w3 s3 ⟨y, H2, I3, ry, q3⟩ => thn (hop pins s3 σ H2 v y u w3 _ I3 ru ry q3) fun w4 s4 ⟨z, H3, I4, rz, dx', fs', ea', l', q4⟩ => ?_
  exact setattr_ok I4 ea' c n l' rz fun s5 I5 => ⟨σ, _, I5, q4⟩
def rAdd : V → V → Hp → VK → Prop := fun x y H Q => ∃ i j, x = .int i ∧ y = .int j ∧ Q (.int (i + j)) H
def rSub : V → V → Hp → VK → Prop := fun x y H Q => ∃ i j, x = .int i ∧ y = .int j ∧ Q (.int (i - j)) H
theorem in_add : InOp X .Add rAdd := by
  rintro pins s σ H x y u v Q I rx ry ⟨i, j, rfl, rfl, q⟩
  obtain ⟨t, rfl⟩ := (show ∃ t, u = Value.int i t from rx)
  obtain ⟨t', rfl⟩ := (show ∃ t', v = Value.int j t' from ry)
  exact PyProof.Rows.iadd_int ⟨.int (i + j), H, I.tok _, ⟨_, rfl⟩, q⟩
theorem in_sub : InOp X .Sub rSub := by
  rintro pins s σ H x y u v Q I rx ry ⟨i, j, rfl, rfl, q⟩
  obtain ⟨t, rfl⟩ := (show ∃ t, u = Value.int i t from rx)
  obtain ⟨t', rfl⟩ := (show ∃ t', v = Value.int j t' from ry)
  exact PyProof.Rows.isub_int ⟨.int (i - j), H, I.tok _, ⟨_, rfl⟩, q⟩

end

/-! ### isinstance -/
section
variable {X : Cx} {pins : List (Addr × Obj)} {σ : St} {H : Hp} {s : Shared} {A : Around} {E : Value → Shared → Prop} {Q : Value → Shared → Prop} {c : Value} {b : Bool}
/-- the type of a value, as the fragment's deciders take it; for an instance its class -/
inductive TyOf (K : PySem.W.Frag) (H : Hp) : V → Value → Prop where
  | non : TyOf K H .non (.type "NoneType")
  | bl (x : Bool) : TyOf K H (.bl x) (.type "bool")
  | int (i : Int) : TyOf K H (.int i) (.type "int")
  | str (x : Str) : TyOf K H (.str x) (.type "str")
  | flt (x : UInt64) : TyOf K H (.flt x) (.type "float")
  | lst {a : Addr} {xs : List V} (e : H a = some (.lst xs)) : TyOf K H (.ref a) (.type "list")
  | frz {a : Addr} {o : Obj} {xs : List V} (e : H a = some (.frz o (.lst xs))) : TyOf K H (.ref a) (.type "list")
  | tup {a : Addr} {xs : List V} (e : H a = some (.tup xs)) : TyOf K H (.ref a) (.type "tuple")
  | dK {a : Addr} {kvs : List (Key × V)} (e : H a = some (.dK kvs)) : TyOf K H (.ref a) (.type "dict")
  | dT {a : Addr} {kvs : List (List Key × V)} (e : H a = some (.dT kvs)) : TyOf K H (.ref a) (.type "dict")
  | ins {a C dx : Addr} {fs : List (Str × V)} (e : H a = some (.ins C dx fs)) (cl : Cls K C) (ha : PySem.W.findIn K (.ref C) "__class__" = some (some (.builtin "object.__class__")))
      (hn : PySem.W.specialIn K (.builtin "object.__class__") "__get__" = some (some (.builtin "getset_descriptor.__get__"))) (htk : PySem.W.takesIn K (.builtin "object.__class__") = some true)
      (hm : PySem.W.mroIn K C (.type "object") = some true) : TyOf K H (.ref a) (.ref C)
/-- isinstance(x, c) for one class c, a built-in or an own one: kitOne's answer -/
theorem isinst_ok {x : V} {u t : Value} (I : Inv X pins σ H s) (rx : RelV x u) (ty : TyOf X.K H x t) (e : PySem.W.kitOne X.K t c = some b) (h : ∀ tk, Q (.bool b) { s with toks := tk }) :
    wpAny (model X.prog X.w) A (call (.builtin "isinstance") [u, c]) Q E s := by
  cases ty with
  | non => cases (show u = Value.none from rx); exact PySem.W.kia_one PySem.W.kitx_none I.kIn True.intro e (fun z => nomatch z) h
  | bl y => cases (show u = Value.bool y from rx); exact PySem.W.kia_one PySem.W.kitx_bool I.kIn True.intro e (fun z => nomatch z) h
  | int i => obtain ⟨t, q⟩ := (show ∃ t, u = Value.int i t from rx); cases q; exact PySem.W.kia_one PySem.W.kitx_int I.kIn True.intro e (fun z => nomatch z) h
  | str y => obtain ⟨t, q⟩ := (show ∃ t, u = Value.str y t from rx); cases q; exact PySem.W.kia_one PySem.W.kitx_str I.kIn True.intro e (fun z => nomatch z) h
  | flt y => obtain ⟨t, q⟩ := (show ∃ t, u = Value.float y t from rx); cases q; exact PySem.W.kia_one PySem.W.kitx_float I.kIn True.intro e (fun z => nomatch z) h
  | @lst a xs ea =>
    cases (show u = Value.ref a from rx)
    obtain ⟨_, _, n, _, h1⟩ := (show ObjOk X.prog X.w H s.heap a (.lst xs) from I.hok a _ ea)
    exact PySem.W.kia_one PySem.W.kitx_list I.kIn ⟨_, h1, rfl⟩ e (fun z => nomatch z) h
  | @frz a ob xs ea =>
    cases (show u = Value.ref a from rx)
    obtain ⟨_, _, _, n, _, h1⟩ := (show ObjOk X.prog X.w H s.heap a (.frz ob (.lst xs)) from I.hok a _ ea)
    exact PySem.W.kia_one PySem.W.kitx_list I.kIn ⟨_, h1, rfl⟩ e (fun z => nomatch z) h
  | @tup a xs ea =>
    cases (show u = Value.ref a from rx)
    obtain ⟨_, _, _, p⟩ := (show ObjOk X.prog X.w H s.heap a (.tup xs) from I.hok a _ ea)
    obtain ⟨o, h1, h2, _⟩ := p
    exact PySem.W.kia_one PySem.W.kitx_tuple I.kIn ⟨o, h1, h2⟩ e (fun z => nomatch z) h
  | @dK a kvs ea =>
    cases (show u = Value.ref a from rx)
    obtain ⟨_, _, vs, _, p⟩ := (show ObjOk X.prog X.w H s.heap a (.dK kvs) from I.hok a _ ea)
    obtain ⟨o, es, ep, h1, h2, _⟩ := p
    exact PySem.W.kia_one PySem.W.kitx_dict I.kIn ⟨o, h1, h2.1⟩ e (fun z => nomatch z) h
  | @dT a kvs ea =>
    cases (show u = Value.ref a from rx)
    obtain ⟨_, _, xs, _, o, es, ep, h1, h2, _⟩ := (show ObjOk X.prog X.w H s.heap a (.dT kvs) from I.hok a _ ea)
    exact PySem.W.kia_one PySem.W.kitx_dict I.kIn ⟨o, h1, h2.1⟩ e (fun z => nomatch z) h
  | @ins a C dx fs ea cl ha hn htk hm =>
    cases (show u = Value.ref a from rx)
    obtain ⟨mA, O, _⟩ := ins_get I.hok ea
    obtain ⟨od, J, _⟩ := O.look
    exact PySem.W.kia_one (PySem.W.kitx_own (cl.get _) cl.hd ha hn htk hm) I.kIn J e (fun z => nomatch z) h
end
end L2

namespace L2
open PySem PySem.Spec PyProof.Rows

/-! ### room -/
structure Room (k : Nat) (A : Around) : Prop where
  hd : A.handled = none
  dp : A.depth + 3 * k + 5 < recursionLimit
  un : A.units + 16 * k + 200 < cLine
theorem Room.mono {j k : Nat} {A : Around} (r : Room k A) (h : j ≤ k) : Room j A := ⟨r.hd, by have := r.dp; omega, by have := r.un; omega⟩
theorem Room.deeper {k : Nat} {A : Around} (r : Room (k + 1) A) (env : Env) : Room k (A.deeper env) :=
  ⟨r.hd, by have := r.dp; show A.depth + 1 + 3 * k + 5 < _; omega, by have := r.un; show A.units + 3 + 16 * k + 200 < _; omega⟩
theorem make_depth {A : Around} {C : Addr} {us : List Value} {kw : List (Str × Value)} : (A.under (.builtin "type.__call__" ⟨.ref C :: us, kw⟩)).depth = A.depth + 1 := by
  first | rfl | simp [Around.under, Code.weight, Code.isCreation, Code.isGuard, Code.isCaller, Code.frames, Code.isFrame, guardIds]
theorem make_units {A : Around} {C : Addr} {us : List Value} {kw : List (Str × Value)} : (A.under (.builtin "type.__call__" ⟨.ref C :: us, kw⟩)).units = A.units + 1 := by
  first | rfl | simp [Around.under, Code.cUnits, Code.frames, Code.isFrame]
theorem Room.make {k : Nat} {A : Around} (r : Room (k + 1) A) (C : Addr) (us : List Value) (kw : List (Str × Value)) : Room k (A.under (.builtin "type.__call__" ⟨.ref C :: us, kw⟩)) :=
  ⟨r.hd, by have := r.dp; rw [make_depth]; omega, by have := r.un; rw [make_units]; omega⟩
theorem Room.depth {k : Nat} {A : Around} (r : Room k A) : A.depth < recursionLimit := by have := r.dp; omega

/-! ### argument lists and displays -/
def tNil : TA := fun _ H Q => Q [] H
def tCons (ta : TE) (tr : TA) : TA := fun σ H Q => ta σ H fun x H1 => tr σ H1 fun xs H2 => Q (x :: xs) H2
section
variable {X : Cx} {e : Expr} {es : List Expr} {te : TE} {t : TA} {pos : Pos}
theorem pa_nil : PA X [] tNil := fun _ _ _ _ H Q I h => Calls.spliced_nil ⟨[], H, I, .nil, h⟩
theorem pa_cons (ha : PE X e te) (hr : PA X es t) (hs : starEach (e :: es) X.env = (false, eval e X.env) :: starEach es X.env := by rfl) : PA X (e :: es) (tCons te t) := by
  intro pos pins s σ H Q I h
  rw [hs]
  show wpAny _ _ (spliced ((false, eval e X.env) :: backTo pos (starEach es X.env))) _ _ s
  refine Calls.spliced_cons (thn (ha pins s σ H _ I h) fun u s1 ⟨x, H1, I1, r1, q1⟩ => ?_)
  exact thn (hr pos pins s1 σ H1 _ I1 q1) fun us s2 ⟨xs, H2, I2, r2, q2⟩ => ⟨x :: xs, H2, I2, .cons r1 r2, q2⟩

/-- a tuple, a list of written items -/
def tTup (t : TA) : TE := fun σ H Q => t σ H fun xs H1 => xs.length ≤ sizeLine ∧ ∀ p, H1 p = none → Q (.ref p) (upd H1 p (.tup xs))
def tLst (t : TA) : TE := fun σ H Q => t σ H fun xs H1 => xs.length ≤ sizeLine ∧ ∀ p, H1 p = none → Q (.ref p) (upd H1 p (.lst xs))
theorem pe_tup {x1} (h : PA X es t) : PE X (.Tuple es x1 pos) (tTup t) := by
  intro pins s σ H Q I hq
  refine wpAny_Tuple_spliced (thn (h pos pins s σ H _ I hq) fun us s1 ⟨xs, H1, I1, r, z, q⟩ => ⟨by rw [← r.length]; exact z, ?_⟩)
  have hf : H1 s1.heap.objs.size = none := I1.hok.fresh (Nat.le_refl _)
  refine ⟨.ref s1.heap.objs.size, upd H1 s1.heap.objs.size (.tup xs), I1.laid (t' := s1.toks) (fun b u e => Heap.get?_push_of_some _ e) (Nat.le_refl _) ?_, rfl, q _ hf⟩
  exact ⟨z, us, r, ⟨_, Heap.get?_push_size _ rfl, rfl, _, rfl⟩⟩
theorem pe_lst (h : PA X es t) : PE X (.List es pos) (tLst t) := by
  intro pins s σ H Q I hq
  refine wpAny_List_spliced (thn (h pos pins s σ H _ I hq) fun us s1 ⟨xs, H1, I1, r, z, q⟩ => ⟨by rw [← r.length]; exact z, ?_⟩)
  have hf : H1 s1.heap.objs.size = none := I1.hok.fresh (Nat.le_refl _)
  refine ⟨.ref s1.heap.objs.size, upd H1 s1.heap.objs.size (.lst xs), I1.laid (t' := s1.toks) (fun b u e => Heap.get?_push_of_some _ e) (Nat.le_refl _) ?_, rfl, q _ hf⟩
  exact ⟨z, us, 0, r, Heap.get?_push_size _ rfl⟩
end

/-! ### what a def promises -/
/-- a def's promise: the bound arguments in the parameters' order, the heap, the wanted end, the wanted exception -/
abbrev Sp := List V → Hp → VK → XK → Prop
/-- how an exception lies behind a call (file 08 gives it): the callers' frames, abstract heap and state ahead of the call, the wish, the exception, the state -/
abbrev CXT := List Env → Hp → Shared → XK → Value → Shared → Prop

/-- the state at a call -/
structure Env0 (P : Program) (w : World) (K : PySem.W.Frag) (mg : Str → Option Value) (base : Heap) (A : Around) (outer : List Env) (s : Shared) (H : Hp) : Prop where
  frames : A.frames = some outer
  mod : Mod K mg base
  bs : ∀ b o, base.get? b = some o → s.heap.get? b = some o ∧ H b = none
  bsz : base.objs.size ≤ s.heap.objs.size
  funs : s.heap.FunFrames base outer
  frf : ∀ b ∈ frs outer, H b = none
  hok : HOk P w H s.heap
  bare : AllBare s.gens
/-- a call's end -/
def CE (outer : List Env) (P : Program) (w : World) (H : Hp) (s : Shared) (Q : VK) (u : Value) (s' : Shared) : Prop :=
  ∃ v H', s'.os = s.os ∧ AllBare s'.gens ∧ Un (frs outer) [] H H' s.heap s'.heap ∧ HOk P w H' s'.heap ∧ RelV v u ∧ Q v H'
def CR (CX : CXT) (outer : List Env) (P : Program) (w : World) (H : Hp) (s : Shared) (Q : VK) (E : XK) (r : Result) (s' : Shared) : Prop :=
  match r with
  | .ok (.ret u) => CE outer P w H s Q u s'
  | .ok _ => False
  | .error e => CX outer H s E e s'
structure FnOk (P : Program) (w : World) (K : PySem.W.Frag) (mg : Str → Option Value) (base : Heap) (CX : CXT) (k : Nat) (f : Addr) (fd : FuncData) (ps : List Str) (sp : Sp) : Prop where
  len : ∀ vs H Q E, sp vs H Q E → vs.length = ps.length
  run : ∀ (A : Around) (outer : List Env) (s : Shared) (H : Hp) (args : Args) (us : List Value) (vs : List V) (Q : VK) (E : XK), Room k A → Env0 P w K mg base A outer s H → BindsTo s fd args (ps.zip us) → Vals vs us → sp vs H Q E →
    codeAny (model P w) A (.call (.ref f) args) (CR CX outer P w H s Q E) s

theorem Env0.make {P : Program} {w : World} {K : PySem.W.Frag} {mg : Str → Option Value} {base : Heap} {A : Around} {outer : List Env} {s : Shared} {H : Hp} (e : Env0 P w K mg base A outer s H) (C : Addr) (us : List Value) (kw : List (Str × Value)) :
    Env0 P w K mg base (A.under (.builtin "type.__call__" ⟨.ref C :: us, kw⟩)) outer s H := ⟨by first | exact e.frames | (simpa [Around.under, Code.envs, Code.isFrame, pushEnvs] using e.frames), e.mod, e.bs, e.bsz, e.funs, e.frf, e.hok, e.bare⟩

section
variable {X : Cx} {pins : List (Addr × Obj)} {σ : St} {H : Hp} {s s' : Shared}
/-- from a body: what a callee wants -/
theorem Inv.env0 (I : Inv X pins σ H s) : Env0 X.prog X.w X.K X.mg X.base X.A X.stack s H :=
  ⟨I.ok.frames, I.ok.mod, I.bs, Nat.le_trans I.ok.bsz I.sz, I.stack, I.stkFree, I.hok, I.bare⟩
/-- behind a call -/
theorem Inv.after {Q : VK} {u : Value} (I : Inv X pins σ H s) (h : CE X.stack X.prog X.w H s Q u s') : EP X pins σ Q u s' := by
  obtain ⟨v, H', os, bare, un, hok, r, q⟩ := h
  obtain ⟨hh, g, d, t, os'⟩ := s'
  obtain rfl : os' = s.os := os
  exact ⟨v, H', I.call (h' := hh) (g' := g) (d' := d) (t' := t) (ch := []) un hok bare (fun b z => absurd z (by simp)), r, q⟩
end

/-! ### calls -/
/-- f(..): the written arguments, then the defaults dvs; E: what is wanted of an exception -/
def tCall (sp : Sp) (dvs : List V) (E : XK) (t : TA) : TE := fun σ H Q => t σ H fun vs H1 => sp (vs ++ dvs) H1 Q E
/-- o.m(..) of an instance of the class at C -/
def tMeth (C : Addr) (m : Str) (sp : Sp) (dvs : List V) (E : XK) (ta : TE) (t : TA) : TE := fun σ H Q => ta σ H fun x H1 => ∃ a dx fs, x = .ref a ∧ H1 a = some (.ins C dx fs) ∧ fs.lookup m = none ∧
  t σ H1 fun vs H2 => sp (x :: (vs ++ dvs)) H2 Q E
/-- C(..): a new instance and its dict, then __init__ -/
def tMake (C : Addr) (sp : Sp) (dvs : List V) (E : XK) (t : TA) : TE := fun σ H Q => t σ H fun vs H1 => ∀ x dx, H1 x = none → H1 dx = none → dx ≠ x →
  sp (.ref x :: (vs ++ dvs)) (upd (upd H1 dx (.own x)) x (.ins C dx [])) (fun v H2 => v = .non ∧ Q (.ref x) H2) E

/-- how the parameters are bound: us the positional arguments, kw the keywords' values by name, ds the defaults that fill up -/
def Binds (K : PySem.W.Frag) (fd : FuncData) (ps : List Str) (ds : List Value) : Prop :=
  ∀ (s : Shared) (us : List Value), K.In s.heap → (us ++ ds).length = ps.length → BindsTo s fd ⟨us, []⟩ (ps.zip (us ++ ds))
/-- every parameter is given -/
theorem Binds.all {K : PySem.W.Frag} {fd : FuncData} {ps : List Str} (h : ∀ us : List Value, us.length = ps.length → bindArgs fd ⟨us, []⟩ = pure (ps.zip us)) : Binds K fd ps [] := fun s us _ hl => by
  rw [List.append_nil] at hl ⊢
  exact .of_eq (h us hl)

/-- an exception of a callee reaches what this body wants of exceptions -/
def Passes (CX : CXT) (X : Cx) (E : XK) : Prop := ∀ (pins : List (Addr × Obj)) (σ : St) (H : Hp) (s : Shared) (e : Value) (s' : Shared), Inv X pins σ H s → CX X.stack H s E e s' → X.xe e s'

section
variable {X : Cx} {CX : CXT} {k : Nat} {f C : Addr} {fd : FuncData} {ps : List Str} {sp : Sp} {dvs : List V} {ds : List Value} {E : XK} {x m : Str} {p pos apos : Pos} {e o : Expr} {es : List Expr} {ta : TE} {t : TA}

/-- the callee runs -/
theorem run_fn {pins : List (Addr × Obj)} {σ : St} {H : Hp} {s : Shared} {Q : VK} {us : List Value} {vs : List V} (F : FnOk X.prog X.w X.K X.mg X.base CX k f fd ps sp) (hr : Room k X.A) (hb : Binds X.K fd ps ds) (hd : Vals dvs ds) (hx : Passes CX X E)
    (I : Inv X pins σ H s) (r : Vals vs us) (h : sp (vs ++ dvs) H Q E) : wpAny (model X.prog X.w) X.A (call (.ref f) us) (EP X pins σ Q) X.xe s := by
  have r2 : Vals (vs ++ dvs) (us ++ ds) := r.append hd
  have hl : (us ++ ds).length = ps.length := by rw [← r2.length]; exact F.len _ _ _ _ h
  refine wpAny_call (codeAny_mono (F.run X.A X.stack s H ⟨us, []⟩ (us ++ ds) (vs ++ dvs) Q E hr I.env0 (hb s us I.kIn hl) r2 h) fun r s' hq => ?_)
  cases r with
  | error e => exact hx pins σ H s e s' I hq
  | ok fl =>
    cases fl with
    | ret u => exact I.after hq
    | next => exact False.elim hq
    | brk => exact False.elim hq
    | cont => exact False.elim hq

theorem pe_call (F : FnOk X.prog X.w X.K X.mg X.base CX k f fd ps sp) (hr : Room k X.A) (hg : Gl X x) (hm : X.mg x = some (.ref f)) (hk : PySem.W.keepIn X.K (.ref f) = true) (hb : Binds X.K fd ps ds) (hd : Vals dvs ds) (hx : Passes CX X E)
    (ha : PA X (e :: es) t) (hdb : (x == ("__debug__" : Str)) = false := by decide) (he : starEach (e :: es) X.env = (false, eval e X.env) :: starEach es X.env := by rfl) (hpl : (backTo pos (starEach es X.env)).any (·.1) = false := by rfl) :
    PE X (.Call (.Name x p) (e :: es) [] pos) (tCall sp dvs E t) := by
  intro pins s σ H Q I h
  refine wpAny_Call_Name_kw (ld_glob I hg hm ?_ hdb)
  refine PySem.W.callWith_K (h₀ := X.base) I.ok.mod.kin hk (thn (ha pos pins s σ H _ I h) fun us s1 ⟨vs, H1, I1, r, q⟩ => ⟨I1.kIn, ?_⟩) he hpl
  exact run_fn F hr hb hd hx I1 r q

/-- o.m(e, ..) -/
theorem pe_meth {pl : Sem Bool} (he : PE X o ta) (c : Cls X.K C) (hm : Meth X.K C m f) (F : FnOk X.prog X.w X.K X.mg X.base CX k f fd ps sp) (hr : Room k X.A) (hb : Binds X.K fd ps ds) (hd : Vals dvs ds) (hx : Passes CX X E) (ha : PA X (e :: es) t)
    (hst : starEach (e :: es) X.env = (false, eval e X.env) :: starEach es X.env := by rfl) (hpl : (backTo pos (starEach es X.env)).any (·.1) = false := by rfl)
    (ht : eval (.Call (.Attribute o m apos) (e :: es) [] pos) X.env = (do
      let ov ← eval o X.env
      standAt apos.atName
      let (f, first) ← holding [ov] (getMethod ov m pl)
      callWith pos f first (backTo pos (starEach (e :: es) X.env)) (backToKw pos (keywordEach [] X.env))) := by rfl) :
    PE X (.Call (.Attribute o m apos) (e :: es) [] pos) (tMeth C m sp dvs E ta t) := by
  intro pins s σ H Q I h
  refine PySem.W.methodCall_KW (pl := pl) (thn (he pins s σ H _ I h) fun u s1 ⟨x, H1, I1, rx, a, dx, fs, ex, ea, l, q⟩ => ?_) ht
  subst ex
  obtain rfl : u = Value.ref a := rx
  refine getmeth_ok I1 ea c hm l ?_
  refine PySem.W.callWith_K (first := [.ref a]) (h₀ := X.base) I.ok.mod.kin hm.kp (thn (ha pos pins s1 σ H1 _ I1 q) fun us s2 ⟨vs, H2, I2, r, q2⟩ => ⟨I2.kIn, ?_⟩) hst hpl
  exact run_fn (us := .ref a :: us) (vs := .ref a :: vs) F hr hb hd hx I2 (.cons rfl r) q2
/-- o.m() -/
theorem pe_meth0 {pl : Sem Bool} (he : PE X o ta) (c : Cls X.K C) (hm : Meth X.K C m f) (F : FnOk X.prog X.w X.K X.mg X.base CX k f fd ps sp) (hr : Room k X.A) (hb : Binds X.K fd ps ds) (hd : Vals dvs ds) (hx : Passes CX X E)
    (ht : eval (.Call (.Attribute o m apos) [] [] pos) X.env = (do
      let ov ← eval o X.env
      standAt apos.atName
      let (f, first) ← holding [ov] (getMethod ov m pl)
      callWith pos f first (backTo pos (starEach [] X.env)) (backToKw pos (keywordEach [] X.env))) := by rfl) :
    PE X (.Call (.Attribute o m apos) [] [] pos) (tMeth C m sp dvs E ta tNil) := by
  intro pins s σ H Q I h
  refine PySem.W.methodCall_KW (pl := pl) (thn (he pins s σ H _ I h) fun u s1 ⟨x, H1, I1, rx, a, dx, fs, ex, ea, l, q⟩ => ?_) ht
  subst ex
  obtain rfl : u = Value.ref a := rx
  refine getmeth_ok I1 ea c hm l ?_
  exact PySem.W.callWith_K0 (first := [.ref a]) I1.kIn hm.kp (run_fn (us := [.ref a]) (vs := [.ref a]) F hr hb hd hx I1 (.cons rfl .nil) q)

/-- what a class must have to be made -/
structure Mk (K : PySem.W.Frag) (C f : Addr) : Prop where
  makes : PySem.W.makesIn K C = true
  init : PySem.W.findIn K (.ref C) "__init__" = some (some (.ref f))
  fn : PySem.W.isFn K (.ref f) = true
  kp : PySem.W.keepIn K (.ref C) = true

theorem run_make {pins : List (Addr × Obj)} {σ : St} {H : Hp} {s : Shared} {Q : VK} {us : List Value} {vs : List V} (M : Mk X.K C f) (F : FnOk X.prog X.w X.K X.mg X.base CX k f fd ps sp) (hr : Room (k + 1) X.A) (hb : Binds X.K fd ps ds) (hd : Vals dvs ds)
    (hx : Passes CX X E) (I : Inv X pins σ H s) (r : Vals vs us)
    (h : ∀ x dx, H x = none → H dx = none → dx ≠ x → sp (.ref x :: (vs ++ dvs)) (upd (upd H dx (.own x)) x (.ins C dx [])) (fun v H2 => v = .non ∧ Q (.ref x) H2) E) :
    wpAny (model X.prog X.w) X.A (call (.ref C) us) (EP X pins σ Q) X.xe s := by
  have hq := h (s.heap.objs.size + 1) s.heap.objs.size (I.hok.fresh (Nat.le_succ _)) (I.hok.fresh (Nat.le_refl _)) (Nat.ne_of_lt (Nat.lt_succ_self _))
  have I2 := Inv.made (C := C) I
  have r2 : Vals (V.ref (s.heap.objs.size + 1) :: (vs ++ dvs)) (Value.ref (s.heap.objs.size + 1) :: (us ++ ds)) := .cons rfl (r.append hd)
  have hl : (Value.ref (s.heap.objs.size + 1) :: us ++ ds).length = ps.length := by
    have e := r2.length
    rw [F.len _ _ _ _ hq] at e
    exact e.symm
  refine wpAny_call (make_map (f := f) I.kIn M.makes M.init (beq_iff_eq.mp M.fn) (codeAny_mono (F.run _ X.stack _ _ ⟨Value.ref (s.heap.objs.size + 1) :: us, []⟩ (Value.ref (s.heap.objs.size + 1) :: (us ++ ds)) _ _ E (hr.make C us [])
    (I2.env0.make C us []) (hb _ (Value.ref (s.heap.objs.size + 1) :: us) I2.kIn hl) r2 hq) fun r s' hq' => ?_))
  cases r with
  | error e => exact hx pins σ _ _ e s' I2 hq'
  | ok fl =>
    cases fl with
    | ret u =>
      obtain ⟨v, H', I3, rv, ev, q3⟩ := I2.after hq'
      subst ev
      exact ⟨rv, ⟨V.ref (s.heap.objs.size + 1), H', I3, rfl, q3⟩⟩
    | next => exact False.elim hq'
    | brk => exact False.elim hq'
    | cont => exact False.elim hq'
theorem pe_make (M : Mk X.K C f) (F : FnOk X.prog X.w X.K X.mg X.base CX k f fd ps sp) (hr : Room (k + 1) X.A) (hg : Gl X x) (hm : X.mg x = some (.ref C)) (hb : Binds X.K fd ps ds) (hd : Vals dvs ds) (hx : Passes CX X E)
    (ha : PA X (e :: es) t) (hdb : (x == ("__debug__" : Str)) = false := by decide) (he : starEach (e :: es) X.env = (false, eval e X.env) :: starEach es X.env := by rfl) (hpl : (backTo pos (starEach es X.env)).any (·.1) = false := by rfl) :
    PE X (.Call (.Name x p) (e :: es) [] pos) (tMake C sp dvs E t) := by
  intro pins s σ H Q I h
  refine wpAny_Call_Name_kw (ld_glob I hg hm ?_ hdb)
  refine PySem.W.callWith_K (h₀ := X.base) I.ok.mod.kin M.kp (thn (ha pos pins s σ H _ I h) fun us s1 ⟨vs, H1, I1, r, q⟩ => ⟨I1.kIn, ?_⟩) he hpl
  exact run_make M F hr hb hd hx I1 r q
theorem pe_make0 (M : Mk X.K C f) (F : FnOk X.prog X.w X.K X.mg X.base CX k f fd ps sp) (hr : Room (k + 1) X.A) (hg : Gl X x) (hm : X.mg x = some (.ref C)) (hb : Binds X.K fd ps ds) (hd : Vals dvs ds) (hx : Passes CX X E)
    (hdb : (x == ("__debug__" : Str)) = false := by decide) : PE X (.Call (.Name x p) [] [] pos) (tMake C sp dvs E tNil) := by
  intro pins s σ H Q I h
  refine wpAny_Call_Name_kw (ld_glob I hg hm ?_ hdb)
  exact PySem.W.callWith_K0 I.kIn M.kp (run_make (us := []) M F hr hb hd hx I .nil h)
end

section
variable {X : Cx} {CX : CXT} {k : Nat} {f C : Addr} {fd : FuncData} {ps ks : List Str} {sp : Sp} {E : XK} {x m : Str} {p pos apos kpos : Pos} {e o : Expr} {es : List Expr} {kws : List Keyword} {te ta : TE} {t tk : TA} {nm : Option Str}

variable {g : List Value → List Value → List Value} {gV : List V → List V → List V}
end

/-! ### a def's body keeps its promise -/
/-- names: the parameters first -/
structure FnScope (N P : List Str) (sc : Scope) : Prop where
  kind : sc.kind = .function
  co : sc.isCoroutine = false
  gen : sc.isGenerator = false
  nd : N.Nodup
  pre : N.take P.length = P
  par : ∀ x ∈ P, sc.names.lookup x = some .local ∨ sc.names.lookup x = some .cell
  nofree : ∀ y ∈ sc.names, y.2 ≠ .free

theorem bindL_out {kindOf : Str → Option NameKind} {x : Str} : ∀ {binds : List (Str × Value)} {m : Str → Option Value}, (∀ v, (x, v) ∉ binds) → bindL kindOf binds m x = m x
  | [], _, _ => rfl
  | (n, v) :: r, m, h => by
    unfold bindL
    rw [bindL_out fun w hw => h w (List.mem_cons_of_mem _ hw)]
    split
    · have : x ≠ n := by rintro rfl; exact h v List.mem_cons_self
      simp [this]
    · rfl
theorem bindC_out {kindOf : Str → Option NameKind} {x : Str} : ∀ {binds : List (Str × Value)} {m : Str → Option Value}, (∀ v, (x, v) ∉ binds) → bindC kindOf binds m x = m x
  | [], _, _ => rfl
  | (n, v) :: r, m, h => by
    unfold bindC
    rw [bindC_out fun w hw => h w (List.mem_cons_of_mem _ hw)]
    split
    · rfl
    · have : x ≠ n := by rintro rfl; exact h v List.mem_cons_self
      simp [this]
theorem bindL_get {kindOf : Str → Option NameKind} {x : Str} {v : Value} : ∀ {P : List Str} {vs : List Value} {i : Nat} {m : Str → Option Value}, P.Nodup → P[i]? = some x → vs[i]? = some v → kindOf x = some .local →
    bindL kindOf (P.zip vs) m x = some v
  | [], _, _, _, _, h, _, _ => by simp at h
  | _ :: _, [], _, _, _, _, h, _ => by simp at h
  | p :: P, w :: vs, 0, m, nd, h1, h2, hk => by
    simp at h1 h2; subst h1; subst h2
    show bindL kindOf ((p, w) :: P.zip vs) m p = _
    unfold bindL
    rw [bindL_out fun v hv => (List.nodup_cons.mp nd).1 (List.of_mem_zip hv).1, if_pos hk]
    simp
  | p :: P, w :: vs, i + 1, m, nd, h1, h2, hk => by
    show bindL kindOf ((p, w) :: P.zip vs) m x = _
    unfold bindL
    exact bindL_get (i := i) (List.nodup_cons.mp nd).2 (by simpa using h1) (by simpa using h2) hk
theorem bindC_get {kindOf : Str → Option NameKind} {x : Str} {v : Value} : ∀ {P : List Str} {vs : List Value} {i : Nat} {m : Str → Option Value}, P.Nodup → P[i]? = some x → vs[i]? = some v → kindOf x ≠ some .local →
    bindC kindOf (P.zip vs) m x = some v
  | [], _, _, _, _, h, _, _ => by simp at h
  | _ :: _, [], _, _, _, _, h, _ => by simp at h
  | p :: P, w :: vs, 0, m, nd, h1, h2, hk => by
    simp at h1 h2; subst h1; subst h2
    show bindC kindOf ((p, w) :: P.zip vs) m p = _
    unfold bindC
    rw [bindC_out fun v hv => (List.nodup_cons.mp nd).1 (List.of_mem_zip hv).1, if_neg hk]
    simp
  | p :: P, w :: vs, i + 1, m, nd, h1, h2, hk => by
    show bindC kindOf ((p, w) :: P.zip vs) m x = _
    unfold bindC
    exact bindC_get (i := i) (List.nodup_cons.mp nd).2 (by simpa using h1) (by simpa using h2) hk

/-- the names' values at the entry -/
def start (N : List Str) (vs : List V) : St := vs.map some ++ List.replicate (N.length - vs.length) none

/-- the context of a def's body, at its entry; an exception leaves the frame, then lies as CX says -/
def cxOf (CX : CXT) (P : Program) (w : World) (K : PySem.W.Frag) (mg : Str → Option Value) (base : Heap) (N : List Str) (qual : Str) (scope : Scope) (f : Addr) (cd : Value) (A : Around) (outer : List Env) (s : Shared) (H : Hp) (E : XK) : Cx where
  prog := P
  w := w
  K := K
  mg := mg
  base := base
  A := A.deeper (envOfC qual scope s.heap.objs.size f cd)
  N := N
  s_0 := s
  H_0 := H
  env := envOfC qual scope s.heap.objs.size f cd
  outer := outer
  stack := envOfC qual scope s.heap.objs.size f cd :: outer
  ex := []
  calm := true
  fn := fun _ => true
  pn := []
  xe := fun e s' => wpAny (model P w) (A.deeper (envOfC qual scope s.heap.objs.size f cd)) (leaving (envOfC qual scope s.heap.objs.size f cd) e) (fun _ s'' => CX outer H s E e s'') (fun e' s'' => CX outer H s E e' s'') s'

theorem cell_has {sc : Scope} {n : Nat} {x : Str} (h : sc.names.lookup x = some .cell) : ∃ c, (cellsFrom n sc.names []).lookup x = some c := by
  have q := PySem.W.cellsFrom_some sc.names n [] (.inl h)
  exact Option.isSome_iff_exists.mp q

theorem inv_start {CX : CXT} {P : Program} {w : World} {K : PySem.W.Frag} {mg : Str → Option Value} {base : Heap} {N ps : List Str} {qual : Str} {scope : Scope} {f : Addr} {cd : Value} {A : Around} {outer : List Env} {s s1 : Shared} {H : Hp} {E : XK} {us : List Value} {vs : List V}
    (S : FnScope N ps scope) (hd : A.handled = none) (e0 : Env0 P w K mg base A outer s H) (hl : vs.length = ps.length) (r : Vals vs us)
    (x : InCallC s s.heap.objs.size (bindL (envOfC qual scope s.heap.objs.size f cd).kindOf (ps.zip us) fun _ => none) (cellsFrom (s.heap.objs.size + 1) scope.names []) (bindC (envOfC qual scope s.heap.objs.size f cd).kindOf (ps.zip us) fun _ => none) s1) :
    Inv (cxOf CX P w K mg base N qual scope f cd A outer s H E) [] (start N vs) H s1 := by
  have hpl : ps.length ≤ N.length := by have := congrArg List.length S.pre; rw [List.length_take] at this; omega
  obtain ⟨h1, tk, rfl, hk⟩ := x.done
  have noA : ∀ b : Addr, b ∉ (cxOf CX P w K mg base N qual scope f cd A outer s H E).ex := fun b z => absurd (show b ∈ ([] : List Addr) from z) (by simp)
  refine ⟨⟨e0.mod, S.kind, rfl, rfl, Nat.le_refl _, fun y z c h1 h2 => ?_, fun y hy => ?_, fun y c _ h => ?_, fun _ => hd, Around.frames_deeper e0.frames, .inr ⟨rfl, rfl⟩, fun b z => absurd z (noA b), e0.bs, e0.bsz, fun b _ _ => noA b, fun b z => absurd z (noA b), e0.funs, e0.frf⟩,
    rfl, e0.bare, Un.kept hk, ⟨_, x.toInCall.ns, fun i y v h1 h2 h3 => ?_⟩, fun y c h => ⟨_, x.cell y c h⟩, e0.hok.fresh (Nat.le_refl _), fun y c h => ?_, fun p hp => absurd (show p ∈ ([] : List (Addr × Obj)) from hp) (by simp), e0.hok.kept hk, ?_⟩
  · exact name_of_addr x.apart (PySem.mem_of_lookup h1) (PySem.mem_of_lookup h2)
  · have hy : scope.names.lookup y = some .cell ∨ scope.names.lookup y = some .free := hy
    rcases hy with hy | hy
    · exact cell_has hy
    · exact absurd rfl (S.nofree _ (PySem.mem_of_lookup hy))
  · exact Nat.le_of_lt (x.above y c (PySem.mem_of_lookup h))
  · have hi : i < vs.length := by
      unfold start at h2
      by_cases hi : i < vs.length
      · exact hi
      · rw [List.getElem?_append_right (by simpa using hi)] at h2
        rw [List.getElem?_replicate] at h2
        split at h2 <;> cases h2
    have ha : vs[i]? = some v := by
      unfold start at h2
      rw [List.getElem?_append_left (by simpa using hi), List.getElem?_map] at h2
      cases e : vs[i]? with
      | none => rw [e] at h2; cases h2
      | some a => rw [e] at h2; cases h2; rfl
    obtain ⟨u, hu, rv⟩ := r.get ha
    have hp : ps[i]? = some y := by
      rw [← S.pre, List.getElem?_take_of_lt (by omega)]; exact h1
    have ndP : ps.Nodup := by rw [← S.pre]; exact S.nd.sublist (List.take_sublist _ _)
    refine ⟨u, rv, ?_⟩
    rcases S.par y (List.mem_of_getElem? hp) with k | k
    · exact .inl ⟨k, bindL_get ndP hp hu k⟩
    · obtain ⟨c, e⟩ := cell_has (n := s.heap.objs.size + 1) k
      refine .inr ⟨.inl k, c, e, ?_⟩
      have q := x.cell y c e
      rw [bindC_get ndP hp hu (by show scope.names.lookup y ≠ _; rw [k]; decide)] at q
      exact q
  · exact e0.hok.fresh (Nat.le_of_lt (x.above y c (PySem.mem_of_lookup h)))
  · unfold start
    show _ = N.length
    rw [List.length_append, List.length_map, List.length_replicate]
    omega

/-- THE RULE: a def (or a method) of the text, by its body. The body's reading t is chosen for each entry; it is run at the parameters' values -/
theorem fn_of {CX : CXT} {P : Program} {w : World} {K : PySem.W.Frag} {mg : Str → Option Value} {base : Heap} {k : Nat} {f : Addr} {name qual : Str} {params : Arguments} {body : List Stmt} {scope : Scope} {dV kV doc pm cdv ct oc : Value} {an od : Option Addr}
    {osl : Array (Option Value)} {N ps : List Str} {sp : Sp} (lk : K.lookup f = some ⟨oc, od, .func (PySem.W.fnOf name qual params body scope dV kV doc pm an cdv ct), osl⟩) (hcd : PySem.W.codeIn K cdv qual = true) (S : FnScope N ps scope)
    (len : ∀ vs H Q E, sp vs H Q E → vs.length = ps.length)
    (hbody : ∀ (A : Around) (outer : List Env) (s : Shared) (H : Hp) (vs : List V) (Q : VK) (E : XK), Room k (A.deeper (envOfC qual scope s.heap.objs.size f cdv)) → sp vs H Q E →
      ∃ t, PSs (cxOf CX P w K mg base N qual scope f cdv A outer s H E) body t ∧ t { nx := fun _ H' => Q .non H', rt := Q } (start N vs) H) :
    FnOk P w K mg base CX (k + 1) f (PySem.W.fnOf name qual params body scope dV kV doc pm an cdv ct) ps sp := by
  refine ⟨len, fun A outer s H args us vs Q E hr e0 hb r hsp => ?_⟩
  have hl := len _ _ _ _ hsp
  have KX : K.In s.heap := e0.mod.kin.keeps fun b o e => (e0.bs b o e).1
  have lim : s.heap.NoLimit := e0.mod.nolimit.keeps fun b o e => (e0.bs b o e).1
  have hkind : ∀ y ∈ ps.zip us, scope.names.lookup y.1 = some .local ∨ (scope.names.lookup y.1 = some .cell ∧ ((cellsFrom (s.heap.objs.size + 1) scope.names []).lookup y.1).isSome = true) := fun ⟨n, v⟩ hy => by
    rcases S.par n (List.of_mem_zip hy).1 with q | q
    · exact .inl q
    · exact .inr ⟨q, PySem.W.cellsFrom_some _ _ _ (.inl q)⟩
  refine codeAny_call_function hr.depth (KX _ _ lk) rfl S.co S.gen rfl (PySem.W.codeRec_of KX hcd) (hb _ _ _ _ ?_)
  refine wpAny_newFunctionEnv_cells S.kind hkind fun env he s1 x => ?_
  subst he
  refine ⟨lim.keeps x.toInCall.keep, codeAny_func ?_⟩
  obtain ⟨t, ht, hq⟩ := hbody A outer s H vs Q E (hr.deeper _) hsp
  have I : Inv (cxOf CX P w K mg base N qual scope f cdv A outer s H E) [] (start N vs) H s1 := inv_start S hr.hd e0 hl r x
  refine wpAny_mono (ht [] s1 (start N vs) H _ I hq) (fun fl s' hs => ?_) fun e s' hs => hs
  have fin : ∀ {σ' : St} {H' : Hp} {v : V} {u : Value}, Inv (cxOf CX P w K mg base N qual scope f cdv A outer s H E) [] σ' H' s' → RelV v u → Q v H' → CE outer P w H s Q u s' :=
    fun {σ' H' v u} J rv q => ⟨v, H', J.os, J.bare, J.base, J.hok, rv, q⟩
  cases fl with
  | ret u =>
    obtain ⟨v, σ', H', J, rv, q⟩ := hs
    exact fin J rv q
  | next =>
    obtain ⟨σ', H', J, q⟩ := hs
    exact fin (v := V.non) (u := Value.none) J rfl q
  | brk =>
    obtain ⟨_, _, _, q⟩ := hs
    exact False.elim q
  | cont =>
    obtain ⟨_, _, _, q⟩ := hs
    exact False.elim q
end L2

namespace L2
open PySem PySem.Spec PyProof.Rows
section
variable {X : Cx} {x : Str} {p pos : Pos} {e : Expr} {es : List Expr} {t : TA} {id T : String} {r : List V → Hp → VK → Prop}

def tCB (r : List V → Hp → VK → Prop) (t : TA) : TE := fun σ H Q => t σ H fun vs H1 => r vs H1 Q
/-- f(e, ..), f a built-in function -/
theorem pe_callB (hc : CallR X (.builtin id) r) (hg : Gl X x) (hm : X.mg x = none) (hv : bootBuiltins x = some (.builtin id)) (ha : PA X (e :: es) t) (hn : x ≠ "__name__" := by decide) (hdb : (x == ("__debug__" : Str)) = false := by decide)
    (he : starEach (e :: es) X.env = (false, eval e X.env) :: starEach es X.env := by rfl) (hpl : (backTo pos (starEach es X.env)).any (·.1) = false := by rfl) : PE X (.Call (.Name x p) (e :: es) [] pos) (tCB r t) := by
  intro pins s σ H Q I h
  refine wpAny_Call_Name_kw (ld_blt I hg hm hv ?_ hn hdb)
  exact PyProof.Rows.callWith_builtin1 (thn (ha pos pins s σ H _ I h) fun us s1 ⟨vs, H1, I1, r1, q1⟩ => hc pins s1 σ H1 vs us Q I1 r1 q1) he hpl
end
end L2

namespace HT
open PySem PyProof.Rows



section
open PySem.SeqAt
open PySem.AutoSeq1 (wpAny_loadPart')
open PySem.MeetsSeq PySem.MeetsSeq2 PySem.MeetsSeq3

end

section
variable {prog : Program} {w : World} {A : Around} {E : Value → Shared → Prop} {s : Shared}



/-! ### t[a:b], not the whole -/
/-- a slice's bound as a place among n (d where it is left out) -/
def sIx (n d : Nat) : Option Int → Nat
  | none => d
  | some v => if v < 0 then (v + (n : Int)).toNat else min v.toNat n
theorem sIx_none (n d : Nat) : sIx n d none = d := rfl
theorem sIx_nat (n d k : Nat) : sIx n d (some (k : Int)) = min k n := by
  show (if (k : Int) < 0 then ((k : Int) + (n : Int)).toNat else min (k : Int).toNat n) = min k n
  rw [if_neg (by omega), Int.toNat_natCast]

end
end HT

namespace L2
open PySem PySem.Spec PyProof.Rows

/-! ### the parts of a slice -/
abbrev TO := St → Hp → (Option Int → Hp → Prop) → Prop
/-- a slice's part (left out, or an int) -/
def PO (X : Cx) (e : Option Expr) (t : TO) : Prop :=
  ∀ (pins : List (Addr × Obj)) (s : Shared) (σ : St) (H : Hp) (Q : Option Int → Hp → Prop), Inv X pins σ H s → t σ H Q →
    wpAny (model X.prog X.w) X.A (evalPart e X.env) (fun u s' => ∃ o H', Inv X pins σ H' s' ∧ IsPart u o ∧ Q o H') X.xe s
def tNoPart : TO := fun _ H Q => Q none H
def tPart (t : TE) : TO := fun σ H Q => t σ H fun x H1 => ∃ i, x = .int i ∧ Q (some i) H1


section
variable {X : Cx} {e : Expr} {te : TE} {lo hi : Option Expr} {tl th : TO} {pos p2 : Pos}

theorem po_none : PO X none tNoPart := by
  intro pins s σ H Q I h
  rw [evalPart_none]
  exact wpAny_pure ⟨none, H, I, .none, h⟩
theorem po_some (h : PE X e te) : PO X (some e) (tPart te) := by
  intro pins s σ H Q I hw
  rw [evalPart_some]
  refine thn (h pins s σ H _ I hw) fun u s1 ⟨x, H1, I1, r1, q1⟩ => ?_
  obtain ⟨i, rfl, q⟩ := q1
  obtain ⟨t, rfl⟩ := r1
  exact ⟨some i, H1, I1, .int i t, q⟩

/-- what a slice of a value is, by values: the slice object stands at sl -/
def SlR (X : Cx) (r : V → Option Int → Option Int → Hp → VK → Prop) : Prop :=
  ∀ (pins : List (Addr × Obj)) (s : Shared) (σ : St) (H : Hp) (x : V) (v vl vu : Value) (lo hi : Option Int) (sl : Addr) (Q : VK), Inv X pins σ H s → RelV x v → s.heap.IsSliceOf sl vl vu .none → IsPart vl lo → IsPart vu hi → r x lo hi H Q →
    ∃ T id, typeLookup (.type T) "__getitem__" = pure (some (.builtin id)) ∧ s.TypeIs v T ∧ wpAny (model X.prog X.w) X.A (getItem v (.ref sl)) (EP X pins σ Q) X.xe s
def tSl (r : V → Option Int → Option Int → Hp → VK → Prop) (te : TE) (tl th : TO) : TE := fun σ H Q => te σ H fun x H1 => tl σ H1 fun l H2 => th σ H2 fun u H3 => r x l u H3 Q
/-- a[lo:hi], any a -/
theorem pe_slice {r : V → Option Int → Option Int → Hp → VK → Prop} (hr : SlR X r) (he : PE X e te) (hl : PO X lo tl) (hu : PO X hi th) : PE X (.Subscript e (.Slice lo hi none p2) pos) (tSl r te tl th) := by
  intro pins s σ H Q I h
  refine Subscript_ (thn (he pins s σ H _ I h) fun v s1 ⟨x, H1, I1, r1, q1⟩ => ?_)
  refine wpAny_Slice (thn (hl pins s1 σ H1 _ I1 q1) fun vl s2 ⟨l, H2, I2, pl, q2⟩ => thn (hu pins s2 σ H2 _ I2 q2) fun vu s3 ⟨u, H3, I3, pu, q3⟩ => ?_)
  rw [evalPart_none]
  refine wpAny_pure ?_
  have I4 : Inv X pins σ H3 { s3 with heap := s3.heap.push { cls := .type "slice", data := .fields #[vl, vu, .none] } } := I3.kept (t' := s3.toks) fun b ob q => Heap.get?_push_of_some _ q
  obtain ⟨T, id, hT, ht, hg⟩ := hr pins { s3 with heap := s3.heap.push { cls := .type "slice", data := .fields #[vl, vu, .none] } } σ H3 x v vl vu l u s3.heap.objs.size Q I4 r1 (Heap.IsSliceOf.new ..) pl pu q3
  show wpAny (model X.prog X.w) X.A (subscriptTail e (.Slice lo hi none p2) v (.ref s3.heap.objs.size)) (EP X pins σ Q) X.xe { s3 with heap := s3.heap.push { cls := .type "slice", data := .fields #[vl, vu, .none] } }
  exact tail_any (ops := [.ref s3.heap.objs.size, v]) ht hT hg (by with_unfolding_all rfl)

/-- the items of xs[lo:hi] -/
def cutV (xs : List V) (lo hi : Option Int) : List V := (xs.drop (HT.sIx xs.length 0 lo)).take (HT.sIx xs.length xs.length hi - HT.sIx xs.length 0 lo)
theorem cutV_length (xs : List V) (lo hi : Option Int) : (cutV xs lo hi).length ≤ xs.length := by
  unfold cutV
  rw [List.length_take, List.length_drop]
  omega

end
end L2

namespace L2
open PySem PySem.Spec PyProof.Rows

/-! ### places -/
/-- the place that an index of any sign means -/
def ixN (n : Nat) (i : Int) : Option Nat := if 0 ≤ i then (if i < n then some i.toNat else none) else if -(n : Int) ≤ i then some (i + n).toNat else none
def atI {α : Type} (xs : List α) (i : Int) : Option α := (ixN xs.length i).bind fun j => xs[j]?
theorem ixN_seq {n : Nat} {i : Int} {j : Nat} (h : ixN n i = some j) : seqIndex? i n = some j ∧ j < n ∧ -(n : Int) ≤ i ∧ i < n := by
  unfold ixN at h
  by_cases h0 : 0 ≤ i
  · rw [if_pos h0] at h
    by_cases h1 : i < n
    · rw [if_pos h1] at h
      have e : i.toNat = j := Option.some.inj h
      exact ⟨by rw [seqIndex_of h0 h1, e], by omega, by omega, h1⟩
    · rw [if_neg h1] at h; cases h
  · rw [if_neg h0] at h
    by_cases h1 : -(n : Int) ≤ i
    · rw [if_pos h1] at h
      have e : (i + n).toNat = j := Option.some.inj h
      exact ⟨by rw [seqIndex_neg (by omega) h1, e], by omega, h1, by omega⟩
    · rw [if_neg h1] at h; cases h
theorem atI_get {α : Type} {xs : List α} {i : Int} {v : α} (h : atI xs i = some v) : ∃ j, seqIndex? i xs.length = some j ∧ xs[j]? = some v ∧ j < xs.length ∧ -(xs.length : Int) ≤ i ∧ i < xs.length := by
  unfold atI at h
  cases e : ixN xs.length i with
  | none => rw [e] at h; cases h
  | some j =>
    rw [e] at h
    obtain ⟨h1, h2, h3, h4⟩ := ixN_seq e
    exact ⟨j, h1, h, h2, h3, h4⟩
theorem atI_nat {α : Type} {xs : List α} {j : Nat} {v : α} (h : xs[j]? = some v) : atI xs (j : Int) = some v := by
  have hj : j < xs.length := (List.getElem?_eq_some_iff.mp h).1
  have e : ixN xs.length (j : Int) = some j := by
    unfold ixN
    rw [if_pos (by omega), if_pos (by omega)]; simp
  unfold atI; rw [e]; exact h

/-! ### what may be subscripted -/
/-- what stands as an index of a plain subscript -/
def PlainIx (b : Expr) : Prop := ∀ o i, subscripted b false o i = operate [o, i] (getItem o i)
/-- a subscript by values -/
def IxR (X : Cx) (r : R2) : Prop :=
  ∀ (value slice : Expr) (pins : List (Addr × Obj)) (s : Shared) (σ : St) (H : Hp) (x y : V) (v u : Value) (Q : VK), Inv X pins σ H s → RelV x v → RelV y u → r x y H Q →
    subscripted slice false v u = operate [v, u] (getItem v u) → wpAny (model X.prog X.w) X.A (subscriptTail value slice v u) (EP X pins σ Q) X.xe s
/-- a call of a builtin's method by values: the receiver, the arguments -/
def MtR (X : Cx) (id : String) (r : V → List V → Hp → VK → Prop) : Prop :=
  ∀ (pins : List (Addr × Obj)) (s : Shared) (σ : St) (H : Hp) (x : V) (xs : List V) (v : Value) (us : List Value) (Q : VK), Inv X pins σ H s → RelV x v → Vals xs us → r x xs H Q →
    wpAny (model X.prog X.w) X.A (call (.builtin id) (v :: us)) (EP X pins σ Q) X.xe s
section
variable {X : Cx} {a b : Expr} {ta tb : TE} {pos : Pos}
/-- a[b] -/
theorem pe_ix {r : R2} (hr : IxR X r) (ha : PE X a ta) (hb : PE X b tb) (hs : PlainIx b) : PE X (.Subscript a b pos) (tOp r ta tb) := by
  intro pins s σ H Q I h
  exact Subscript_ (binT ha hb I h fun v u s2 x y H2 I2 rx ry q => hr a b pins s2 σ H2 x y v u Q I2 rx ry q (hs _ _))

def rIxL (K : PySem.W.Frag) : R2 := fun x y H Q => ∃ p xs i v, x = .ref p ∧ y = .int i ∧ SqL K H p xs ∧ atI xs i = some v ∧ Q v H
def rIxT (K : PySem.W.Frag) : R2 := fun x y H Q => ∃ p xs i v, x = .ref p ∧ y = .int i ∧ SqT K H p xs ∧ atI xs i = some v ∧ Q v H
theorem ix_list : IxR X (rIxL X.K) := by
  intro value slice pins s σ H x y v u Q I rx ry h hs
  obtain ⟨p, xs, i, z, rfl, rfl, hq, he, q⟩ := h
  cases rx
  obtain ⟨t, rfl⟩ := ry
  obtain ⟨its, r, pl, hz⟩ := I.list hq
  obtain ⟨j, h1, h2, h3, h4, h5⟩ := atI_get he
  obtain ⟨w, ew, rw'⟩ := r.get h2
  have hl := r.length
  have hn := line63
  have fin : EP X pins σ Q w s := ⟨z, H, I, rw', q⟩
  by_cases h0 : 0 ≤ i
  · have hj : i.toNat = j := by
      rw [seqIndex_of h0 h5] at h1
      exact Option.some.inj h1
    exact item_listR pl.isList h0 (by omega) (by rw [hj]; simpa using ew) fin hs
  · have hj : (i + (its.toArray.size : Int)).toNat = j := by
      rw [seqIndex_neg (by omega) h4] at h1
      rw [List.size_toArray, ← hl]
      exact Option.some.inj h1
    exact subscriptTail_builtinR (x := w) pl.isList.typeIs slot_list_getitem.lookup
      (wpAny_getItem_list_neg (Q := fun r s' => r = w ∧ EP X pins σ Q r s') pl.isList (by omega) (by rw [List.size_toArray] <;> omega) (by omega) (by rw [hj]; simpa using ew) ⟨rfl, fin⟩) hs
theorem ix_tup : IxR X (rIxT X.K) := by
  intro value slice pins s σ H x y v u Q I rx ry h hs
  obtain ⟨p, xs, i, z, rfl, rfl, hq, he, q⟩ := h
  cases rx
  obtain ⟨t, rfl⟩ := ry
  obtain ⟨its, r, pl, hz⟩ := I.tuple hq
  obtain ⟨j, h1, h2, h3, h4, h5⟩ := atI_get he
  obtain ⟨w, ew, rw'⟩ := r.get h2
  have hl := r.length
  have hn := line63
  have fin : EP X pins σ Q w s := ⟨z, H, I, rw', q⟩
  exact subscriptTail_builtinR (x := w) pl.typeIs slot_tuple_getitem.lookup
    (getItem_tuple (j := j) (Q := fun r s' => r = w ∧ EP X pins σ Q r s') pl (by omega) (by omega) (by rw [List.size_toArray, ← hl]; exact h1) (by simpa using ew) ⟨rfl, fin⟩) hs

/-! ### xs[i] = v, any sign -/
/-- the list's object behind a store -/
theorem mapSeq_set (its : List Value) (n j : Nat) (u : Value) : Obj.mapSeq (·.setIfInBounds j u) { cls := .type "list", data := .seq its.toArray n } = { cls := .type "list", data := .seq (its.set j u).toArray n } := by
  simp [Obj.mapSeq]
theorem Inv.lst {pins : List (Addr × Obj)} {σ : St} {H : Hp} {s : Shared} {p : Addr} {xs : List V} (I : Inv X pins σ H s) (h : H p = some (.lst xs)) :
    ∃ (its : List Value) (n : Nat), Vals xs its ∧ s.heap.get? p = some { cls := .type "list", data := .seq its.toArray n } ∧ xs.length ≤ sizeLine := by
  obtain ⟨z, its, n, r, e⟩ := I.hok p _ h
  exact ⟨its, n, r, e, z⟩
/-- the list at p is written by an update of its object -/
theorem Inv.lstUpd {pins : List (Addr × Obj)} {σ : St} {H : Hp} {s : Shared} {p : Addr} {xs ys : List V} {its its' : List Value} {n n' : Nat} {f : Obj → Obj} (I : Inv X pins σ H s) (h : H p = some (.lst xs))
    (ho : s.heap.get? p = some { cls := .type "list", data := .seq its.toArray n }) (hf : f { cls := .type "list", data := .seq its.toArray n } = { cls := .type "list", data := .seq its'.toArray n' }) (r : Vals ys its') (hz : ys.length ≤ sizeLine) (t : Nat) :
    Inv X pins σ (upd H p (.lst ys)) { s with heap := s.heap.update p f, toks := t } := by
  have e : (s.heap.update p f).get? p = some { cls := .type "list", data := .seq its'.toArray n' } := by
    rw [Heap.get?_update_self f ho (by rw [hf] <;> rfl), hf]
  refine I.write (x := p) (e := p) (by rw [h]; trivial) (.inl rfl) (fun b u hb q => (Heap.get?_update_other _ _ (Ne.symm hb)).trans q) ⟨_, e⟩ ?_
  exact ⟨hz, its', n', r, e⟩
def rSetL : V → V → V → Hp → (Hp → Prop) → Prop := fun o i v H Q => ∃ p xs k j, o = .ref p ∧ i = .int k ∧ H p = some (.lst xs) ∧ ixN xs.length k = some j ∧ Q (upd H p (.lst (xs.set j v)))
theorem set_list : PSet X rSetL := by
  intro pins s σ H o i v ov iv u Q I ro ri rv h
  obtain ⟨p, xs, k, j, rfl, rfl, hp, hj, q⟩ := h
  cases ro
  obtain ⟨t, rfl⟩ := ri
  obtain ⟨its, n, r, ho, hz⟩ := I.lst hp
  obtain ⟨h1, h2, h3, h4⟩ := ixN_seq hj
  have hl := r.length
  have hn := line63
  have I' : Inv X pins σ (upd H p (.lst (xs.set j v))) { s with heap := s.heap.update p (Obj.mapSeq (·.setIfInBounds j u)) } :=
    I.lstUpd hp ho (mapSeq_set its n j u) (r.set rv j) (by rw [List.length_set]; exact hz) s.toks
  by_cases h0 : 0 ≤ k
  · have hk : k.toNat = j := by
      rw [seqIndex_of h0 h4] at h1
      exact Option.some.inj h1
    exact PySem.W.ki_setAt ho h0 (by omega) (by rw [List.size_toArray, ← hl]; exact h4) (by rw [hk]; exact ⟨_, I', q⟩)
  · have hk : (k + (its.toArray.size : Int)).toNat = j := by
      rw [seqIndex_neg (by omega) h3] at h1
      rw [List.size_toArray, ← hl]
      exact Option.some.inj h1
    exact PySem.W.ki_setBack ho (by omega) (by rw [List.size_toArray, ← hl]; exact h3) (by omega) (by rw [hk]; exact ⟨_, I', q⟩)

/-! ### slices -/
theorem slice_bounds (lo hi : Option Int) (n : Nat) : (sliceBounds lo hi none n).1 = ((HT.sIx n 0 lo : Nat) : Int) ∧ (sliceBounds lo hi none n).2.1 = ((HT.sIx n n hi : Nat) : Int) ∧ (sliceBounds lo hi none n).2.2 = 1 := by
  refine ⟨?_, ?_, rfl⟩
  · cases lo with
    | none => simp [sliceBounds, HT.sIx]
    | some i =>
      simp only [sliceBounds, HT.sIx, Option.getD_none, show (1 : Int) > 0 by decide, if_true]
      by_cases h : i < 0
      · simp only [h, if_true] <;> omega
      · simp only [h, if_false] <;> omega
  · cases hi with
    | none => simp [sliceBounds, HT.sIx]
    | some i =>
      simp only [sliceBounds, HT.sIx, Option.getD_none, show (1 : Int) > 0 by decide, if_true]
      by_cases h : i < 0
      · simp only [h, if_true] <;> omega
      · simp only [h, if_false] <;> omega
theorem slicePick_cut (its : List Value) (lo hi : Option Int) : slicePick its.toArray lo hi none = ((its.drop (HT.sIx its.length 0 lo)).take (HT.sIx its.length its.length hi - HT.sIx its.length 0 lo)).toArray := by
  obtain ⟨h1, h2, h3⟩ := slice_bounds lo hi its.toArray.size
  unfold slicePick
  rw [h1, h2, h3]
  simp only [sliceRange_one, pick_run, List.size_toArray] <;> rfl
/-- xs[lo:hi] of a list: a new list -/
def rSlL (K : PySem.W.Frag) : V → Option Int → Option Int → Hp → VK → Prop := fun x lo hi H Q => ∃ a xs, x = .ref a ∧ SqL K H a xs ∧ ∀ p, H p = none → Q (.ref p) (upd H p (.lst (cutV xs lo hi)))
theorem sl_list : SlR X (rSlL X.K) := by
  intro pins s σ H x v vl vu lo hi sl Q I rx hs pl pu h
  obtain ⟨a, xs, rfl, hx, q⟩ := h
  cases rx
  obtain ⟨its, r, ht, hz⟩ := I.list hx
  have hlen := r.length
  refine ⟨"list", _, slot_list_getitem.lookup, ht.isList.typeIs, ?_⟩
  refine wpAny_getItem_list_slice ht.isList hs pl pu .none (by simp) ?_ (by rw [List.size_toArray] <;> omega)
  rw [slicePick_cut, ← hlen]
  refine ⟨.ref s.heap.objs.size, _, I.laid (t' := s.toks) (o := .lst (cutV xs lo hi)) (fun b ob q => Heap.get?_push_of_some _ q) (Nat.le_refl _) ?_, rfl, q _ (I.hok.fresh (Nat.le_refl _))⟩
  exact ⟨Nat.le_trans (cutV_length xs lo hi) hz, _, 0, (r.drop (HT.sIx xs.length 0 lo)).take (HT.sIx xs.length xs.length hi - HT.sIx xs.length 0 lo), Heap.get?_push_size _ rfl⟩


/-! ### len, list(x), tuple(x) of any list or tuple that is read -/
theorem call_len_seq : CallR X (.builtin "len") (fun xs H Q => ∃ p ys, xs = [.ref p] ∧ (SqL X.K H p ys ∨ SqT X.K H p ys) ∧ Q (.int ys.length) H) := by
  intro pins s σ H xs us Q I r h
  obtain ⟨p, ys, rfl, hq, q⟩ := h
  obtain ⟨u, rfl, rx⟩ := vals1 r
  cases rx
  have hn := line63
  rcases hq with hq | hq
  · obtain ⟨its, r', pl, hz⟩ := I.list hq
    have hlen := r'.length
    exact Calls.call_len_list pl.isList (by simp only [List.size_toArray] <;> omega) ⟨.int ys.length, H, I.tok _, ⟨s.toks + 1, by rw [List.size_toArray, hlen]⟩, q⟩
  · obtain ⟨its, r', pl, hz⟩ := I.tuple hq
    have hlen := r'.length
    exact len_tuple pl (by simp only [List.size_toArray] <;> omega) ⟨.int ys.length, H, I.tok _, ⟨s.toks + 1, by rw [List.size_toArray, hlen]⟩, q⟩

/-! ### the call of a builtin's method: o.m(..) -/
/-- the value is of that builtin type -/
def tyV (K : PySem.W.Frag) (T : String) (x : V) (H : Hp) : Prop := match x with
  | .str _ => T = "str"
  | .int _ => T = "int"
  | .ref p => (T = "list" ∧ ∃ xs, SqL K H p xs) ∨ (T = "tuple" ∧ ∃ o, K.lookup p = some o ∧ o.cls = .type "tuple" ∧ o.dict = none) ∨
      (T = "dict" ∧ ((∃ kvs, H p = some (.dK kvs)) ∨ ∃ kvs, H p = some (.dT kvs))) ∨ (T = "set" ∧ ∃ S n, H p = some (.set S n))
  | _ => False
theorem tyV_is {pins : List (Addr × Obj)} {σ : St} {H : Hp} {s : Shared} {T : String} {x : V} {v : Value} (I : Inv X pins σ H s) (r : RelV x v) (ty : tyV X.K T x H) :
    s.TypeIs v T ∧ ∀ a, v = .ref a → ∃ ob, s.heap.get? a = some ob ∧ ob.dict = none := by
  cases x with
  | str z =>
    obtain ⟨t, rfl⟩ := r
    cases (show T = "str" from ty)
    exact ⟨typeIs_str s z t, fun _ e => nomatch e⟩
  | int i =>
    obtain ⟨t, rfl⟩ := r
    cases (show T = "int" from ty)
    exact ⟨typeIs_int s i t, fun _ e => nomatch e⟩
  | ref p =>
    cases r
    rcases ty with ⟨rfl, xs, hq⟩ | ⟨rfl, o, hk, hc, hd⟩ | ⟨rfl, hk⟩ | ⟨rfl, S, n, hk⟩
    · obtain ⟨its, _, pl, _⟩ := I.list hq
      refine ⟨pl.isList.typeIs, fun a e => ?_⟩
      cases e
      obtain ⟨o, n, e, c, hd, _⟩ := pl
      exact ⟨o, e, hd⟩
    · refine ⟨⟨o, I.kIn p o hk, hc⟩, fun a e => ?_⟩
      cases e
      exact ⟨o, I.kIn _ o hk, hd⟩
    · have z : ∃ o, s.heap.get? p = some o ∧ o.ExactDict := by
        rcases hk with ⟨kvs, hk⟩ | ⟨kvs, hk⟩
        · obtain ⟨_, _, _, _, o, _, _, e, ex, _⟩ := I.hok p _ hk
          exact ⟨o, e, ex⟩
        · obtain ⟨_, _, _, _, o, _, _, e, ex, _⟩ := I.hok p _ hk
          exact ⟨o, e, ex⟩
      obtain ⟨o, e, ex⟩ := z
      refine ⟨⟨o, e, ex.1⟩, fun a e2 => ?_⟩
      cases e2
      exact ⟨o, e, ex.2.1⟩
    · obtain ⟨o, _, _, _, e, ex, _⟩ := I.hok p _ hk
      refine ⟨⟨o, e, ex.1⟩, fun a e2 => ?_⟩
      cases e2
      exact ⟨o, e, ex.2.1⟩
  | _ => exact False.elim ty
def tBM (K : PySem.W.Frag) (T : String) (r : V → List V → Hp → VK → Prop) (to : TE) (t : TA) : TE := fun σ H Q => to σ H fun x H1 => tyV K T x H1 ∧ t σ H1 fun xs H2 => r x xs H2 Q
variable {o e : Expr} {es : List Expr} {to : TE} {t : TA} {name : Str} {apos cpos : Pos} {T id : String} {r : V → List V → Hp → VK → Prop}
theorem pe_bm (pa : PlainAttrs T) (slot : Slot T name id) (hty : typeOf (.builtin id) = pure (.type "method_descriptor")) (hm : MtR X id r) (ho : PE X o to) (ha : PA X (e :: es) t)
    (hbase : attributeBase o name X.env (eval o X.env) = eval o X.env := by rfl)
    (hfew : ((backTo cpos (starEach (e :: es) X.env)).all (fun x => !x.1) && (backToKw cpos (keywordEach [] X.env)).all (fun x => x.1.isSome)
      && decide ((e :: es).length + ([] : List Keyword).length + (if ([] : List Keyword).isEmpty then 0 else 1) < 30)) = true := by rfl)
    (hline : (apos.endLine == cpos.line) = true := by rfl) (hs : starEach (e :: es) X.env = (false, eval e X.env) :: starEach es X.env := by rfl) (hplain : (backTo cpos (starEach es X.env)).any (·.1) = false := by rfl) :
    PE X (.Call (.Attribute o name apos) (e :: es) [] cpos) (tBM X.K T r to t) := by
  intro pins s σ H Q I h
  refine wpAny_Call_method_late hbase hfew hline rfl (thn (ho pins s σ H _ I h) fun v s1 ⟨x, H1, I1, r1, ty, q1⟩ => ?_)
  obtain ⟨h1, h2⟩ := tyV_is I1 r1 ty
  refine ⟨T, id, pa, slot, hty, h1, h2, ?_⟩
  have hA := ha cpos pins s1 σ H1 _ I1 q1
  rw [hs] at hA ⊢
  refine Calls.callWith_builtin (by show (false || (backTo cpos (starEach es X.env)).any (·.1)) = false; rw [hplain] <;> rfl) (Calls.evalArgs_plain ?_)
  exact thn hA fun us s2 ⟨vs, H2, I2, r2, q2⟩ => hm pins s2 σ H2 x vs v us Q I2 r1 r2 q2
/- xs.append(e), list.index on a module's tuple .. are MtR facts of 06m -/
end
end L2

namespace L2
open PySem PySem.Spec PyProof.Rows

def MtM (X : Cx) (id : String) (r : V → List V → Hp → VK → Prop) : Prop :=
  ∀ (pins : List (Addr × Obj)) (s : Shared) (σ : St) (H : Hp) (x : V) (xs : List V) (v : Value) (us : List Value) (Q : VK), Inv X pins σ H s → RelV x v → Vals xs us → r x xs H Q →
    wpAny (model X.prog X.w) X.A (call (.builtin id) (v :: us)) (EP X pins σ Q) X.xe s

/-! ### lists of values -/
theorem Vals.one : ∀ {x : V} {us : List Value}, Vals [x] us → ∃ u, us = [u] ∧ RelV x u
  | _, _, .cons r .nil => ⟨_, rfl, r⟩
theorem Vals.rep {xs : List V} {us : List Value} (h : Vals xs us) : ∀ k : Nat, Vals (List.replicate k xs).flatten (List.replicate k us).flatten
  | 0 => .nil
  | k + 1 => by
    rw [List.replicate_succ, List.replicate_succ, List.flatten_cons, List.flatten_cons]
    exact Vals.append h (Vals.rep h k)
theorem foldl_rep (its : List Value) : ∀ (k : Nat) (acc : List Value),
    List.foldl (fun x1 x2 => x1 ++ x2) acc.toArray (List.replicate k its.toArray) = (acc ++ (List.replicate k its).flatten).toArray
  | 0, acc => by simp
  | k + 1, acc => by
    have e : acc.toArray ++ its.toArray = (acc ++ its).toArray := by simp
    have e2 : (acc ++ its) ++ (List.replicate k its).flatten = acc ++ (List.replicate (k + 1) its).flatten := by
      rw [List.replicate_succ, List.flatten_cons, List.append_assoc]
    rw [← e2, ← foldl_rep its k (acc ++ its), ← e, List.replicate_succ, List.foldl_cons]

section
variable {X : Cx} {pins : List (Addr × Obj)} {σ : St} {H : Hp} {s : Shared} {l b : Addr} {xs ys zs : List V}

/-! ### the two steps: a tracked list is rewritten, a new list is laid -/
theorem Inv.lset {its its' : List Value} {n : Nat} {f : Array Value → Array Value} {t' : Nat} (I : Inv X pins σ H s) (hH : H l = some (.lst xs))
    (e : s.heap.get? l = some { cls := .type "list", data := .seq its.toArray n }) (hf : f its.toArray = its'.toArray) (hv : Vals ys its') (hz : ys.length ≤ sizeLine) :
    Inv X pins σ (upd H l (.lst ys)) { s with heap := s.heap.update l (Obj.mapSeq f), toks := t' } := by
  have q := PySem.IsL.update e f
  rw [hf] at q
  refine I.write (x := l) (e := l) (by rw [hH]; exact trivial) (.inl rfl) (fun b' u hb hu => (Heap.get?_update_other s.heap (Obj.mapSeq f) (Ne.symm hb)).trans hu) ⟨_, q⟩ ?_
  exact ⟨hz, its', _, hv, q⟩
theorem Inv.lnew {its : List Value} {t' : Nat} (I : Inv X pins σ H s) (hv : Vals ys its) (hz : ys.length ≤ sizeLine) :
    Inv X pins σ (upd H s.heap.objs.size (.lst ys)) { s with heap := s.heap.push { cls := .type "list", data := .seq its.toArray }, toks := t' } :=
  I.laid (fun _ _ q => Heap.get?_push_of_some _ q) (Nat.le_refl _) ⟨hz, its, 0, hv, Heap.get?_push_size _ rfl⟩
theorem Inv.fresh (I : Inv X pins σ H s) : H s.heap.objs.size = none := I.hok.fresh (Nat.le_refl _)
theorem Inv.lstM (I : Inv X pins σ H s) (hH : H l = some (.lst xs)) : xs.length ≤ sizeLine ∧ ∃ (its : List Value) (n : Nat), Vals xs its ∧ xs.length = its.length ∧ s.heap.get? l = some { cls := .type "list", data := .seq its.toArray n } := by
  obtain ⟨z, its, n, r, e⟩ := I.hok l _ hH
  exact ⟨z, its, n, r, r.length, e⟩

theorem notLongL {n : Nat} (h : n ≤ sizeLine) : Builtin.List.listTooLong n = false := by
  unfold Builtin.List.listTooLong
  exact decide_eq_false (by omega)
end

section
variable {X : Cx}

/-! ### methods -/
def rAppend : V → List V → Hp → VK → Prop := fun x vs H Q => ∃ l xs y, x = .ref l ∧ vs = [y] ∧ H l = some (.lst xs) ∧ xs.length < sizeLine ∧ Q .non (upd H l (.lst (xs ++ [y])))
theorem mt_append : MtM X "list.append" rAppend := by
  intro pins s σ H x vs v us Q I rx rv h
  obtain ⟨l, xs, y, rfl, rfl, hH, hz, q⟩ := h
  cases rx
  obtain ⟨u, rfl, ru⟩ := rv.one
  obtain ⟨z, its, n, r, hl, e⟩ := I.lstM hH
  refine call_meets F.slot_list_append ⟨_, e, rfl⟩ F.entry_list_append (F.args_list_append_2 _ _) (PySem.list_append l its.toArray n u (by rw [List.size_toArray]; omega)) ⟨e, ?_⟩
  refine ⟨.non, _, I.lset (its' := its ++ [u]) hH e (by simp) (r.append (.cons ru .nil)) ?_, rfl, q⟩
  rw [List.length_append, List.length_singleton]
  omega

def rExtend : V → List V → Hp → VK → Prop := fun x vs H Q => ∃ l b xs zs, x = .ref l ∧ vs = [.ref b] ∧ H l = some (.lst xs) ∧ H b = some (.lst zs) ∧ xs.length + zs.length ≤ sizeLine ∧ Q .non (upd H l (.lst (xs ++ zs)))
theorem mt_extend : MtM X "list.extend" rExtend := by
  intro pins s σ H x vs v us Q I rx rv h
  obtain ⟨l, b, xs, zs, rfl, rfl, hH, hB, hz, q⟩ := h
  cases rx
  obtain ⟨u, rfl, ru⟩ := rv.one
  cases ru
  obtain ⟨z, its, n, r, hl, e⟩ := I.lstM hH
  obtain ⟨z2, its2, n2, r2, hl2, e2⟩ := I.lstM hB
  have hsz : its.toArray.size + its2.toArray.size ≤ sizeLine := by rw [List.size_toArray, List.size_toArray]; omega
  have hlong : ¬ (!its.toArray.isEmpty && Builtin.List.listTooLong (its.toArray.size + its2.toArray.size)) = true := by
    rw [notLongL hsz, Bool.and_false]
    exact Bool.false_ne_true
  refine call_meets F.slot_list_extend ⟨_, e, rfl⟩ F.entry_list_extend (F.args_list_extend_2 _ _)
    (AutoSeq1.list_extend_list_list_0 l its.toArray n b its2.toArray n2 hlong (by rw [List.size_toArray]; omega) (by omega)) ⟨e, e2, ?_⟩
  refine ⟨.non, _, I.lset (its' := its ++ its2) hH e (by simp) (r.append r2) ?_, rfl, q⟩
  rw [List.length_append]
  omega





/-! ### list + list, list += list, list * int -/
def rCat : R2 := fun x y H Q => ∃ l b xs zs, x = .ref l ∧ y = .ref b ∧ H l = some (.lst xs) ∧ H b = some (.lst zs) ∧ xs.length + zs.length ≤ sizeLine ∧ ∀ p, H p = none → Q (.ref p) (upd H p (.lst (xs ++ zs)))
theorem op_cat : OpR X (binaryOp .Add) rCat := by
  intro pins s σ H x y v u Q I rx ry h
  obtain ⟨l, b, xs, zs, rfl, rfl, hH, hB, hz, q⟩ := h
  cases rx
  cases ry
  obtain ⟨z, its, n, r, hl, e⟩ := I.lstM hH
  obtain ⟨z2, its2, n2, r2, hl2, e2⟩ := I.lstM hB
  refine PySem.P.add_list e e2 ?_ (by rw [List.size_toArray, List.size_toArray]; omega)
  have ea : its.toArray ++ its2.toArray = (its ++ its2).toArray := by simp
  rw [ea]
  exact ⟨.ref _, _, I.lnew (t' := s.toks) (r.append r2) (by rw [List.length_append]; omega), rfl, q _ I.fresh⟩
/-- a list times an int (a negative one is nothing) -/
def rRep : R2 := fun x y H Q => ∃ l k xs, x = .ref l ∧ y = .int k ∧ H l = some (.lst xs) ∧ -(2 ^ 63) ≤ k ∧ k < 2 ^ 63 ∧ xs.length * k.toNat ≤ sizeLine ∧
  ∀ p, H p = none → Q (.ref p) (upd H p (.lst (List.replicate k.toNat xs).flatten))
theorem len_rep {α : Type} (xs : List α) (k : Nat) : (List.replicate k xs).flatten.length = k * xs.length := by
  induction k with
  | zero => simp
  | succ k ih => rw [List.replicate_succ, List.flatten_cons, List.length_append, ih, Nat.succ_mul, Nat.add_comm]
theorem op_rep : OpR X (binaryOp .Mult) rRep := by
  intro pins s σ H x y v u Q I rx ry h
  obtain ⟨l, k, xs, rfl, rfl, hH, h1, h2, hz, q⟩ := h
  cases rx
  obtain ⟨t, rfl⟩ := ry
  obtain ⟨z, its, n, r, hl, e⟩ := I.lstM hH
  have hlen : its.toArray.size * k.toNat ≤ sizeLine := by rw [List.size_toArray, ← hl]; exact hz
  have hcap : ¬ its.toArray.size * k.toNat > (2 ^ 63 - 1) / 8 := by
    have : (sizeLine : Nat) ≤ (2 ^ 63 - 1) / 8 := by decide
    omega
  have hfit : ¬ (!Builtin.List.listFitsIndex k) = true := by
    rw [fitsIndex_both h1 h2]
    exact Bool.false_ne_true
  have hlong : ¬ Builtin.List.listTooLong (its.toArray.size * k.toNat) = true := by
    rw [notLongL hlen]
    exact Bool.false_ne_true
  have hnew : List.foldl (fun x1 x2 => x1 ++ x2) #[] (List.replicate (if its.toArray.isEmpty = true then 0 else k.toNat) its.toArray) = (List.replicate k.toNat its).flatten.toArray := by
    have f0 : ∀ m : Nat, List.foldl (fun x1 x2 => x1 ++ x2) #[] (List.replicate m its.toArray) = (List.replicate m its).flatten.toArray := fun m => by
      have := foldl_rep its m []
      rw [List.nil_append] at this
      exact this
    rw [f0]
    cases its with
    | nil => simp
    | cons a r' => rw [if_neg (by simp)]
  refine wpAny_binaryOp_repeat_ref (T := "list") (U := "int") (by decide) ⟨_, e, rfl⟩ (fun s' => typeIs_int s' k t) noFill_list_mul F.fills_int_mul F.slot_int_rmul repeat_list F.slot_int_index.lookup
    (call_meets F.slot_int_rmul (typeIs_int s k t) F.entry_int_rmul (F.args_int_rmul_2 _ _) (int___rmul___int_list k t l its.toArray n)
      ⟨e, rfl, ⟨_, e, rfl⟩, call_meets F.slot_list_mul ⟨_, e, rfl⟩ F.entry_list_mul (F.args_list_mul_2 _ _) (AutoListH.list___mul___list_int_3 l its.toArray n k t hfit hcap hlong) ⟨e, ?_⟩⟩)
  rw [hnew]
  exact ⟨.ref _, _, I.lnew (t' := s.toks) (r.rep k.toNat) (by rw [len_rep, Nat.mul_comm]; exact hz), rfl, q _ I.fresh⟩

end

/-! ### xs[a:b] = ys -/
section
variable {prog : Program} {w : World} {A : Around} {E : Value → Shared → Prop} {s : Shared}
end

section
variable {X : Cx}
end
end L2

namespace L2
open PySem PySem.Spec PyProof.Rows

theorem Vals.bls : ∀ {bs : List Bool} {us : List Value}, Vals (bs.map V.bl) us → us = bs.map Value.bool
  | [], us, h => by
    rw [List.map_nil] at h
    cases h
    rfl
  | b :: bs, us, h => by
    rw [List.map_cons] at h
    cases h with
    | cons r t =>
      cases r
      rw [Vals.bls t, List.map_cons]
theorem Vals.ref1 {a : Addr} {us : List Value} (r : Vals [V.ref a] us) : us = [Value.ref a] := by
  cases r with
  | cons r t =>
    cases t
    cases r
    rfl

/-! ### the library's walks over a list of ints, kept objects alone -/
section
variable {prog : Program} {w : World} {A : Around} {E : Value → Shared → Prop} {s : Shared} {l : Addr} {its : List Value} {ns : List Int} {Q : Value → Shared → Prop}
end

/-! ### the calls, by values (CallR of 03t; MtR of 06l) -/
section
variable {X : Cx}

end

/-! ### list.index, flat items -/
section
variable {X : Cx}
end

/-! ### type(x) of an own instance; is, is not of a module's class -/
section
variable {X : Cx}
end

/-! ### any(xs), all(xs) of a list of bools -/
theorem iter_any {prog : Program} {w : World} {A : Around} {E : Value → Shared → Prop} {s : Shared} {l : Addr} {items : Array Value} {Q : Value → Shared → Prop} (hl : s.heap.IsList l items)
    (h : ∀ s₂ : Shared, s₂ = { s with heap := s.heap.push { cls := .type "list_iterator", data := .fields #[.ref l, .int 0 0] } } →
      (s₂.heap.IsListIter s.heap.objs.size l 0 ∧ s₂.heap.IsList l items) → l ≠ s.heap.objs.size → Q (.ref s.heap.objs.size) s₂) : wpAny (model prog w) A (pyIter (.ref l)) Q E s := by
  have hlt : l < s.heap.objs.size := by obtain ⟨_, e, _⟩ := hl; exact Heap.lt_size e
  exact wpAny_pyIter_list hl (h _ rfl ⟨⟨_, Heap.get?_push_size _ rfl, rfl, rfl⟩, hl.push _⟩ (Nat.ne_of_lt hlt))
theorem truth_bools {prog : Program} {w : World} {A : Around} {bs : List Bool} {its : List Value} (e : its = bs.map Value.bool) :
    TruthOf prog w A (fun i v => its.toArray[i]? = some v) (fun i => bs.getD i false) := fun i v s Q E hv hq => by
  have hv' : its[i]? = some v := by simpa using hv
  rw [e, List.getElem?_map] at hv'
  obtain ⟨b, hb, rfl⟩ := Option.map_eq_some_iff.mp hv'
  have hg : bs.getD i false = b := by rw [List.getD_eq_getElem?_getD, hb] <;> rfl
  have hq' : Q (bs.getD i false) s := hq
  rw [hg] at hq'
  exact wpAny_truthy_bool hq'
theorem all_range : ∀ bs : List Bool, (List.range bs.length).all (fun i => bs.getD i false) = bs.all id
  | [] => rfl
  | b :: bs => by
    rw [List.length_cons, List.range_succ_eq_map, List.all_cons, List.all_map, List.all_cons, ← all_range bs]
    all_goals rfl
section
variable {X : Cx}
def rAll (K : PySem.W.Frag) : List V → Hp → VK → Prop := fun vs H Q => ∃ (a : Addr) (bs : List Bool), vs = [V.ref a] ∧ SqL K H a (bs.map V.bl) ∧ Q (.bl (bs.all id)) H
theorem cr_all (hc : X.calm = true) : CallR X (.builtin "all") (rAll X.K) := by
  intro pins s σ H vs us Q I r h
  obtain ⟨a, bs, rfl, hs, q⟩ := h
  obtain ⟨its, rv, hl, _⟩ := I.list hs
  rw [Vals.ref1 r]
  have hb := rv.bls
  refine call_all_walk (iter_any hl.isList fun s₂ e2 st hne => ?_)
  subst e2
  refine ⟨_, _, _, _, _, _, _, rfl, Walks.list (A := X.A.in1) (I.ok.hd hc) _ a hne its.toArray, st, truth_bools hb, fun h' tk hk => ?_⟩
  refine ⟨.bl _, H, I.kept fun b o eo => hk b o (fun hmem => ?_) (Heap.get?_push_of_some _ eo), ?_, q⟩
  · rcases List.mem_cons.mp hmem with e1 | hmem
    · exact absurd (e1 ▸ Heap.lt_size eo) (Nat.lt_irrefl _)
    · cases hmem
  · show Value.bool _ = Value.bool _
    rw [← all_range, hb, List.size_toArray, List.length_map]
end

section
variable {X : Cx} {pins : List (Addr × Obj)} {σ : St} {H : Hp} {s : Shared}
end
section
variable {X : Cx}
end
end L2

namespace L2
open PySem PySem.Spec PyProof.Rows
abbrev CellAt (h : Heap) (c : Addr) (v : Option Value) : Prop := h.IsCell c v
def relS (scope sc : Scope) : Scope :=
  { scope with names := scope.names.map fun (n, k) => if (k == .free && sc.kind == .function && sc.names.lookup n == some .cell) then (n, .cell) else (n, k) }

def cloFrom (cells : List (Str × Addr)) : List (Str × NameKind) → List (Str × Addr) → List (Str × Addr)
  | [], acc => acc
  | (n, k) :: r, acc => if k == .free then cloFrom cells r ((n, (cells.lookup n).getD 0) :: acc) else cloFrom cells r acc

theorem closure_loop (env : Env) (f : Str × NameKind → List (Str × Addr) → Sem (ForInStep (List (Str × Addr))))
    (hf : ∀ n k c, f (n, k) c = if k == .free then (do let a ← cellOf env n; pure (.yield ((n, a) :: c))) else pure (.yield c)) :
    ∀ (names : List (Str × NameKind)) (acc : List (Str × Addr)), (∀ y ∈ names, y.2 = .free → ∃ c, env.cells.lookup y.1 = some c) → forIn names acc f = pure (cloFrom env.cells names acc)
  | [], acc, _ => by rw [List.forIn_nil]; rfl
  | (n, k) :: r, acc, h => by
    rw [List.forIn_cons, hf]
    have ih := fun acc => closure_loop env f hf r acc fun y hy => h y (List.mem_cons_of_mem _ hy)
    unfold cloFrom
    by_cases hk : (k == NameKind.free) = true
    · rw [if_pos hk, if_pos hk]
      obtain ⟨c, hc⟩ := h (n, k) List.mem_cons_self (by simpa using hk)
      have e : cellOf env n = pure c := by unfold cellOf; rw [hc]
      rw [e]
      have e2 : (env.cells.lookup n).getD 0 = c := by rw [hc]; rfl
      rw [e2]
      exact ih _
    · rw [if_neg hk, if_neg hk]
      exact ih _
theorem closure_ok {scope : Scope} {env : Env} (h : ∀ y ∈ scope.names, y.2 = .free → ∃ c, env.cells.lookup y.1 = some c) : closureFor scope env = pure (cloFrom env.cells scope.names []) := by
  simp only [closureFor]
  rw [closure_loop env _ (fun n k c => rfl) scope.names [] h]
  rfl

theorem mem_lookup {α : Type} : ∀ {l : List (Str × α)} {n : Str} {c : α}, (n, c) ∈ l → ∃ c', l.lookup n = some c'
  | (k, v) :: r, n, c, h => by
    rw [List.lookup_cons]
    cases hb : n == k with
    | true => exact ⟨_, rfl⟩
    | false =>
      rcases List.mem_cons.mp h with e | h
      · cases e; simp at hb
      · exact mem_lookup h

theorem cloFrom_mem {cells : List (Str × Addr)} : ∀ {names : List (Str × NameKind)} {acc : List (Str × Addr)} {n : Str} {c : Addr}, (n, c) ∈ cloFrom cells names acc → (n, c) ∈ acc ∨ ((n, .free) ∈ names ∧ c = (cells.lookup n).getD 0)
  | [], _, _, _, h => .inl h
  | (m, k) :: r, acc, n, c, h => by
    unfold cloFrom at h
    split at h
    · rename_i hk
      have hk : k = .free := by simpa using hk
      rcases cloFrom_mem h with h | ⟨h1, h2⟩
      · rcases List.mem_cons.mp h with e | h
        · cases e; exact .inr ⟨hk ▸ List.mem_cons_self, rfl⟩
        · exact .inl h
      · exact .inr ⟨List.mem_cons_of_mem _ h1, h2⟩
    · rcases cloFrom_mem h with h | ⟨h1, h2⟩
      · exact .inl h
      · exact .inr ⟨List.mem_cons_of_mem _ h1, h2⟩
theorem cloFrom_acc {cells : List (Str × Addr)} : ∀ {names : List (Str × NameKind)} {acc : List (Str × Addr)} {p : Str × Addr}, p ∈ acc → p ∈ cloFrom cells names acc
  | [], _, _, h => h
  | (m, k) :: r, acc, p, h => by
    unfold cloFrom
    split
    · exact cloFrom_acc (List.mem_cons_of_mem _ h)
    · exact cloFrom_acc h
theorem cloFrom_has {cells : List (Str × Addr)} : ∀ {names : List (Str × NameKind)} {acc : List (Str × Addr)} {n : Str}, (n, .free) ∈ names → (n, (cells.lookup n).getD 0) ∈ cloFrom cells names acc
  | (m, k) :: r, acc, n, h => by
    unfold cloFrom
    rcases List.mem_cons.mp h with e | h
    · cases e
      exact cloFrom_acc List.mem_cons_self
    · split
      · exact cloFrom_has h
      · exact cloFrom_has h

theorem cells_mem : ∀ {names : List (Str × NameKind)} {h : Heap} {acc : List (Str × Addr)} {x : Str} {c : Addr}, (x, c) ∈ cellsFrom h.objs.size names acc →
    (x, c) ∈ acc ∨ ((x, .cell) ∈ names ∧ h.objs.size ≤ c ∧ CellAt (pushCells h names) c none)
  | [], _, _, _, _, h => .inl h
  | (n, k) :: r, h, acc, x, c, hm => by
    unfold cellsFrom at hm
    unfold pushCells
    split at hm
    · rename_i hk
      rw [if_pos hk]
      have hk : k = .cell := by simpa using hk
      rw [← Heap.size_push h { cls := .type "cell", data := .cell none }] at hm
      rcases cells_mem hm with hm | ⟨h1, h2, h3⟩
      · rcases List.mem_cons.mp hm with e | hm
        · cases e
          exact .inr ⟨hk ▸ List.mem_cons_self, Nat.le_refl _, _, pushCells_keeps r _ _ _ (Heap.get?_push_size _ rfl), rfl⟩
        · exact .inl hm
      · rw [Heap.size_push] at h2
        exact .inr ⟨List.mem_cons_of_mem _ h1, Nat.le_of_succ_le h2, h3⟩
    · rename_i hk
      rw [if_neg hk]
      rcases cells_mem hm with hm | ⟨h1, h2, h3⟩
      · exact .inl hm
      · exact .inr ⟨List.mem_cons_of_mem _ h1, h2, h3⟩
theorem cells_acc : ∀ {names : List (Str × NameKind)} {n : Nat} {acc : List (Str × Addr)} {p : Str × Addr}, p ∈ acc → p ∈ cellsFrom n names acc
  | [], _, _, _, h => h
  | (m, k) :: r, n, acc, p, h => by
    unfold cellsFrom
    split
    · exact cells_acc (List.mem_cons_of_mem _ h)
    · exact cells_acc h
theorem cells_has : ∀ {names : List (Str × NameKind)} {n : Nat} {acc : List (Str × Addr)} {x : Str}, (x, .cell) ∈ names → ∃ c, (x, c) ∈ cellsFrom n names acc
  | (m, k) :: r, n, acc, x, h => by
    unfold cellsFrom
    rcases List.mem_cons.mp h with e | h
    · cases e
      exact ⟨n, cells_acc List.mem_cons_self⟩
    · split
      · exact cells_has h
      · exact cells_has h
theorem cells_inj : ∀ {names : List (Str × NameKind)} {h : Heap} {acc : List (Str × Addr)} {x y : Str} {c : Addr}, (∀ p ∈ acc, p.2 < h.objs.size) → (∀ x y c, (x, c) ∈ acc → (y, c) ∈ acc → x = y) →
    (x, c) ∈ cellsFrom h.objs.size names acc → (y, c) ∈ cellsFrom h.objs.size names acc → x = y
  | [], _, _, _, _, _, _, hi, h1, h2 => hi _ _ _ h1 h2
  | (n, k) :: r, h, acc, x, y, c, hl, hi, h1, h2 => by
    unfold cellsFrom at h1 h2
    split at h1
    · rename_i hk
      rw [if_pos hk] at h2
      rw [← Heap.size_push h { cls := .type "cell", data := .cell none }] at h1 h2
      refine cells_inj (h := h.push _) (fun p hp => ?_) (fun x y c a b => ?_) h1 h2
      · rw [Heap.size_push]
        rcases List.mem_cons.mp hp with rfl | hp
        · exact Nat.lt_succ_self _
        · exact Nat.lt_succ_of_lt (hl p hp)
      · rcases List.mem_cons.mp a with e | a <;> rcases List.mem_cons.mp b with e' | b
        · cases e; cases e'; rfl
        · cases e; exact absurd (hl _ b) (Nat.lt_irrefl _)
        · cases e'; exact absurd (hl _ a) (Nat.lt_irrefl _)
        · exact hi _ _ _ a b
    · rename_i hk
      rw [if_neg hk] at h2
      exact cells_inj hl hi h1 h2

theorem newEnv_comp {M : Model} {A : Around} {E : Value → Shared → Prop} {s : Shared} {scope : Scope} {globals : Addr} {closure : List (Str × Addr)} {qual : Str} {func : Option Addr} {code : Value} {around : Env} {builtins : Addr} {Q : Env → Shared → Prop}
    (h : Q (newEnv scope s.heap.objs.size globals (cellsFrom (s.heap.objs.size + 1) scope.names closure) qual func code (some around) builtins)
      { s with heap := pushCells (s.heap.push { cls := .type "dict", data := .dict #[] }) scope.names }) :
    wpAny M A (newFunctionEnv scope globals closure [] qual func code (some around) builtins) Q E s := by
  simp only [newFunctionEnv, Option.isSome_some, if_true]
  refine wpAny_bind (wpAny_alloc ?_)
  refine wpAny_bind (wpAny_layCells _ (fun n k c => rfl) scope.names closure _ _ ?_)
  rw [show ({ s with heap := s.heap.push { cls := .type "dict", data := .dict #[] } } : Shared).heap.objs.size = s.heap.objs.size + 1 from Heap.size_push ..]
  rw [List.forIn_nil]
  exact wpAny_bind (wpAny_pure (wpAny_pure h))

/-- every name of the written scope, in the scope that runs -/
theorem lookup_relS {sc : Scope} : ∀ {names : List (Str × NameKind)} {x : Str} {k : NameKind},
    (names.map fun (n, k) => if (k == NameKind.free && sc.kind == .function && sc.names.lookup n == some .cell) then (n, NameKind.cell) else (n, k)).lookup x = some k →
    ∃ k', names.lookup x = some k' ∧ (k = k' ∨ (k' = .free ∧ k = .cell))
  | [], _, _, h => by simp at h
  | (n, k₀) :: r, x, k, h => by
    have ih := @lookup_relS sc r x k
    have h' : List.lookup x ((if (k₀ == NameKind.free && sc.kind == .function && sc.names.lookup n == some .cell) = true then (n, NameKind.cell) else (n, k₀)) :: (r.map _)) = some k := h
    cases hx : x == n with
    | true =>
      simp only [List.lookup_cons, hx]
      by_cases hc : (k₀ == NameKind.free && sc.kind == .function && sc.names.lookup n == some .cell) = true
      · rw [if_pos hc] at h'
        simp only [List.lookup_cons, hx] at h'
        cases h'
        simp only [Bool.and_eq_true, beq_iff_eq] at hc
        exact ⟨k₀, rfl, .inr ⟨hc.1.1, rfl⟩⟩
      · rw [if_neg hc] at h'
        simp only [List.lookup_cons, hx] at h'
        cases h'
        exact ⟨_, rfl, .inl rfl⟩
    | false =>
      simp only [List.lookup_cons, hx]
      by_cases hc : (k₀ == NameKind.free && sc.kind == .function && sc.names.lookup n == some .cell) = true
      · rw [if_pos hc] at h'
        simp only [List.lookup_cons, hx] at h'
        exact ih h'
      · rw [if_neg hc] at h'
        simp only [List.lookup_cons, hx] at h'
        exact ih h'



/-- the names of a comprehension's block: its own (with their places in N), or captured -/
structure BlkOk (N : List Str) (sc scope : Scope) (own : List (Str × Nat)) : Prop where
  kind : scope.kind = .function
  uniq : ∀ y ∈ scope.names, scope.names.lookup y.1 = some y.2
  ix : ∀ p ∈ own, N[p.2]? = some p.1
  free : ∀ y ∈ scope.names, y.2 = .free → sc.names.lookup y.1 = some .cell ∨ sc.names.lookup y.1 = some .free
  own : ∀ y ∈ scope.names, y.2 = .local ∨ y.2 = .cell → y.1 ∈ own.map (·.1) ∨ y.1 ∉ N
/-- the slots of the block's own names forgotten -/
def wipe (σ : St) : List Nat → St
  | [] => σ
  | v :: vs => (wipe σ vs).set v none
theorem wipe_length (σ : St) : ∀ vs : List Nat, (wipe σ vs).length = σ.length
  | [] => rfl
  | v :: vs => by unfold wipe; rw [List.length_set, wipe_length σ vs]
theorem wipe_some {σ : St} {i : Nat} {x : V} : ∀ {vs : List Nat}, (wipe σ vs)[i]? = some (some x) → σ[i]? = some (some x) ∧ i ∉ vs
  | [], h => ⟨h, by simp⟩
  | v :: vs, h => by
    unfold wipe at h
    by_cases hi : v = i
    · subst hi
      by_cases hv : v < (wipe σ vs).length
      · rw [List.getElem?_set_self hv] at h; cases h
      · rw [List.getElem?_eq_none (by simpa using hv)] at h; cases h
    · rw [List.getElem?_set_ne hi] at h
      obtain ⟨h1, h2⟩ := wipe_some h
      exact ⟨h1, by simp only [List.mem_cons, not_or]; exact ⟨fun e => hi e.symm, h2⟩⟩

/-- the context of a block that starts at s, its iterator's objects at fp -/
abbrev Cx.blk (X : Cx) (s : Shared) (H : Hp) (scope : Scope) (cenv : Env) (fp : List Addr) : Cx := { X with s_0 := s, H_0 := H, env := cenv, outer := X.stack, ex := fp, fn := fun x => scope.names.lookup x == some .cell, pn := [], xe := fun _ _ => False }
section
variable {X : Cx} {pins : List (Addr × Obj)} {σ : St} {H : Hp} {s : Shared}
theorem block_start {scope : Scope} {own : List (Str × Nat)} {fp : List Addr} (I : Inv X pins σ H s) (ok : BlkOk X.N X.env.scope scope own) (hN : X.N.Nodup) (hfp : ∀ b ∈ fp, FpOk X pins H b ∧ b < s.heap.objs.size) :
    Inv (X.blk s H scope (compEnvC scope (cellsFrom (s.heap.objs.size + 1) scope.names (cloFrom X.env.cells scope.names [])) s.heap.objs.size X.env) fp) [] (wipe σ (own.map (·.2))) H { s with heap := pushCells (s.heap.push { cls := .type "dict", data := .dict #[] }) scope.names } := by
  have hfree : ∀ y ∈ scope.names, y.2 = .free → ∃ c, X.env.cells.lookup y.1 = some c := fun y hy e => by
    rcases ok.free y hy e with k | k
    · exact I.ok.has _ (.inl k)
    · exact I.ok.has _ (.inr k)
  generalize hcenv : compEnvC scope (cellsFrom (s.heap.objs.size + 1) scope.names (cloFrom X.env.cells scope.names [])) s.heap.objs.size X.env = cenv
  have kp : ∀ b o, s.heap.get? b = some o → (pushCells (s.heap.push { cls := .type "dict", data := .dict #[] }) scope.names).get? b = some o := fun b o e => pushCells_keeps _ _ _ _ (Heap.get?_push_of_some _ e)
  have hL : cenv.locals = s.heap.objs.size := by rw [← hcenv]; rfl
  have hcl : cenv.cells = cellsFrom (s.heap.objs.size + 1) scope.names (cloFrom X.env.cells scope.names []) := by rw [← hcenv]; rfl
  have hsc : cenv.scope = relS scope X.env.scope := by rw [← hcenv]; rfl
  rw [← Heap.size_push s.heap { cls := .type "dict", data := .dict #[] }] at hcl
  have cm : ∀ {y c}, (y, c) ∈ cloFrom X.env.cells scope.names [] → X.env.cells.lookup y = some c ∧ c < s.heap.objs.size := fun {y c} hm => by
    rcases cloFrom_mem hm with hm | ⟨h1, rfl⟩
    · cases hm
    · obtain ⟨c, hc⟩ := hfree _ h1 rfl
      rw [hc]
      obtain ⟨w, z⟩ := I.cell _ _ hc
      exact ⟨rfl, z.lt⟩
  have mem : ∀ {y c}, cenv.cells.lookup y = some c → (X.env.cells.lookup y = some c ∧ c < s.heap.objs.size) ∨ (s.heap.objs.size + 1 ≤ c ∧ CellAt (pushCells (s.heap.push { cls := .type "dict", data := .dict #[] }) scope.names) c none) := fun {y c} e => by
    rw [hcl] at e
    rcases cells_mem (PySem.mem_of_lookup e) with hm | ⟨_, h2, h3⟩
    · exact .inl (cm hm)
    · rw [Heap.size_push] at h2; exact .inr ⟨h2, h3⟩
  have look : ∀ {y}, scope.names.lookup y = some .free → ∃ c, cenv.cells.lookup y = some c ∧ X.env.cells.lookup y = some c := fun {y} hl => by
    have hy : (y, NameKind.free) ∈ scope.names := PySem.mem_of_lookup hl
    obtain ⟨c', e'⟩ := mem_lookup (cells_acc (names := scope.names) (n := (s.heap.push { cls := .type "dict", data := .dict #[] }).objs.size) (cloFrom_has (cells := X.env.cells) (acc := []) hy))
    rw [← hcl] at e'
    refine ⟨c', e', ?_⟩
    rw [hcl] at e'
    rcases cells_mem (PySem.mem_of_lookup e') with hm | ⟨h1, _, _⟩
    · exact (cm hm).1
    · have := ok.uniq _ h1
      rw [hl] at this; cases this
  have okB : (X.blk s H scope cenv fp).Ok := by
    refine ⟨I.ok.mod, by show cenv.scope.kind = _; rw [hsc]; exact ok.kind, by show cenv.globals = _; rw [← hcenv]; exact I.ok.glob, by show cenv.builtins = _; rw [← hcenv]; exact I.ok.blt, by show s.heap.objs.size ≤ cenv.locals; rw [hL]; exact Nat.le_refl _,
      fun y z c e1 e2 => ?_, fun y hy => ?_, fun y c z e => ?_, I.ok.hd, I.ok.frames, .inl rfl, fun b hb => ⟨?_, fun y c e z => ?_⟩, I.bs, Nat.le_trans I.ok.bsz I.sz, fun b o e hb => ?_, fun b hb z => ?_, I.stack, I.stkFree⟩
    · have e1 : cenv.cells.lookup y = some c := e1
      have e2 : cenv.cells.lookup z = some c := e2
      rw [hcl] at e1 e2
      refine cells_inj (fun p hp => ?_) (fun y z c a b => I.ok.inj y z c (cm a).1 (cm b).1) (PySem.mem_of_lookup e1) (PySem.mem_of_lookup e2)
      rw [Heap.size_push]
      exact Nat.lt_succ_of_lt (cm (y := p.1) (c := p.2) hp).2
    · show ∃ c, cenv.cells.lookup y = some c
      have key : ∀ k, cenv.kindOf y = some k → (k = .cell ∨ k = .free) → ∃ c, cenv.cells.lookup y = some c := fun k hk hk' => by
        unfold Env.kindOf at hk
        rw [hsc] at hk
        obtain ⟨k', e, r⟩ := lookup_relS hk
        have : k' = .cell ∨ k' = .free := by
          rcases r with rfl | ⟨rfl, _⟩
          · exact hk'
          · exact .inr rfl
        rcases this with rfl | rfl
        · obtain ⟨c, hm⟩ := cells_has (n := (s.heap.push { cls := .type "dict", data := .dict #[] }).objs.size) (acc := cloFrom X.env.cells scope.names []) (PySem.mem_of_lookup e)
          obtain ⟨c', e'⟩ := mem_lookup hm
          exact ⟨c', by rw [hcl]; exact e'⟩
        · obtain ⟨c, h1, _⟩ := look e
          exact ⟨c, h1⟩
      rcases hy with hy | hy
      · exact key _ hy (.inl rfl)
      · exact key _ hy (.inr rfl)
    · have z : (scope.names.lookup y == some NameKind.cell) = true := z
      have z : scope.names.lookup y = some .cell := by simpa using z
      have e : cenv.cells.lookup y = some c := e
      rw [hcl] at e
      rcases cells_mem (PySem.mem_of_lookup e) with hm | ⟨_, h2, _⟩
      · rcases cloFrom_mem hm with hm | ⟨h1, _⟩
        · cases hm
        · have q := ok.uniq _ h1
          rw [z] at q; cases q
      · rw [Heap.size_push] at h2
        exact Nat.le_of_succ_le h2
    · show b ≠ cenv.locals
      rw [hL]; exact Nat.ne_of_lt (hfp b hb).2
    · have e : cenv.cells.lookup y = some c := e
      rcases mem e with ⟨h1, _⟩ | ⟨h1, _⟩
      · exact (hfp b hb).1.2.2.2.2.1 y c h1 z
      · have h2 : s.heap.objs.size + 1 ≤ b := by rw [← z]; exact h1
        exact absurd (Nat.lt_of_lt_of_le (hfp b hb).2 (Nat.le_of_succ_le h2)) (Nat.lt_irrefl _)
    · rcases (hfp b hb).1.2.2.2.1 with z | z
      · exact I.ok.noex b o e z
      · exact absurd (Nat.lt_of_lt_of_le (Heap.lt_size e) (Nat.le_trans I.ok.bsz z)) (Nat.lt_irrefl _)
    · rcases List.mem_cons.mp (I.stkSub b z) with z | z
      · exact (hfp b hb).1.2.1 z
      · exact (hfp b hb).1.2.2.1 z
  refine ⟨okB, rfl, I.bare, Un.kept kp, ⟨fun _ => none, ?_, fun i y av e1 e2 e3 => ?_⟩, fun y c e => ?_, ?_, fun y c e => ?_, fun p hp => ?_, I.hok.kept kp, by rw [wipe_length]; exact I.len⟩
  · show Heap.Ns _ cenv.locals _
    rw [hL]
    exact Heap.Ns.keeps (Heap.Ns.new ..) fun b o e => pushCells_keeps _ _ _ _ e
  · obtain ⟨e2, hne⟩ := wipe_some e2
    have hfr : scope.names.lookup y = some .free ∧ (cenv.kindOf y = some .cell ∨ cenv.kindOf y = some .free) := by
      have key : ∀ k, cenv.scope.names.lookup y = some k → k = .local ∨ k = .cell ∨ k = .free → scope.names.lookup y = some .free ∧ (cenv.kindOf y = some .cell ∨ cenv.kindOf y = some .free) := fun k hk hk' => by
        have hk0 := hk
        rw [hsc] at hk
        obtain ⟨k', e, r⟩ := lookup_relS hk
        have no : ¬ (k' = .local ∨ k' = .cell) := fun hh => by
          rcases ok.own _ (PySem.mem_of_lookup e) hh with e' | e'
          · obtain ⟨p, hp, hpy⟩ := List.mem_map.mp e'
            have e3 := ok.ix p hp
            have : p.1 = y := hpy
            rw [this] at e3
            exact hne (List.mem_map.mpr ⟨p, hp, nodup_ix hN e3 e1⟩)
          · exact e' (List.mem_of_getElem? e1)
        rcases r with rfl | ⟨rfl, rfl⟩
        · rcases hk' with rfl | rfl | rfl
          · exact absurd (.inl rfl) no
          · exact absurd (.inr rfl) no
          · exact ⟨e, .inr hk0⟩
        · exact ⟨e, .inl hk0⟩
      have e3 : Vis cenv.scope y := e3
      rcases e3 with e3 | e3 | e3
      · exact key _ e3 (.inl rfl)
      · exact key _ e3 (.inr (.inl rfl))
      · exact key _ e3 (.inr (.inr rfl))
    obtain ⟨m, hn, hl⟩ := I.loc
    have hvis : Vis X.env.scope y := (ok.free _ (PySem.mem_of_lookup hfr.1) rfl).elim (fun k => .inr (.inl k)) (fun k => .inr (.inr k))
    obtain ⟨w, r, q⟩ := hl i y av e1 e2 hvis
    refine ⟨w, r, .inr ⟨hfr.2, ?_⟩⟩
    obtain ⟨c, h1, h2⟩ := look hfr.1
    rcases q with ⟨k, _⟩ | ⟨_, c', e', z⟩
    · have k : X.env.scope.names.lookup y = some .local := k
      rcases ok.free _ (PySem.mem_of_lookup hfr.1) rfl with k' | k' <;> rw [show X.env.scope.names.lookup y = _ from k'] at k <;> cases k
    · rw [h2] at e'; cases e'
      exact ⟨c, h1, z.keeps kp⟩
  · have e : cenv.cells.lookup y = some c := e
    rcases mem e with ⟨h1, _⟩ | ⟨_, z⟩
    · obtain ⟨w, z⟩ := I.cell y c h1
      exact ⟨w, z.keeps kp⟩
    · exact ⟨_, z⟩
  · show H cenv.locals = none
    rw [hL]; exact I.hok.fresh (Nat.le_refl _)
  · have e : cenv.cells.lookup y = some c := e
    rcases mem e with ⟨h1, _⟩ | ⟨h1, _⟩
    · exact I.freeC y c h1
    · exact I.hok.fresh (Nat.le_of_succ_le h1)
  · exact absurd (show p ∈ ([] : List (Addr × Obj)) ++ [] from hp) (by simp)

/-- an item appended to a tracked list -/
theorem app_ok {E : Value → Shared → Prop} {D : Addr} {xs : List V} {y : V} {v : Value} {Q : Value → Shared → Prop} (I : Inv X pins σ H s) (hD : H D = some (.lst xs)) (hz : xs.length < sizeLine) (r : RelV y v)
    (h : ∀ s', Inv X pins σ (upd H D (.lst (xs ++ [y]))) s' → Q .none s') : wpAny (model X.prog X.w) X.A (call (.builtin "list.append") [.ref D, v]) Q E s := by
  obtain ⟨hz', its, n, ri, e⟩ := I.hok D _ hD
  have hl := ri.length
  refine append_at (hsz := by rw [List.size_toArray]; omega) e fun h' sb ho' => ?_
  refine h { s with heap := h' } (I.write (t' := s.toks) (by rw [hD]; trivial) (.inl rfl) (fun b u hb q => (sb.2 b hb).trans q) ⟨_, ho'⟩ ⟨by rw [List.length_append]; exact hz, its ++ [v], n + 1, ri.append (.cons r .nil), ?_⟩)
  rw [ho']
  simp

/-- a clause's tests -/
def PTs (X : Cx) (ifs : List Expr) (t : TT) : Prop :=
  ∀ (pins : List (Addr × Obj)) (s : Shared) (σ : St) (H : Hp) (Q : Bool → Hp → Prop), Inv X pins σ H s → t σ H Q →
    wpAny (model X.prog X.w) X.A (forIn ifs true fun c r => if r = true then do let ok ← isTrue c X.env (eval c X.env); pure (ForInStep.yield ok) else pure (ForInStep.yield r)) (TP X pins σ Q) X.xe s
def tYes : TT := fun _ H Q => Q true H
theorem pts_nil : PTs X [] tYes := fun _ _ _ H _ I h => wpAny_tests_nil ⟨H, I, h⟩
end

theorem thnF {α : Type} {t : Sem α} {Q Q' : α → Shared → Prop} {M : Model} {A : Around} {E : Value → Shared → Prop} {s : Shared} (h : wpAny M A t Q (fun _ _ => False) s) (hQ : ∀ a s, Q a s → Q' a s) : wpAny M A t Q' E s := wpAny_mono h hQ fun _ _ z => False.elim z

/-- the loop of a list comprehension's block, the target of any form (codeAny_compLoop_tests asks a target that no tuple goes to; statement and proof follow it, PyProof/CompMap.lean:41-61, with the step letOwnedTupleGo kept) -/
theorem compLoop_any {prog : Program} {w : World} {A : Around} {R : Result → Shared → Prop} {s : Shared} {elt target iter : Expr} {ifs : List Expr} {scope : Scope} {pos : Pos} {it acc : Value} {env : Env} (I : Nat → Shared → Prop)
    (turn : ∀ n s, I n s → wpAny (model prog w) A (pyNext it) (fun r s₁ => match r with
      | none => R (.ok .next) s₁
      | some v => wpAny (model prog w) A (letOwnedTupleGo target it v) (fun _ s₁' => wpAny (model prog w) A (assign target env v) (fun _ s₂ =>
          wpAny (model prog w) A (forIn ifs true fun c r => if r = true then do let ok ← isTrue c env (eval c env); pure (ForInStep.yield ok) else pure (ForInStep.yield r)) (fun ok s₃ =>
            if ok = true then wpAny (model prog w) A (eval elt env) (fun x s₄ =>
              wpAny (model prog w) A (call (.builtin "list.append") [acc, x]) (fun _ s₅ => ∃ m, m < n ∧ I m s₅) (notedBy (model prog w) A env fun e s' => R (.error e) s') s₄) (notedBy (model prog w) A env fun e s' => R (.error e) s') s₃
            else ∃ m, m < n ∧ I m s₃) (notedBy (model prog w) A env fun e s' => R (.error e) s') s₂) (notedBy (model prog w) A env fun e s' => R (.error e) s') s₁') (notedBy (model prog w) A env fun e s' => R (.error e) s') s₁) (notedBy (model prog w) A env fun e s' => R (.error e) s') s)
    (n : Nat) (h : I n s) :
    codeAny (model prog w) A (.compLoop (.ListComp elt [⟨target, iter, ifs, 0⟩] scope pos) 0 it acc env) R s := by
  refine codeAny_loop rfl I (fun n s hI => ?_) n h
  show wpAny _ A ((compTurn (.ListComp elt [⟨target, iter, ifs, 0⟩] scope pos) 0 it acc env).onRaise (fun x => do noteFrame x env; theTreesLotGoes x)) _ _ s
  refine wpAny_noted ?_
  rw [compTurn_list]
  refine wpAny_bind (wpAny_standAt (wpAny_bind (wpAny_mono (turn n s hI) (fun r s₁ h₁ => ?_) fun _ _ h' => h')))
  cases r with
  | none => exact wpAny_pure h₁
  | some v =>
    refine wpAny_bind (wpAny_mono h₁ (fun _ s₁' h₁' => ?_) fun _ _ h' => h')
    refine wpAny_bind (wpAny_mono h₁' (fun _ s₂ h₂ => wpAny_bind (wpAny_mono h₂ (fun ok s₃ h₃ => ?_) fun _ _ h' => h')) fun _ _ h' => h')
    cases ok with
    | false => exact wpAny_pure ⟨rfl, h₃⟩
    | true =>
      exact wpAny_bind (wpAny_bind (wpAny_mono h₃ (fun x s₄ h₄ => wpAny_bind (wpAny_mono h₄ (fun _ s₅ h₅ => wpAny_pure (wpAny_pure ⟨rfl, h₅⟩)) fun _ _ h' => h')) fun _ _ h' => h'))

section
variable {X : Cx}
/-- [elt for target in iter if ..]: D the new list; W by the turn and a measure, Nx what a turn is to reach -/
def tLc (wi : TI) (g : TG) (tt : TT) (te : TE) (vs : List Nat) : TE := fun σ H Q => wi σ H fun J H1 => ∀ D, H1 D = none → ∃ W : Nat → Nat → Hp → Prop, (∃ m, W 0 m (upd H1 D (.lst []))) ∧ ∀ i m H, W i m H →
  (J.stop i H ∧ Q (.ref D) H) ∨ (J.go i H ∧ ∃ Nx : Hp → Prop, (∀ H', Nx H' → ∃ m', m' < m ∧ W (i + 1) m' H') ∧ ∀ x H', J.yld i H x H' → g x (wipe σ vs) H' fun σ2 H2 => wipe σ2 vs = wipe σ vs ∧ tt σ2 H2 fun b H3 =>
    if b = true then te σ2 H3 fun y H4 => ∃ acc, H4 D = some (.lst acc) ∧ acc.length < sizeLine ∧ Nx (upd H4 D (.lst (acc ++ [y]))) else Nx H3)
theorem lc_core {pins : List (Addr × Obj)} {s : Shared} {σ : St} {H : Hp} {Q : VK} {elt tg iter : Expr} {ifs : List Expr} {scope : Scope} {own : List (Str × Nat)} {pos pos' : Pos} {wi : TI} {g : TG} {tt : TT} {te : TE} {use : Option (Value → Sem Unit)} {Qf : Value → Shared → Prop}
    (hc : X.calm = true) (hN : X.N.Nodup) (I : Inv X pins σ H s) (hi : PI X tg iter wi) (ok : BlkOk X.N X.env.scope scope own)
    (hg : ∀ (s : Shared) (H : Hp) (C : Addr) (cl : List (Str × Addr)) (fp : List Addr), PG (X.blk s H scope (compEnvC scope cl C X.env) fp) tg g) (ht : ∀ (s : Shared) (H : Hp) (C : Addr) (cl : List (Str × Addr)) (fp : List Addr), PTs (X.blk s H scope (compEnvC scope cl C X.env) fp) ifs tt)
    (he : ∀ (s : Shared) (H : Hp) (C : Addr) (cl : List (Str × Addr)) (fp : List Addr), PE (X.blk s H scope (compEnvC scope cl C X.env) fp) elt te) (hs : ∀ x, foldedSetIterable iter X.env x = pure x)
    (h : tLc wi g tt te (own.map (·.2)) σ H Q)
    (hRR : ∀ D C s' m H', Inv X pins σ H' s' → Q (.ref D) H' → s'.heap.Ns C m → FpOk X pins H' C → compPost (model X.prog X.w) X.A X.xe use Qf (.ref D) C (.ok .next) s') :
    wpAny (model X.prog X.w) X.A (comprehension (.ListComp elt [⟨tg, iter, ifs, 0⟩] scope pos) scope X.env pos' (newList []) false (eval iter X.env) use) Qf X.xe s := by
  have hfree : ∀ y ∈ scope.names, y.2 = .free → ∃ c, X.env.cells.lookup y.1 = some c := fun y hy e => by
    rcases ok.free y hy e with k | k
    · exact I.ok.has _ (.inl k)
    · exact I.ok.has _ (.inr k)
  refine wpAny_comprehension_free (use := use) rfl hs (closure_ok hfree) ok.kind (fun y hy e => by rw [ok.uniq y hy, e])
    (thn (hi pins s σ H _ I h) fun xv s1 hx => thn hx fun itv s2 h2 => ?_)
  obtain ⟨it, fp, tn, J, H2, e, I2, T, st2, f2, q⟩ := h2
  subst e
  refine wpAny_newObj_type (newEnv_comp ?_) (by show 0 ≤ sizeLine; decide)
  generalize hD : s2.heap.objs.size = D
  have hDn : H2 D = none := I2.hok.fresh (Nat.le_of_eq hD)
  obtain ⟨W, ⟨m0, w0⟩, turn⟩ := q D hDn
  -- the new list
  generalize hs3 : ({ s2 with heap := s2.heap.push { cls := .type "list", data := .seq ([] : List Value).toArray } } : Shared) = s3
  have I3 : Inv X pins σ (upd H2 D (.lst [])) s3 := by
    rw [← hs3]
    refine I2.laid (t' := s2.toks) (fun b o e => Heap.get?_push_of_some _ e) (Nat.le_of_eq hD) ⟨Nat.zero_le _, [], 0, .nil, ?_⟩
    rw [← hD]
    exact Heap.get?_push_size _ rfl
  have h3 : s3.heap = s2.heap.push { cls := .type "list", data := .seq ([] : List Value).toArray } := by rw [← hs3]
  have sz : ∀ b ∈ fp, b < s2.heap.objs.size := fun b hb => by
    obtain ⟨o, e, _⟩ := T.obj _ _ st2 b hb
    exact Heap.lt_size e
  have f3 : ∀ b ∈ fp, FpOk X pins (upd H2 D (.lst [])) b ∧ b < s3.heap.objs.size := fun b hb => by
    have hlt := sz b hb
    refine ⟨⟨?_, (f2 b hb).2⟩, by rw [h3, Heap.size_push]; exact Nat.lt_succ_of_lt hlt⟩
    rw [upd_ne (by rw [← hD]; exact Nat.ne_of_lt hlt)]
    exact (f2 b hb).1
  have st3 : tn 0 s3.heap := T.keep _ _ _ st2 fun b _ o e => by rw [h3]; exact Heap.get?_push_of_some _ e
  have I4 := block_start I3 ok hN f3
  have pg := hg s3 (upd H2 D (.lst [])) s3.heap.objs.size (cellsFrom (s3.heap.objs.size + 1) scope.names (cloFrom X.env.cells scope.names [])) fp
  have pt := ht s3 (upd H2 D (.lst [])) s3.heap.objs.size (cellsFrom (s3.heap.objs.size + 1) scope.names (cloFrom X.env.cells scope.names [])) fp
  have pe := he s3 (upd H2 D (.lst [])) s3.heap.objs.size (cellsFrom (s3.heap.objs.size + 1) scope.names (cloFrom X.env.cells scope.names [])) fp
  show codeAny _ _ (.compStart (.ListComp elt [⟨tg, iter, ifs, 0⟩] scope pos) 0 (.ref it) (.ref D) (compEnvC scope (cellsFrom (s3.heap.objs.size + 1) scope.names (cloFrom X.env.cells scope.names [])) s3.heap.objs.size X.env)) (compPost (model X.prog X.w) X.A X.xe use Qf (.ref D) s3.heap.objs.size) { s3 with heap := pushCells (s3.heap.push { cls := .type "dict", data := .dict #[] }) scope.names }
  have nfp : ∀ b ∈ fp, (upd H2 D (.lst [])) b = none := fun b hb => (f3 b hb).1.1
  generalize hce : compEnvC scope (cellsFrom (s3.heap.objs.size + 1) scope.names (cloFrom X.env.cells scope.names [])) s3.heap.objs.size X.env = ce at I4 pg pt pe ⊢
  have cL : ce.locals = s3.heap.objs.size := by subst hce; rfl
  generalize hH3 : upd H2 D (.lst []) = H3 at I3 I4 pg pt pe w0 nfp f3
  generalize hs4 : ({ s3 with heap := pushCells (s3.heap.push { cls := .type "dict", data := .dict #[] }) scope.names } : Shared) = s4 at I4 ⊢
  have st4 : tn 0 s4.heap := T.keep _ _ _ st3 fun b _ o e => by rw [← hs4]; exact pushCells_keeps _ _ _ _ (Heap.get?_push_of_some _ e)
  have stat : ∀ {σ' : St} {H' : Hp} {s' : Shared}, Inv (X.blk s3 H3 scope ce fp) [] σ' H' s' → (∀ b ∈ fp, H' b = none) → ∀ b ∈ fp, FpOk (X.blk s3 H3 scope ce fp) [] H' b := fun {σ' H' s'} I' hn b hb =>
    ⟨hn b hb, (I'.ok.exf b hb).1, I'.ok.exfs b hb, .inl hb, fun x c e => (I'.ok.exf b hb).2 x c e, fun p hp => absurd (show p ∈ ([] : List (Addr × Obj)) ++ [] from hp) (by simp)⟩
  have loop : codeAny (model X.prog X.w) X.A (.compLoop (.ListComp elt [⟨tg, iter, ifs, 0⟩] scope pos) 0 (.ref it) (.ref D) ce) (compPost (model X.prog X.w) X.A X.xe use Qf (.ref D) s3.heap.objs.size) s4 := by
    refine compLoop_any (fun n s' => ∃ i H', Inv (X.blk s3 H3 scope ce fp) [] (wipe σ (own.map (·.2))) H' s' ∧ tn i s'.heap ∧ (∀ b ∈ fp, H' b = none) ∧ W i n H') ?_ m0 ⟨0, H3, I4, st4, nfp, w0⟩
    rintro n s5 ⟨i, H5, I5, st5, n5, w5⟩
    rcases turn i n H5 w5 with ⟨stop, qq⟩ | ⟨go, Nx, hNx, step⟩
    · have td := T.done (X.blk s3 H3 scope ce fp) rfl rfl rfl hc i [] s5 _ H5 (fun _ _ => False) I5 (stat I5 n5) st5 stop
      refine thnF td fun r s6 ⟨hr, I6⟩ => ?_
      subst hr
      -- back in the def's context
      have I7 : Inv X pins σ H5 s6 := I3.call' (ch := fp) I6.os I6.base I6.hok I6.bare fun b hb => ⟨(f3 b hb).1.2.2.2.1, (f3 b hb).1.2.1, (f3 b hb).1.2.2.2.2.1, (f3 b hb).1.2.2.2.2.2⟩
      have nC : H5 s3.heap.objs.size = none := by
        have z : H5 ce.locals = none := I6.free
        rw [cL] at z
        exact z
      obtain ⟨m, hn, _⟩ := I6.loc
      have hn : s6.heap.Ns ce.locals m := hn
      rw [cL] at hn
      exact hRR D s3.heap.objs.size s6 m H5 I7 qq hn (I3.fpOk (Nat.le_refl _) nC)
    · have ti := T.item (X.blk s3 H3 scope ce fp) rfl rfl rfl hc i [] s5 _ H5 (fun _ _ => False) I5 (stat I5 n5) st5 go
      refine thnF ti fun r s6 ⟨u, hr, h6⟩ => ?_
      subst hr
      refine thnF h6 fun _ s7 ⟨x, H7, I7, r7, y7, st7, n7⟩ => ?_
      have I7' := I7.pinned (stat I7 n7) (T.obj _ _ st7)
      refine thnF (pg _ s7 _ H7 x u _ I7' r7 (step x H7 y7)) fun _ s8 ⟨σ8, H8, I8, hw8, q8⟩ => ?_
      refine thnF (pt _ s8 σ8 H8 _ I8 q8) fun b s9 ⟨H9, I9, q9⟩ => ?_
      -- the turn's end
      have fin : ∀ {s' : Shared} {H' : Hp}, Inv (X.blk s3 H3 scope ce fp) ([] ++ pinsAt fp s7.heap) σ8 H' s' → Nx H' → ∃ m, m < n ∧ ∃ i H', Inv (X.blk s3 H3 scope ce fp) [] (wipe σ (own.map (·.2))) H' s' ∧ tn i s'.heap ∧ (∀ b ∈ fp, H' b = none) ∧ W i m H' := fun {s' H'} I' nx => by
        obtain ⟨m', hm, w'⟩ := hNx H' nx
        have pin' : ∀ b ∈ fp, ∀ o, s7.heap.get? b = some o → s'.heap.get? b = some o ∧ H' b = none := fun b hb o e =>
          let z := I'.pin (b, o) (List.mem_append_right _ (List.mem_append_right _ (mem_pinsAt hb e)))
          ⟨z.1, z.2.1⟩
        have hl : (wipe σ (own.map (·.2))).length = σ8.length := by rw [← hw8, wipe_length]
        refine ⟨m', hm, i + 1, H', (I'.unpinned (pins := [])).weak hl (fun j v e => ?_), T.keep _ _ _ st7 fun b hb o e => (pin' b hb o e).1, fun b hb => ?_, w'⟩
        · rw [← hw8] at e
          exact (wipe_some e).1
        · obtain ⟨o, e, _⟩ := T.obj _ _ st7 b hb
          exact (pin' b hb o e).2
      cases b with
      | false =>
        simp only [Bool.false_eq_true, if_false] at q9 ⊢
        exact fin I9 q9
      | true =>
        simp only [if_true] at q9 ⊢
        refine thnF (pe _ s9 σ8 H9 _ I9 q9) fun z s10 ⟨yv, H10, I10, r10, acc, hD10, hz10, nx⟩ => ?_
        exact app_ok (X := X.blk s3 H3 scope ce fp) I10 hD10 hz10 r10 fun s11 I11 => fin I11 nx
  exact codeAny_compStart_list loop (T.self X.A 0 _ _ _ st4 loop)
/-- as a value -/
theorem pe_lc {elt tg iter : Expr} {ifs : List Expr} {scope : Scope} {own : List (Str × Nat)} {pos : Pos} {wi : TI} {g : TG} {tt : TT} {te : TE} (hc : X.calm = true) (hN : X.N.Nodup) (hi : PI X tg iter wi) (ok : BlkOk X.N X.env.scope scope own)
    (hg : ∀ (s : Shared) (H : Hp) (C : Addr) (cl : List (Str × Addr)) (fp : List Addr), PG (X.blk s H scope (compEnvC scope cl C X.env) fp) tg g) (ht : ∀ (s : Shared) (H : Hp) (C : Addr) (cl : List (Str × Addr)) (fp : List Addr), PTs (X.blk s H scope (compEnvC scope cl C X.env) fp) ifs tt)
    (he : ∀ (s : Shared) (H : Hp) (C : Addr) (cl : List (Str × Addr)) (fp : List Addr), PE (X.blk s H scope (compEnvC scope cl C X.env) fp) elt te) (hs : ∀ x, foldedSetIterable iter X.env x = pure x := by intro _; rfl) :
    PE X (.ListComp elt [⟨tg, iter, ifs, 0⟩] scope pos) (tLc wi g tt te (own.map (·.2))) := by
  intro pins s σ H Q I h
  rw [eval_ListComp]
  refine lc_core hc hN I hi ok hg ht he hs h fun D C s' m H' I' q hn f => ⟨m, hn, fun h'' sb => ?_⟩
  obtain ⟨f0, f1, f2, f3, f4, f5⟩ := f
  exact ⟨.ref D, H', I'.turned (t' := s'.toks) (fun b o hb e => (sb.2 b hb).trans e) f0 f1 f3 f4 f5, rfl, q⟩
end

/-- over a list that the block leaves as it is -/
theorem lc_list {K : PySem.W.Frag} {a : Addr} {xs : List V} {g : TG} {tt : TT} {te : TE} {vs : List Nat} {σ : St} {H1 : Hp} {D : Addr} {Qd : Hp → Prop} (Pv : Nat → Hp → Prop) (h0 : Pv 0 (upd H1 D (.lst []))) (hl : ∀ i H, i ≤ xs.length → Pv i H → SqL K H a xs)
    (hs : ∀ i x H, xs[i]? = some x → Pv i H → g x (wipe σ vs) H fun σ2 H2 => wipe σ2 vs = wipe σ vs ∧ tt σ2 H2 fun b H3 =>
      if b = true then te σ2 H3 fun y H4 => ∃ acc, H4 D = some (.lst acc) ∧ acc.length < sizeLine ∧ Pv (i + 1) (upd H4 D (.lst (acc ++ [y]))) else Pv (i + 1) H3) (hd : ∀ H, Pv xs.length H → Qd H) :
    ∃ W : Nat → Nat → Hp → Prop, (∃ m, W 0 m (upd H1 D (.lst []))) ∧ ∀ i m H, W i m H →
      ((Itl K a).stop i H ∧ Qd H) ∨ ((Itl K a).go i H ∧ ∃ Nx : Hp → Prop, (∀ H', Nx H' → ∃ m', m' < m ∧ W (i + 1) m' H') ∧ ∀ x H', (Itl K a).yld i H x H' → g x (wipe σ vs) H' fun σ2 H2 => wipe σ2 vs = wipe σ vs ∧ tt σ2 H2 fun b H3 =>
        if b = true then te σ2 H3 fun y H4 => ∃ acc, H4 D = some (.lst acc) ∧ acc.length < sizeLine ∧ Nx (upd H4 D (.lst (acc ++ [y]))) else Nx H3) := by
  refine ⟨fun i m H => m = xs.length - i ∧ i ≤ xs.length ∧ Pv i H, ⟨xs.length, by simp, Nat.zero_le _, h0⟩, ?_⟩
  rintro i m H ⟨rfl, hi, p⟩
  have q := hl i H hi p
  by_cases hlt : i < xs.length
  · refine .inr ⟨⟨xs, xs[i], q, by simp [hlt]⟩, Pv (i + 1), fun H' p' => ⟨xs.length - (i + 1), by omega, rfl, hlt, p'⟩, fun x H' y => ?_⟩
    obtain ⟨e, y⟩ := y
    subst e
    exact hs i x _ (y xs q) p
  · have e : i = xs.length := by omega
    subst e
    exact .inl ⟨⟨xs, q, Nat.le_refl _⟩, hd H p⟩
/-- over a tuple -/
theorem lc_tup {K : PySem.W.Frag} {a : Addr} {xs : List V} {g : TG} {tt : TT} {te : TE} {vs : List Nat} {σ : St} {H1 : Hp} {D : Addr} {Qd : Hp → Prop} (Pv : Nat → Hp → Prop) (h0 : Pv 0 (upd H1 D (.lst []))) (hl : ∀ i H, i ≤ xs.length → Pv i H → SqT K H a xs)
    (hs : ∀ i x H, xs[i]? = some x → Pv i H → g x (wipe σ vs) H fun σ2 H2 => wipe σ2 vs = wipe σ vs ∧ tt σ2 H2 fun b H3 =>
      if b = true then te σ2 H3 fun y H4 => ∃ acc, H4 D = some (.lst acc) ∧ acc.length < sizeLine ∧ Pv (i + 1) (upd H4 D (.lst (acc ++ [y]))) else Pv (i + 1) H3) (hd : ∀ H, Pv xs.length H → Qd H) :
    ∃ W : Nat → Nat → Hp → Prop, (∃ m, W 0 m (upd H1 D (.lst []))) ∧ ∀ i m H, W i m H →
      ((Itt K a).stop i H ∧ Qd H) ∨ ((Itt K a).go i H ∧ ∃ Nx : Hp → Prop, (∀ H', Nx H' → ∃ m', m' < m ∧ W (i + 1) m' H') ∧ ∀ x H', (Itt K a).yld i H x H' → g x (wipe σ vs) H' fun σ2 H2 => wipe σ2 vs = wipe σ vs ∧ tt σ2 H2 fun b H3 =>
        if b = true then te σ2 H3 fun y H4 => ∃ acc, H4 D = some (.lst acc) ∧ acc.length < sizeLine ∧ Nx (upd H4 D (.lst (acc ++ [y]))) else Nx H3) := by
  refine ⟨fun i m H => m = xs.length - i ∧ i ≤ xs.length ∧ Pv i H, ⟨xs.length, by simp, Nat.zero_le _, h0⟩, ?_⟩
  rintro i m H ⟨rfl, hi, p⟩
  have q := hl i H hi p
  by_cases hlt : i < xs.length
  · refine .inr ⟨⟨xs, xs[i], q, by simp [hlt]⟩, Pv (i + 1), fun H' p' => ⟨xs.length - (i + 1), by omega, rfl, hlt, p'⟩, fun x H' y => ?_⟩
    obtain ⟨e, y⟩ := y
    subst e
    exact hs i x _ (y xs q) p
  · have e : i = xs.length := by omega
    subst e
    exact .inl ⟨⟨xs, q, Nat.le_refl _⟩, hd H p⟩
def blkC (N : List Str) (sc scope : Scope) (own : List (Str × Nat)) : Bool :=
  (match scope.kind with | .function => true | _ => false) && (scope.names.all fun y => decide (scope.names.lookup y.1 = some y.2)) && (own.all fun p => decide (N[p.2]? = some p.1)) &&
    (scope.names.all fun y => match y.2 with
      | .free => (match sc.names.lookup y.1 with | some .cell => true | some .free => true | _ => false)
      | .local => decide (y.1 ∈ own.map (·.1)) || decide (y.1 ∉ N)
      | .cell => decide (y.1 ∈ own.map (·.1)) || decide (y.1 ∉ N)
      | _ => true)
theorem blkOk_by {N : List Str} {sc scope : Scope} {own : List (Str × Nat)} (h : blkC N sc scope own = true) : BlkOk N sc scope own := by
  unfold blkC at h
  simp only [Bool.and_eq_true, List.all_eq_true, decide_eq_true_eq] at h
  obtain ⟨⟨⟨h1, h2⟩, h3⟩, h4⟩ := h
  refine ⟨?_, h2, h3, fun y hy e => ?_, fun y hy e => ?_⟩
  · split at h1
    · assumption
    · cases h1
  · have q := h4 y hy
    simp only [e] at q
    split at q <;> first | exact .inl (by assumption) | exact .inr (by assumption) | cases q
  · have q := h4 y hy
    rcases e with e | e <;> (simp only [e, Bool.or_eq_true, decide_eq_true_eq] at q; exact q)
end L2

namespace L2
open PySem PySem.Spec PyProof.Rows


section
variable {prog : Program} {w : World} {A : Around} {R : Result → Shared → Prop} {s : Shared} {elt t0 i0 t1 i1 : Expr} {ifs0 ifs1 : List Expr} {scope : Scope} {pos : Pos} {it acc : Value} {env : Env}
end

section
variable {X : Cx}
end
end L2

namespace L2
open PySem PySem.Spec PyProof.Rows

/-! ### lists of pairs as tables -/
section
variable {κ : Type} [DecidableEq κ]



end




section
variable {P : Program} {w : World} {H : Hp} {h : Heap} {a : Addr}
end



section
variable {X : Cx} {pins : List (Addr × Obj)} {σ : St} {H : Hp} {s : Shared} {a : Addr} {y v : V} {u r : Value} {o : Option V} {A : Around} {E : Value → Shared → Prop}


end

section
variable {X : Cx} {pins : List (Addr × Obj)} {σ : St} {H : Hp} {s : Shared} {a : Addr} {kvs : List (Key × V)} {k : Key} {u : Value} {A : Around} {E : Value → Shared → Prop}
end





section
variable {X : Cx} {o i e value : Expr} {pos pos' tpos : Pos} {td ty tv : TE}
end


section
variable {X : Cx} {pos : Pos}
end






section
variable {X : Cx} {pins : List (Addr × Obj)} {σ : St} {H : Hp} {s : Shared} {a : Addr} {y d : V} {u r : Value} {o : Option V} {A : Around} {E : Value → Shared → Prop}
end

section
variable {X : Cx} {o e f : Expr} {apos cpos : Pos} {td ty tx : TE}
end

/-! ### dict(d): a copy -/
section
variable {X : Cx} {pins : List (Addr × Obj)} {σ : St} {H : Hp} {s : Shared} {a : Addr} {kvs : List (Key × V)} {A : Around} {E : Value → Shared → Prop}
end


section
variable {X : Cx} {pins : List (Addr × Obj)} {σ : St} {H : Hp} {s : Shared} {a : Addr} {y : V} {u : Value} {A : Around} {E : Value → Shared → Prop}
end
end L2

namespace L2
open PySem PySem.Spec PyProof.Rows


section
variable {prog : Program} {w : World} {A : Around} {E : Value → Shared → Prop}


end

section
variable {X : Cx}
end
end L2

namespace L2
open PySem PySem.Spec PyProof.Rows


section
variable {X : Cx} {pins : List (Addr × Obj)} {σ : St} {H : Hp} {s : Shared} {h' : Heap}

end
section
variable {X : Cx}

/-! ### one iterator just laid -/
theorem pi_one {tg : Expr} {pins : List (Addr × Obj)} {σ : St} {H : Hp} {s : Shared} {R : It → Hp → Prop} {J : It} {tn : Nat → Heap → Prop} {tk : Nat} (I : Inv X pins σ H s) (o : Obj)
    (T : Turn X.prog X.w X.K tg J [s.heap.objs.size] s.heap.objs.size tn) (st : tn 0 (s.heap.push o)) (q : R J H) : PIE X pins σ tg R (.ref s.heap.objs.size) { s with heap := s.heap.push o, toks := tk } := by
  refine ⟨s.heap.objs.size, [s.heap.objs.size], tn, J, H, rfl, I.kept fun b ob e => Heap.get?_push_of_some _ e, T, st, fun b hb => ?_, q⟩
  have e : b = s.heap.objs.size := by simpa using hb
  subst e
  exact I.fpOk (Nat.le_refl _) (I.hok.fresh (Nat.le_refl _))
end

/-! ### range with a step -/
/-- lo, lo + c, .. (n of them) -/
def Itc (lo c : Int) (n : Nat) : It := ⟨fun i _ => i < n, fun i H x H' => H' = H ∧ x = .int (lo + (i : Nat) * c), fun i _ => n ≤ i⟩
theorem turn_rangeC {P : Program} {w : World} {K : PySem.W.Frag} {tg : Expr} (it : Addr) (lo c : Int) (n : Nat) : Turn P w K tg (Itc lo c n) [it] it (fun i h => IsRangeIter h it (lo + (i : Nat) * c) ((n : Int) - (i : Nat)) c) where
  mem := by simp
  obj := fun i h st b hb => by
    have e : b = it := by simpa using hb
    subst e
    exact ⟨_, st, fun v z => nomatch z⟩
  keep := fun i h h' st k => k it (by simp) _ st
  item := by
    intro X hP hw hK hc i pins s σ H E I hf st hg
    subst hP hw hK
    obtain ⟨f0, f1, f2, f3, f4, f5⟩ := hf it (by simp)
    have W := Walks.range (prog := X.prog) (w := X.w) (I.ok.hd hc) it lo c n
    refine W.item i s _ _ hg st fun v h' tk hv st' kk => ?_
    obtain ⟨t, rfl⟩ := hv
    have I1 : Inv X pins σ H { s with heap := h', toks := tk } := I.turned (fun b o hb e => kk b o (by simpa using hb) e) f0 f1 f3 f4 f5
    exact ⟨_, rfl, go_of (s := { s with heap := h', toks := tk }) (n := "range_iterator") st' rfl rfl (by decide) ⟨.int (lo + (i : Nat) * c), H, I1, ⟨t, rfl⟩, ⟨rfl, rfl⟩, st', fun b hb => (hf b hb).1⟩⟩
  done := by
    intro X hP hw hK hc i pins s σ H E I hf st hg
    subst hP hw hK
    obtain ⟨f0, f1, f2, f3, f4, f5⟩ := hf it (by simp)
    exact wpAny_pyNext_range_end (I.ok.hd hc) st (by have : n ≤ i := hg; omega) fun h' eb => ⟨rfl, I.turned (t' := s.toks) (fun b o hb e => eb b o hb e) f0 f1 f3 f4 f5⟩
  self := fun A i s Q E st h => wpAny_pyIter_rangeiter st h
/-- range(i, j, c): small bounds, n items -/
def RgC (i j c : Int) (n : Nat) : Prop := c ≠ 0 ∧ c.natAbs < 1073741824 ∧ Builtin.Range.small i j c = true ∧ Builtin.Range.rangeSize i j c = n
theorem RgC.neg {i j : Int} (ha : -(2 ^ 62) ≤ i) (ha' : i < 2 ^ 62) (hb : -(2 ^ 62) ≤ j) (hb' : j < 2 ^ 62) : RgC i j (-1) (i - j).toNat :=
  ⟨by decide, by decide, PySem.W.small_down ha ha' hb hb', PySem.W.rangeSize_downNat i j⟩
def iRng3 (ta : TA) : TI := fun σ H R => ta σ H fun vs H1 => ∃ (i j c : Int) (n : Nat), vs = [.int i, .int j, .int c] ∧ RgC i j c n ∧ R (Itc i c n) H1
section
variable {X : Cx} {tg : Expr}
theorem pi_range3 {a b c : Expr} {ta : TA} {p pos : Pos} (hg : Gl X "range") (hm : X.mg "range" = none) (ha : PA X [a, b, c] ta)
    (hs : starEach [a, b, c] X.env = (false, eval a X.env) :: starEach [b, c] X.env := by rfl) (hpl : (backTo pos (starEach [b, c] X.env)).any (·.1) = false := by rfl) :
    PI X tg (.Call (.Name "range" p) [a, b, c] [] pos) (iRng3 ta) := by
  intro pins s σ H R I h
  refine Call_ (ld_blt I hg hm boot_range (PyProof.Rows.callWith_type1 (thn (ha pos pins s σ H _ I h) fun us s1 ⟨vs, H1, I1, r1, q1⟩ => ?_) hs hpl))
  obtain ⟨i, j, k, n, e, ⟨c0, c1, c2, c3⟩, q⟩ := q1
  subst e
  cases r1 with
  | cons r rr =>
    cases rr with
    | cons r' rr =>
      cases rr with
      | cons r'' rr =>
        cases rr
        obtain ⟨t, rfl⟩ := r
        obtain ⟨t', rfl⟩ := r'
        obtain ⟨t'', rfl⟩ := r''
        refine call_range_3 c0 ?_ (.inl (PyProof.noPylong_small c1))
        refine wpAny_pyIter_range (IsRange.new ..) c2 ?_
        have I2 : Inv X pins σ H1 { s1 with heap := s1.heap.push { cls := .type "range", data := .fields #[.int i t, .int j t', .int k t''] } } := I1.kept (t' := s1.toks) fun b o e => Heap.get?_push_of_some _ e
        refine pi_one (tk := s1.toks) I2 _ (turn_rangeC _ i k n) ?_ q
        have e1 : i + ((0 : Nat) : Int) * k = i := by simp
        have e2 : (n : Int) - ((0 : Nat) : Int) = Builtin.Range.rangeSize i j k := by rw [c3]; simp
        show IsRangeIter _ _ (i + ((0 : Nat) : Int) * k) ((n : Int) - ((0 : Nat) : Int)) k
        rw [e1, e2]
        exact Heap.get?_push_size _ rfl
end
/-- the turns of a step range, for the for loop -/
theorem for_rangeC {lo c : Int} {n : Nat} {g : TG} {tb : TS} {D : Ends} {σ : St} {H : Hp} (Pv : Nat → St → Hp → Prop) (h0 : Pv 0 σ H)
    (hs : ∀ i σ H, i < n → Pv i σ H → g (.int (lo + (i : Nat) * c)) σ H fun σ2 H2 => tb { D with nx := Pv (i + 1), ct := Pv (i + 1), bk := D.nx } σ2 H2) (hd : ∀ σ H, Pv n σ H → D.nx σ H) :
    ∃ W : Nat → Nat → St → Hp → Prop, (∃ m, W 0 m σ H) ∧ ∀ i m σ H, W i m σ H →
      ((Itc lo c n).stop i H ∧ D.nx σ H) ∨ ((Itc lo c n).go i H ∧ ∃ N : St → Hp → Prop, (∀ σ' H', N σ' H' → ∃ m', m' < m ∧ W (i + 1) m' σ' H') ∧ ∀ x H', (Itc lo c n).yld i H x H' → g x σ H' fun σ2 H2 => tb { D with nx := N, ct := N, bk := D.nx } σ2 H2) := by
  refine ⟨fun i m σ H => m = n - i ∧ i ≤ n ∧ Pv i σ H, ⟨n, by simp, Nat.zero_le _, h0⟩, ?_⟩
  rintro i m σ H ⟨rfl, hi, p⟩
  by_cases hlt : i < n
  · refine .inr ⟨hlt, Pv (i + 1), fun σ' H' p' => ⟨n - (i + 1), by omega, rfl, hlt, p'⟩, fun x H' y => ?_⟩
    obtain ⟨e, y⟩ := y
    subst e y
    exact hs i σ _ hlt p
  · have e : i = n := by omega
    subst e
    exact .inl ⟨Nat.le_refl _, hd σ H p⟩

section
variable {X : Cx} {tg : Expr}
end


/-! ### a dict's keys: any dict's entries -/
section
variable {prog : Program} {w : World} {A : Around} {E : Value → Shared → Prop} {s : Shared}
end

section
variable {X : Cx} {pins : List (Addr × Obj)} {σ : St} {H : Hp} {s : Shared} {d : Addr} {o : Obj}
end

section
variable {P : Program} {w : World} {K : PySem.W.Frag} {tg : Expr} {d : Addr} {o : Obj} {es : Array DictEntry} {ep : Nat}
end

section
variable {X : Cx} {tg e : Expr} {td : TE} {apos cpos : Pos}
end

end L2

section 
namespace Bits
open PySem PyProof.Rows








end Bits
end 

section 
namespace TL
open PySem PySem.Builtin PySem.Builtin.Str PySem.StrLaws













end TL
end 

namespace L2
open PySem PySem.Spec PyProof.Rows




section
variable {X : Cx} {pins : List (Addr × Obj)} {σ : St} {H : Hp} {s : Shared} {Q : VK}
end

section
variable {X : Cx}







end

section
variable {X : Cx} {o e : Expr} {to te : TE}

end
end L2

namespace L2
open PySem PySem.Spec PyProof.Rows

section
variable {X : Cx}
end



end L2

namespace Att
open PySem PySem.W PySem.Calls PyProof.Rows







/-! ### rules over ANY heap (no ledger) from facts about the written part K: the library's own take a ledger (News) for what they write -/
section
variable {prog : Program} {w : World} {A : Around} {E : Value → Shared → Prop} {s : Shared} {K : Frag}






end
end Att

namespace L2
open PySem PySem.Spec PyProof.Rows



end L2

namespace L2
open PySem PySem.Spec PyProof.Rows


end L2

/- THE LAST THEOREM (shape; LID, My.* are yours):
   My.Adr: a structure of the addresses that your layer names (classes, functions); My.Txt K t: a structure (Prop) of the equations over K;
   My.txt_mk : {K} {implicit addresses ..} (e1 : nsIn K mainGlobals "law" = some (some (.ref f))) (e2 : K.lookup f = some ⟨oc, od, .func (fnOf "law" "law" params body scope dV kV doc pm an cdv ct), sl⟩) (e3 : codeIn K cdv "law" = true) .. : ∃ t, My.Txt K t

set_option maxRecDepth 100000 in
set_option maxHeartbeats 0 in
theorem PySem.Challenge.cw_LID_holds : PySem.Challenge.rw_LID.Holds := by
  w_on; o_law; k_head; (case hw => w_witness2)
  k_fill
  refine L2.walk_of (l := PySem.Challenge.rw_LID) (n := 63) (k := 40) (x := "script") (CX := fun w => ..) (sp := fun _ => My.sp_law) rfl (by decide) rfl ⟨rfl, by decide, by decide⟩ (fun w h Y => PySem.W.kIn_of Y) ?F ?S ?C
  case F =>
    intro w mg fa h KX G hmg
    have T : ∃ t, My.Txt (L2.KOf KX) t := by
      dsimp only [L2.KOf]                          -- K must stand as «<heap const> w.params» for k_is
      refine' My.txt_mk ?e1 ?e2 ?e3 ..
      (case e1 => PySem.W.k_is)                    -- in the order: a name -> its address -> its object -> its parts
      (case e2 => PySem.W.k_is)
      ..
    obtain ⟨t, T⟩ := T
    have e0 := hmg.symm.trans (PySem.W.mg_of KX G T.law)
    cases e0                                       -- fa is the law's own address
    exact ⟨_, fun s u => .of_eq rfl, fun base kb nb => My.law_fn T kb nb⟩     -- if «.of_eq rfl» comes too early: refine' ⟨_, ?b, fun base kb nb => My.law_fn T kb nb⟩; exact fun s u => .of_eq rfl
  case S => exact fun w H a ns hl hO hS => ..
  case C => exact ..
(the tactic k_is has no namespace: write k_is) -/

/-! SHORT WORDS over the layer: a def of the text, its body, what a loop and a test want. -/
namespace L2
open PySem PySem.Spec PyProof.Rows

/-! ### the text by places -/
/-- the j-th statement of a class's body -/
def inClass (s : Stmt) (j : Nat) : Stmt := match s with
  | .ClassDef _ _ _ body _ _ _ _ _ _ _ => body.getD j (.Pass ⟨0, 0, 0, 0⟩)
  | _ => .Pass ⟨0, 0, 0, 0⟩
def defArgs (s : Stmt) : Arguments := match s with
  | .FunctionDef _ a _ _ _ _ _ _ _ _ => a
  | _ => { posonlyargs := [], args := [], vararg := none, kwonlyargs := [], kw_defaults := [], kwarg := none, defaults := [] }
def defBody (s : Stmt) : List Stmt := match s with
  | .FunctionDef _ _ b _ _ _ _ _ _ _ => b
  | _ => []
def defScope (s : Stmt) : Scope := match s with
  | .FunctionDef _ _ _ _ _ _ sc _ _ _ => sc
  | _ => { kind := .function, names := [], isGenerator := false, isCoroutine := false }

/-! ### no exception leaves a def -/
abbrev CX0 : CXT := fun _ _ _ _ _ _ => False
abbrev E0 : XK := fun _ _ _ => False
theorem pass0 {X : Cx} : Passes CX0 X E0 := fun _ _ _ _ _ _ _ h => h.elim

/-! ### a def (or method) of the text as it stands behind the top -/
structure Fun (K : PySem.W.Frag) (x qual : Str) (st : Stmt) (f : Addr) (fd : FuncData) : Prop where
  ex : ∃ (oc : Value) (od : Option Addr) (kV doc pm : Value) (an : Option Addr) (cdv ct : Value) (osl : Array (Option Value)),
    fd = PySem.W.fnOf x qual (defArgs st) (defBody st) (defScope st) .none kV doc pm an cdv ct ∧ K.lookup f = some ⟨oc, od, .func fd, osl⟩ ∧ PySem.W.codeIn K cdv qual = true
  kp : PySem.W.keepIn K (.ref f) = true
section
variable {P : Program} {w : World} {K : PySem.W.Frag} {mg : Str → Option Value} {base : Heap}
/-- THE RULE for a def: its body as a term of rules, and the reading of that term -/
theorem Fun.ok {x qual : Str} {st : Stmt} {f : Addr} {fd : FuncData} {N ps : List Str} {k : Nat} {sp : Sp} (F : Fun K x qual st f fd) (S : FnScope N ps (defScope st)) (len : ∀ vs H Q E, sp vs H Q E → vs.length = ps.length)
    (hbody : ∀ (cdv : Value) (A : Around) (outer : List Env) (s : Shared) (H : Hp) (vs : List V) (Q : VK) (E : XK), Room k (A.deeper (envOfC qual (defScope st) s.heap.objs.size f cdv)) → sp vs H Q E →
      ∃ t, PSs (cxOf CX0 P w K mg base N qual (defScope st) f cdv A outer s H E).nox (defBody st) t ∧ t { nx := fun _ H' => Q .non H', rt := Q } (start N vs) H) : FnOk P w K mg base CX0 (k + 1) f fd ps sp := by
  obtain ⟨oc, od, kV, doc, pm, an, cdv, ct, osl, rfl, lk, hcd⟩ := F.ex
  refine fn_of lk hcd S len fun A outer s H vs Q E hr hsp => ?_
  obtain ⟨t, h, q⟩ := hbody cdv A outer s H vs Q E hr hsp
  exact ⟨t, h.nox, q⟩
/-- how its arguments bind (no defaults): h is «fun _ _ _ _ _ _ us hl => match us, hl with | [_, _], _ => rfl», one _ a parameter -/
theorem Fun.binds {x qual : Str} {st : Stmt} {f : Addr} {fd : FuncData} {ps : List Str} (F : Fun K x qual st f fd)
    (h : ∀ (kV doc pm : Value) (an : Option Addr) (cdv ct : Value) (us : List Value), us.length = ps.length → bindArgs (PySem.W.fnOf x qual (defArgs st) (defBody st) (defScope st) .none kV doc pm an cdv ct) ⟨us, []⟩ = pure (ps.zip us)) : Binds K fd ps [] := by
  obtain ⟨oc, od, kV, doc, pm, an, cdv, ct, osl, rfl, lk, hcd⟩ := F.ex
  exact .all (h kV doc pm an cdv ct)
theorem fun_mk {x qual : Str} {st : Stmt} {f : Addr} {oc : Value} {od an : Option Addr} {osl : Array (Option Value)} {kV doc pm cdv ct : Value} (l : K.lookup f = some ⟨oc, od, .func (PySem.W.fnOf x qual (defArgs st) (defBody st) (defScope st) .none kV doc pm an cdv ct), osl⟩)
    (c : PySem.W.codeIn K cdv qual = true) (k : PySem.W.keepIn K (.ref f) = true) : Fun K x qual st f (PySem.W.fnOf x qual (defArgs st) (defBody st) (defScope st) .none kV doc pm an cdv ct) := ⟨⟨oc, od, kV, doc, pm, an, cdv, ct, osl, rfl, l, c⟩, k⟩
end

/-! ### expressions in short: the name that stands in the i-th slot -/
section
variable {X : Cx}
theorem pv (i : Nat) {x : Str} {pos : Pos} (hN : X.N[i]? = some x := by rfl) (hv : Vis X.env.scope x := by first | exact Or.inl rfl | exact Or.inr (Or.inl rfl) | exact Or.inr (Or.inr rfl)) (hd : (x == ("__debug__" : Str)) = false := by decide)
    (hcd : (x == ("__classdict__" : Str)) = false := by decide) : PE X (.Name x pos) (tVar i) := pe_var hN hv hd hcd
end


/-! ### heaps -/
/-- all that was tracked is as it was -/
def Same (H H' : Hp) : Prop := ∀ b o, H b = some o → H' b = some o
theorem Same.seq {K : PySem.W.Frag} {H H' : Hp} {a : Addr} {xs : List V} (e : Same H H') (h : SqL K H a xs) : SqL K H' a xs := by
  rcases h with (h | ⟨o, h⟩) | h
  · exact .inl (.inl (e _ _ h))
  · exact .inl (.inr ⟨o, e _ _ h⟩)
  · exact .inr h

/-! ### a dict's pairs: keys that differ -/
section
variable {κ : Type} [DecidableEq κ]
end
/-! ### lists -/
theorem at_of {xs : List V} {z : Int} {j : Nat} {v : V} (e : z = (j : Int)) (h : xs[j]? = some v) : atI xs z = some v := by
  rw [e]
  exact atI_nat h
end L2

namespace L2
open PySem PySem.Spec PyProof.Rows
open PySem.W (WData Codec OpenSpec Well WellAll ReadsW ReadsAllW)
/-! ### an answer as data -/
mutual
/-- x stands for the datum d, lists and tuples all the way -/
inductive Dw (K : PySem.W.Frag) (H : Hp) : V → WData → Prop
  | non : Dw K H .non .none
  | bl (b : Bool) : Dw K H (.bl b) (.bool b)
  | int (i : Int) : Dw K H (.int i) (.int i)
  | str (x : Str) : Dw K H (.str x) (.str x)
  | byt (b : Array UInt8) : Dw K H (.byt b) (.bytes b.toList)
  | lst {a : Addr} {xs : List V} {ds : List WData} : SqL K H a xs → DwAll K H xs ds → Dw K H (.ref a) (.list ds)
  | tup {a : Addr} {xs : List V} {ds : List WData} : SqT K H a xs → DwAll K H xs ds → Dw K H (.ref a) (.tuple ds)
inductive DwAll (K : PySem.W.Frag) (H : Hp) : List V → List WData → Prop
  | nil : DwAll K H [] []
  | cons {v : V} {vs : List V} {d : WData} {ds : List WData} : Dw K H v d → DwAll K H vs ds → DwAll K H (v :: vs) (d :: ds)
end
theorem dw_ints {K : PySem.W.Frag} {H : Hp} : ∀ ns : List Int, DwAll K H (ns.map V.int) (ns.map WData.int)
  | [] => .nil
  | n :: r => .cons (.int n) (dw_ints r)
theorem ints_dw {K : PySem.W.Frag} {H : Hp} : ∀ (ns : List Int) (xs : List V), DwAll K H xs (ns.map WData.int) → xs = ns.map V.int
  | [], xs, h => by
    cases h
    rfl
  | n :: r, xs, h => by
    cases h with
    | cons h1 h2 =>
      cases h1
      rw [ints_dw r _ h2] <;> rfl
section
variable {P : Program} {w : World} {K : PySem.W.Frag} {H : Hp} {h : Heap} {R : PySem.W.WRecords} {cl : Str → Option Addr}
theorem sqL_at {a : Addr} {xs : List V} (hok : HOk P w H h) (KX : K.In h) (q : SqL K H a xs) : ∃ (its : List Value) (o : Obj) (n : Nat), Vals xs its ∧ h.get? a = some o ∧ o.cls = .type "list" ∧ o.data = .seq its.toArray n := by
  rcases q with q | ⟨o, its, n, e, hc, _, hd, _, hv⟩
  · obtain ⟨_, its, n, hv, e⟩ := (show ObjOk P w H h a (.lst xs) from q.ok hok)
    exact ⟨its, _, n, hv, e, rfl, rfl⟩
  · exact ⟨its.toList, o, n, hv, KX _ _ e, hc, by simp [hd]⟩
theorem sqT_at {a : Addr} {xs : List V} (hok : HOk P w H h) (KX : K.In h) (q : SqT K H a xs) : ∃ (its : List Value) (o : Obj) (n : Nat), Vals xs its ∧ h.get? a = some o ∧ o.cls = .type "tuple" ∧ o.data = .seq its.toArray n := by
  rcases q with q | ⟨o, its, n, e, hc, hd, _, hv⟩
  · obtain ⟨_, its, hv, o, e, hc, n, hd⟩ := (show ObjOk P w H h a (.tup xs) from q.ok hok)
    exact ⟨its, o, n, hv, e, hc, hd⟩
  · exact ⟨its.toList, o, n, hv, KX _ _ e, hc, by simp [hd]⟩
mutual
theorem Dw.reads (hok : HOk P w H h) (KX : K.In h) : ∀ (d : WData) (v : V) (u : Value), Dw K H v d → RelV v u → ∃ as, ReadsW R cl h u d as
  | .none, _, _, x, r => by
    cases x
    cases r
    exact ⟨_, ReadsW.none⟩
  | .bool b, _, _, x, r => by
    cases x
    cases r
    exact ⟨_, ReadsW.bool b⟩
  | .int i, _, _, x, r => by
    cases x
    obtain ⟨t, rfl⟩ := r
    exact ⟨_, ReadsW.int i t⟩
  | .str s, _, _, x, r => by
    cases x
    obtain ⟨t, rfl⟩ := r
    exact ⟨_, ReadsW.str s t⟩
  | .bytes b, _, _, x, r => by
    cases x
    obtain ⟨t, rfl⟩ := r
    exact ⟨_, ReadsW.bytes _ t⟩
  | .list ds, _, _, x, r => by
    cases x with
    | lst hs ha =>
      cases r
      obtain ⟨its, o, n, rv, ho, hc, hd⟩ := sqL_at hok KX hs
      obtain ⟨as, hr⟩ := Dw.readsAll hok KX ds _ its ha rv
      exact ⟨_, ReadsW.list ho hc hd hr⟩
  | .tuple ds, _, _, x, r => by
    cases x with
    | tup hs ha =>
      cases r
      obtain ⟨its, o, n, rv, ho, hc, hd⟩ := sqT_at hok KX hs
      obtain ⟨as, hr⟩ := Dw.readsAll hok KX ds _ its ha rv
      exact ⟨_, ReadsW.tuple ho hc hd hr⟩
  | .float _, _, _, x, _ => by cases x
  | .dict _, _, _, x, _ => by cases x
  | .bytearray _, _, _, x, _ => by cases x
  | .set _, _, _, x, _ => by cases x
  | .frozenset _, _, _, x, _ => by cases x
  | .obj _ _, _, _, x, _ => by cases x
theorem Dw.readsAll (hok : HOk P w H h) (KX : K.In h) : ∀ (ds : List WData) (vs : List V) (us : List Value), DwAll K H vs ds → Vals vs us → ∃ as, ReadsAllW R cl h us ds as
  | [], _, _, x, r => by
    cases x
    cases r
    exact ⟨_, ReadsAllW.nil⟩
  | d :: ds, _, _, x, r => by
    cases x with
    | cons h1 h2 =>
      cases r with
      | cons r1 r2 =>
        obtain ⟨as, q1⟩ := Dw.reads hok KX d _ _ h1 r1
        obtain ⟨bs, q2⟩ := Dw.readsAll hok KX ds _ _ h2 r2
        exact ⟨_, ReadsAllW.cons q1 q2⟩
end
end
/-! ### the arguments -/
mutual
/-- data that a codec tells -/
def plW : WData → Bool
  | .none => true
  | .bool _ => true
  | .int _ => true
  | .str _ => true
  | .bytes _ => true
  | .list xs => plWs xs
  | .tuple xs => plWs xs
  | _ => false
def plWs : List WData → Bool
  | [] => true
  | x :: r => plW x && plWs r
end
theorem plWs_map {α : Type} {f : α → WData} (h : ∀ a, plW (f a) = true) : ∀ l : List α, plWs (l.map f) = true
  | [] => rfl
  | x :: r => by
    show (plW (f x) && plWs (r.map f)) = true
    rw [h x, plWs_map h r] <;> rfl
theorem pl_enc : ∀ (c : Codec) (a : c.denote), plW (c.enc a) = true
  | .unit, _ => rfl
  | .bool, _ => rfl
  | .int _ _, _ => rfl
  | .nat _ _, _ => rfl
  | .u8, _ => rfl
  | .bytes _ _, _ => rfl
  | .text _ _ _ _, _ => rfl
  | .list _ _ c, a => plWs_map (fun x => pl_enc c x) a
  | .pair c d, a => by
    show (plW (c.enc a.1) && (plW (d.enc a.2) && true)) = true
    rw [pl_enc c a.1, pl_enc d a.2] <;> rfl
  | .triple c d e, a => by
    show (plW (c.enc a.1) && (plW (d.enc a.2.1) && (plW (e.enc a.2.2) && true))) = true
    rw [pl_enc c a.1, pl_enc d a.2.1, pl_enc e a.2.2] <;> rfl
  | .option c, none => rfl
  | .option c, some x => pl_enc c x
theorem pl_encAll : ∀ (cs : List Codec) (a : Codec.denoteAll cs), plWs (Codec.encAll cs a) = true
  | [], _ => rfl
  | c :: cs, a => by
    show (plW (c.enc a.1) && plWs (Codec.encAll cs a.2)) = true
    rw [pl_enc c a.1, pl_encAll cs a.2] <;> rfl
theorem weight_mem : ∀ {xs : List WData} {d : WData}, d ∈ xs → d.weight ≤ WData.weightAll xs
  | [], d, h => absurd h (by simp)
  | x :: r, d, h => by
    show d.weight ≤ x.weight + 1 + WData.weightAll r
    rcases List.mem_cons.mp h with e | m
    · rw [e]
      omega
    · have z := weight_mem m
      omega
def toV : Value → V
  | .none => .non
  | .bool b => .bl b
  | .int i _ => .int i
  | .str x _ => .str x
  | .bytes b _ => .byt b
  | .ref a => .ref a
  | _ => .non
/-- a value of the arguments, its objects among A -/
def OkU (A : List Addr) : Value → Prop
  | .none => True
  | .bool _ => True
  | .int _ _ => True
  | .str _ _ => True
  | .bytes _ _ => True
  | .ref a => a ∈ A
  | _ => False
theorem OkU.mono {A B : List Addr} (h : ∀ a ∈ A, a ∈ B) : ∀ {u : Value}, OkU A u → OkU B u := fun {u} x => by
  cases u with
  | ref a => exact h a x
  | none => trivial
  | bool b => trivial
  | int i t => trivial
  | str s t => trivial
  | bytes b t => trivial
  | _ => exact False.elim x
theorem relV_toV {A : List Addr} {u : Value} (x : OkU A u) : RelV (toV u) u := by
  cases u with
  | ref a => rfl
  | none => rfl
  | bool b => rfl
  | int i t => exact ⟨t, rfl⟩
  | str s t => exact ⟨t, rfl⟩
  | bytes b t => exact ⟨t, rfl⟩
  | _ => exact False.elim x
theorem vals_toV {A : List Addr} : ∀ {vs : List Value}, (∀ u ∈ vs, OkU A u) → Vals (vs.map toV) vs
  | [], _ => .nil
  | u :: r, h => .cons (relV_toV (h u (List.mem_cons_self ..))) (vals_toV fun x hx => h x (List.mem_cons_of_mem _ hx))
/-- an object of the arguments -/
def ArgOb (h : Heap) (A : List Addr) (a : Addr) : Prop := ∃ vs : List Value, vs.length ≤ sizeLine ∧ (∀ u ∈ vs, OkU A u) ∧
  (h.get? a = some { cls := .type "list", data := .seq vs.toArray } ∨ h.get? a = some { cls := .type "tuple", data := .seq vs.toArray })
theorem ArgOb.mono {h : Heap} {A B : List Addr} {a : Addr} (k : ∀ a ∈ A, a ∈ B) (x : ArgOb h A a) : ArgOb h B a := by
  obtain ⟨vs, h1, h2, h3⟩ := x
  exact ⟨vs, h1, fun u hu => (h2 u hu).mono k, h3⟩
theorem wellAll_len {P : Params} {h : Heap} : ∀ {vs : List Value} {ds : List WData}, WellAll P h vs ds → vs.length = ds.length
  | _, _, .nil => rfl
  | _, _, .cons _ b => by
    show _ + 1 = _ + 1
    rw [wellAll_len b]
theorem well_list {P : Params} {h : Heap} {v : Value} {ds : List WData} (x : Well P h v (.list ds)) : ∃ (a : Addr) (vs : List Value), v = .ref a ∧ h.get? a = some { cls := .type "list", data := .seq vs.toArray } ∧ WellAll P h vs ds := by
  cases x with
  | list ho hall => exact ⟨_, _, rfl, ho, hall⟩
theorem well_tuple {P : Params} {h : Heap} {v : Value} {ds : List WData} (x : Well P h v (.tuple ds)) : ∃ (a : Addr) (vs : List Value), v = .ref a ∧ h.get? a = some { cls := .type "tuple", data := .seq vs.toArray } ∧ WellAll P h vs ds := by
  cases x with
  | tuple ho hall => exact ⟨_, _, rfl, ho, hall⟩
theorem well_cons {P : Params} {h : Heap} {us : List Value} {d : WData} {ds : List WData} (x : WellAll P h us (d :: ds)) : ∃ (v : Value) (vs : List Value), us = v :: vs ∧ Well P h v d ∧ WellAll P h vs ds := by
  cases x with
  | cons a b => exact ⟨_, _, rfl, a, b⟩
theorem line_of {n : Nat} (h : n ≤ 1048576) : n ≤ sizeLine := Nat.le_trans h (by decide)
section
variable {P : Params} {h : Heap}
mutual
theorem area_one : ∀ (d : WData) (v : Value), Well P h v d → plW d = true → d.weight ≤ 1048576 → ∃ A : List Addr, OkU A v ∧ ∀ a ∈ A, ArgOb h A a
  | .none, _, x, _, _ => by
    cases x
    exact ⟨[], trivial, fun a m => absurd m (by simp)⟩
  | .bool b, _, x, _, _ => by
    cases x
    exact ⟨[], trivial, fun a m => absurd m (by simp)⟩
  | .int i, _, x, _, _ => by
    cases x
    exact ⟨[], trivial, fun a m => absurd m (by simp)⟩
  | .str s, _, x, _, _ => by
    cases x
    exact ⟨[], trivial, fun a m => absurd m (by simp)⟩
  | .bytes b, _, x, _, _ => by
    cases x
    exact ⟨[], trivial, fun a m => absurd m (by simp)⟩
  | .list ds, _, x, p, z => by
    obtain ⟨a, vs, rfl, ho, hall⟩ := well_list x
    have z2 : WData.weightAll ds ≤ 1048576 := z
    obtain ⟨A, h1, h2⟩ := area_all ds _ hall p fun d hd => Nat.le_trans (weight_mem hd) z2
    have k : ∀ b ∈ A, b ∈ a :: A := fun b hb => List.mem_cons_of_mem _ hb
    refine ⟨a :: A, List.mem_cons_self .., fun b hb => ?_⟩
    rcases List.mem_cons.mp hb with e | m
    · rw [e]
      exact ⟨vs, line_of (by rw [wellAll_len hall]; exact Nat.le_trans (PySem.W.length_le_weightAllW ds) z2), fun u hu => (h1 u hu).mono k, .inl ho⟩
    · exact (h2 b m).mono k
  | .tuple ds, _, x, p, z => by
    obtain ⟨a, vs, rfl, ho, hall⟩ := well_tuple x
    have z2 : WData.weightAll ds ≤ 1048576 := z
    obtain ⟨A, h1, h2⟩ := area_all ds _ hall p fun d hd => Nat.le_trans (weight_mem hd) z2
    have k : ∀ b ∈ A, b ∈ a :: A := fun b hb => List.mem_cons_of_mem _ hb
    refine ⟨a :: A, List.mem_cons_self .., fun b hb => ?_⟩
    rcases List.mem_cons.mp hb with e | m
    · rw [e]
      exact ⟨vs, line_of (by rw [wellAll_len hall]; exact Nat.le_trans (PySem.W.length_le_weightAllW ds) z2), fun u hu => (h1 u hu).mono k, .inr ho⟩
    · exact (h2 b m).mono k
  | .float _, _, _, p, _ => Bool.noConfusion (show false = true from p)
  | .dict _, _, _, p, _ => Bool.noConfusion (show false = true from p)
  | .bytearray _, _, _, p, _ => Bool.noConfusion (show false = true from p)
  | .set _, _, _, p, _ => Bool.noConfusion (show false = true from p)
  | .frozenset _, _, _, p, _ => Bool.noConfusion (show false = true from p)
  | .obj _ _, _, _, p, _ => Bool.noConfusion (show false = true from p)
theorem area_all : ∀ (ds : List WData) (vs : List Value), WellAll P h vs ds → plWs ds = true → (∀ d ∈ ds, d.weight ≤ 1048576) → ∃ A : List Addr, (∀ u ∈ vs, OkU A u) ∧ ∀ a ∈ A, ArgOb h A a
  | [], _, x, _, _ => by
    cases x
    exact ⟨[], fun u m => absurd m (by simp), fun a m => absurd m (by simp)⟩
  | d :: ds, _, x, p, z => by
    obtain ⟨v, vs, rfl, x1, x2⟩ := well_cons x
    have q : plW d = true ∧ plWs ds = true := Bool.and_eq_true_iff.mp p
    obtain ⟨A, a1, a2⟩ := area_one d v x1 q.1 (z d (List.mem_cons_self ..))
    obtain ⟨B, b1, b2⟩ := area_all ds vs x2 q.2 fun e he => z e (List.mem_cons_of_mem _ he)
    have kA : ∀ b ∈ A, b ∈ A ++ B := fun b hb => List.mem_append.mpr (.inl hb)
    have kB : ∀ b ∈ B, b ∈ A ++ B := fun b hb => List.mem_append.mpr (.inr hb)
    refine ⟨A ++ B, fun u hu => ?_, fun b hb => ?_⟩
    · rcases List.mem_cons.mp hu with e | m
      · rw [e]
        exact a1.mono kA
      · exact (b1 u m).mono kB
    · rcases List.mem_append.mp hb with m | m
      · exact (a2 b m).mono kA
      · exact (b2 b m).mono kB
end
end
/-- what is tracked of an argument's object -/
def hoOf (o : Obj) : Option HO := match o.data with
  | .seq vs _ => if (o.cls == Value.type "list") = true then some (.frz o (.lst (vs.toList.map toV))) else some (.frz o (.tup (vs.toList.map toV)))
  | _ => none
def argH (K : PySem.W.Frag) (h : Heap) (A : List Addr) : Hp := fun b => if b ∈ A then (if (K.lookup b).isNone = true then (h.get? b).bind hoOf else none) else none
/-- nothing is tracked but what is known to the object -/
def OnlyF (H : Hp) : Prop := ∀ b, H b = none ∨ ∃ o u, H b = some (.frz o u)
theorem hoOf_lst (vs : List Value) : hoOf { cls := .type "list", data := .seq vs.toArray } = some (.frz { cls := .type "list", data := .seq vs.toArray } (.lst (vs.map toV))) := by
  show (if (Value.type "list" == Value.type "list") = true then some (HO.frz { cls := .type "list", data := .seq vs.toArray } (.lst (vs.toArray.toList.map toV))) else some (HO.frz { cls := .type "list", data := .seq vs.toArray } (.tup (vs.toArray.toList.map toV)))) = _
  rw [if_pos (beq_self_eq_true _)]
theorem hoOf_tup (vs : List Value) : hoOf { cls := .type "tuple", data := .seq vs.toArray } = some (.frz { cls := .type "tuple", data := .seq vs.toArray } (.tup (vs.map toV))) := by
  show (if (Value.type "tuple" == Value.type "list") = true then some (HO.frz { cls := .type "tuple", data := .seq vs.toArray } (.lst (vs.toArray.toList.map toV))) else some (HO.frz { cls := .type "tuple", data := .seq vs.toArray } (.tup (vs.toArray.toList.map toV)))) = _
  rw [if_neg (by decide)]
section
variable {P : Program} {w : World} {K : PySem.W.Frag} {h : Heap} {A : List Addr}
theorem argH_at {b : Addr} {o : Obj} (hb : b ∈ A) (hk : K.lookup b = none) (e : h.get? b = some o) : argH K h A b = hoOf o := by
  unfold argH
  rw [if_pos hb, hk, if_pos (show (none : Option Obj).isNone = true from rfl), e] <;> rfl
theorem of_argH {b : Addr} {u : HO} (q : argH K h A b = some u) : b ∈ A ∧ K.lookup b = none := by
  unfold argH at q
  by_cases hb : b ∈ A
  · rw [if_pos hb] at q
    cases hk : K.lookup b with
    | none => exact ⟨hb, rfl⟩
    | some o =>
      rw [hk, if_neg (by simp)] at q
      cases q
  · rw [if_neg hb] at q
    cases q
/-- what stands tracked -/
theorem argH_is (ar : ∀ a ∈ A, ArgOb h A a) {b : Addr} {u : HO} (q : argH K h A b = some u) : K.lookup b = none ∧ ∃ vs : List Value, vs.length ≤ sizeLine ∧ (∀ u ∈ vs, OkU A u) ∧
    ((h.get? b = some { cls := .type "list", data := .seq vs.toArray } ∧ u = .frz { cls := .type "list", data := .seq vs.toArray } (.lst (vs.map toV))) ∨
     (h.get? b = some { cls := .type "tuple", data := .seq vs.toArray } ∧ u = .frz { cls := .type "tuple", data := .seq vs.toArray } (.tup (vs.map toV)))) := by
  obtain ⟨hb, hk⟩ := of_argH q
  obtain ⟨vs, h1, h2, h3⟩ := ar b hb
  refine ⟨hk, vs, h1, h2, ?_⟩
  rcases h3 with e | e
  · rw [argH_at hb hk e, hoOf_lst] at q
    exact .inl ⟨e, (Option.some.inj q).symm⟩
  · rw [argH_at hb hk e, hoOf_tup] at q
    exact .inr ⟨e, (Option.some.inj q).symm⟩
theorem argH_only (ar : ∀ a ∈ A, ArgOb h A a) : OnlyF (argH K h A) := fun b => by
  cases q : argH K h A b with
  | none => exact .inl rfl
  | some u =>
    obtain ⟨_, vs, _, _, ⟨_, e⟩ | ⟨_, e⟩⟩ := argH_is ar q
    · exact .inr ⟨_, _, by rw [e]⟩
    · exact .inr ⟨_, _, by rw [e]⟩
theorem argH_ok (ar : ∀ a ∈ A, ArgOb h A a) : HOk P w (argH K h A) h := fun b u q => by
  obtain ⟨_, vs, h1, h2, ⟨e, rfl⟩ | ⟨e, rfl⟩⟩ := argH_is ar q
  · exact ⟨e, by rw [List.length_map]; exact h1, vs, _, vals_toV h2, e⟩
  · exact ⟨e, by rw [List.length_map]; exact h1, vs, vals_toV h2, _, e, rfl, _, rfl⟩
theorem seq_inj {c c' : Value} {vs us : List Value} (e : (some { cls := c, data := .seq vs.toArray } : Option Obj) = some { cls := c', data := .seq us.toArray }) : c = c' ∧ vs = us := by
  have e1 := Option.some.inj e
  have e2 : c = c' := congrArg Obj.cls e1
  have e3 : Data.seq vs.toArray = Data.seq us.toArray := congrArg Obj.data e1
  injection e3 with e4
  refine ⟨e2, ?_⟩
  have e5 := congrArg Array.toList e4
  simpa using e5
/-- a list argument -/
theorem argL (KX : K.In h) (ar : ∀ a ∈ A, ArgOb h A a) {a : Addr} {vs : List Value} (ha : a ∈ A) (e : h.get? a = some { cls := .type "list", data := .seq vs.toArray }) : (∀ u ∈ vs, OkU A u) ∧ SqL K (argH K h A) a (vs.map toV) := by
  obtain ⟨us, h1, h2, h3⟩ := ar a ha
  have hu : us = vs := by
    rcases h3 with q | q
    · rw [e] at q
      exact (seq_inj q).2.symm
    · rw [e] at q
      exact absurd (Value.type.inj (seq_inj q).1) (by decide)
  subst hu
  refine ⟨h2, ?_⟩
  cases hk : K.lookup a with
  | none => exact .inl (.inr ⟨_, by rw [argH_at ha hk e, hoOf_lst]⟩)
  | some o =>
    have e2 := KX a o hk
    rw [e] at e2
    obtain rfl := Option.some.inj e2
    exact .inr ⟨_, us.toArray, _, hk, rfl, rfl, rfl, by rw [List.size_toArray]; exact h1, by simpa using vals_toV h2⟩
theorem argT (KX : K.In h) (ar : ∀ a ∈ A, ArgOb h A a) {a : Addr} {vs : List Value} (ha : a ∈ A) (e : h.get? a = some { cls := .type "tuple", data := .seq vs.toArray }) : (∀ u ∈ vs, OkU A u) ∧ SqT K (argH K h A) a (vs.map toV) := by
  obtain ⟨us, h1, h2, h3⟩ := ar a ha
  have hu : us = vs := by
    rcases h3 with q | q
    · rw [e] at q
      exact absurd (Value.type.inj (seq_inj q).1) (by decide)
    · rw [e] at q
      exact (seq_inj q).2.symm
  subst hu
  refine ⟨h2, ?_⟩
  cases hk : K.lookup a with
  | none => exact .inl (.inr ⟨_, by rw [argH_at ha hk e, hoOf_tup]⟩)
  | some o =>
    have e2 := KX a o hk
    rw [e] at e2
    obtain rfl := Option.some.inj e2
    exact .inr ⟨_, us.toArray, _, hk, rfl, rfl, by rw [List.size_toArray]; exact h1, by simpa using vals_toV h2⟩
mutual
theorem dw_one {Pm : Params} (KX : K.In h) (ar : ∀ a ∈ A, ArgOb h A a) : ∀ (d : WData) (v : Value), Well Pm h v d → plW d = true → OkU A v → Dw K (argH K h A) (toV v) d
  | .none, _, x, _, _ => by
    cases x
    exact .non
  | .bool b, _, x, _, _ => by
    cases x
    exact .bl b
  | .int i, _, x, _, _ => by
    cases x
    exact .int i
  | .str s, _, x, _, _ => by
    cases x
    exact .str s
  | .bytes b, _, x, _, _ => by
    cases x
    have z := Dw.byt (K := K) (H := argH K h A) b.toArray
    exact z
  | .list ds, _, x, p, hu => by
    obtain ⟨a, vs, rfl, ho, hall⟩ := well_list x
    obtain ⟨h2, hs⟩ := argL KX ar hu ho
    exact .lst hs (dw_all KX ar ds _ hall p h2)
  | .tuple ds, _, x, p, hu => by
    obtain ⟨a, vs, rfl, ho, hall⟩ := well_tuple x
    obtain ⟨h2, hs⟩ := argT KX ar hu ho
    exact .tup hs (dw_all KX ar ds _ hall p h2)
  | .float _, _, _, p, _ => Bool.noConfusion (show false = true from p)
  | .dict _, _, _, p, _ => Bool.noConfusion (show false = true from p)
  | .bytearray _, _, _, p, _ => Bool.noConfusion (show false = true from p)
  | .set _, _, _, p, _ => Bool.noConfusion (show false = true from p)
  | .frozenset _, _, _, p, _ => Bool.noConfusion (show false = true from p)
  | .obj _ _, _, _, p, _ => Bool.noConfusion (show false = true from p)
theorem dw_all {Pm : Params} (KX : K.In h) (ar : ∀ a ∈ A, ArgOb h A a) : ∀ (ds : List WData) (vs : List Value), WellAll Pm h vs ds → plWs ds = true → (∀ u ∈ vs, OkU A u) → DwAll K (argH K h A) (vs.map toV) ds
  | [], _, x, _, _ => by
    cases x
    exact .nil
  | d :: ds, _, x, p, hu => by
    obtain ⟨v, vs, rfl, x1, x2⟩ := well_cons x
    have q : plW d = true ∧ plWs ds = true := Bool.and_eq_true_iff.mp p
    exact .cons (dw_one KX ar d v x1 q.1 (hu _ (List.mem_cons_self ..))) (dw_all KX ar ds vs x2 q.2 fun u m => hu u (List.mem_cons_of_mem _ m))
end
end
/-! ### the call -/
theorem spec_call {P : Program} {w : World} {K : PySem.W.Frag} {mg mb : Str → Option Value} {CX : CXT} {k : Nat} {fa : Addr} {fd : FuncData} {ps : List Str} {sp : Sp} {s₁ : Shared} {vals : List Value} {ds : List WData} {R : PySem.W.WRecords} {cl : Str → Option Addr} {d0 : WData}
    (KX : K.In s₁.heap) (hns : s₁.heap.Ns mainGlobals mg) (hb : s₁.heap.Ns builtinsNs mb) (hbb : ∀ x : Str, x ≠ "__name__" → mb x = bootBuiltins x) (hlim : s₁.heap.NoLimit) (hg : s₁.gens = #[])
    (hwl : WellAll w.params s₁.heap vals ds) (hpl : plWs ds = true) (hwt : ∀ d ∈ ds, d.weight ≤ 1048576) (hr : Room k callerA)
    (F : ∀ base : Heap, K.In base → base.Ns mainGlobals mg → FnOk P w K mg base CX k fa fd ps sp) (hbind : ∀ (s : Shared) (us : List Value), us.length = ps.length → BindsTo s fd ⟨us, []⟩ (ps.zip us)) (hlen : ds.length = ps.length)
    (hsp : ∀ (H : Hp) (xs : List V), OnlyF H → DwAll K H xs ds → sp xs H (fun v H' => Dw K H' v d0) fun _ _ _ => False)
    (hCX : ∀ H e s', CX [] H s₁ (fun _ _ _ => False) e s' → False) :
    codeAny (model P w) callerA (.call (.ref fa) ⟨vals, []⟩) (fun r s' => ∃ u as, r = .ok (.ret u) ∧ ReadsW R cl s'.heap u d0 as ∧ OldK s₁.heap s'.heap ∧ s'.os = s₁.os ∧ AllBare s'.gens) s₁ := by
  obtain ⟨A, ho, ar⟩ := area_all ds vals hwl hpl hwt
  have hO : OnlyF (argH K s₁.heap A) := argH_only ar
  have hok : HOk P w (argH K s₁.heap A) s₁.heap := argH_ok ar
  have hS := dw_all KX ar ds vals hwl hpl ho
  have hV := vals_toV ho
  have hK : ∀ b u, argH K s₁.heap A b = some u → K.lookup b = none := fun b u q => (argH_is ar q).1
  have noA : ∀ {b : Addr} {o : Obj} {es : Array DictEntry} {ep : Nat}, s₁.heap.get? b = some o → o.data = .dict es ep → argH K s₁.heap A b = none := fun {b o es ep} e d => by
    cases q : argH K s₁.heap A b with
    | none => rfl
    | some u =>
      obtain ⟨_, vs, _, _, ⟨e2, _⟩ | ⟨e2, _⟩⟩ := argH_is ar q
      · rw [e2] at e
        cases e
        have d' : Data.seq vs.toArray _ = Data.dict es ep := d
        cases d'
      · rw [e2] at e
        cases e
        have d' : Data.seq vs.toArray _ = Data.dict es ep := d
        cases d'
  generalize argH K s₁.heap A = H at hO hok hS hK noA
  have base_of : ∀ {b : Addr} {o : Obj}, s₁.heap.get? b = some o → H b = none → (hidT s₁.heap H).get? b = some o := fun e n => hidT_get e n
  have nsK : ∀ {b : Addr} {m : Str → Option Value}, s₁.heap.Ns b m → (hidT s₁.heap H).Ns b m := fun {b m} ⟨o, es, ep, e, d, r⟩ => ⟨o, es, ep, base_of e (noA e d), d, r⟩
  have nK : ∀ b o, K.lookup b = some o → H b = none := fun b o e => by
    cases q : H b with
    | none => rfl
    | some u =>
      rw [hK b u q] at e
      cases e
  have hKb : K.In (hidT s₁.heap H) := fun b o e => base_of (KX b o e) (nK b o e)
  have hM : Mod K mg (hidT s₁.heap H) := ⟨hKb, nsK hns, ⟨mb, nsK hb, hbb⟩, let ⟨mc, h1, h2⟩ := hlim; ⟨mc, nsK h1, h2⟩⟩
  have e0 : Env0 P w K mg (hidT s₁.heap H) callerA [] s₁ H := ⟨rfl, hM, fun b o e => of_hidT e, Nat.le_of_eq (hidT_size _ _), trivial, fun b hb => absurd (show b ∈ ([] : List Addr) from hb) (by simp), hok, .of_eq hg⟩
  have hl : vals.length = ps.length := by rw [wellAll_len hwl]; exact hlen
  refine codeAny_mono ((F _ hKb (nsK hns)).run callerA [] s₁ H ⟨vals, []⟩ vals (vals.map toV) _ _ hr e0 (hbind s₁ vals hl) hV (hsp H _ hO hS)) fun r s' x => ?_
  cases r with
  | error e => exact (hCX H e s' x).elim
  | ok fl =>
    cases fl with
    | next => exact False.elim x
    | brk => exact False.elim x
    | cont => exact False.elim x
    | ret u =>
      obtain ⟨v, H', os, bare, un, hok', r', q⟩ := x
      have kept : ∀ b o, s₁.heap.get? b = some o → s'.heap.get? b = some o := fun b o e => by
        cases q2 : H b with
        | none => exact un.keep b o e q2 (by intro z; exact absurd (show b ∈ ([] : List Addr) from z) (by simp)) (by simp)
        | some u2 =>
          rcases hO b with z | ⟨ob, u3, z⟩
          · rw [q2] at z
            cases z
          · have z2 := un.frzs b ob _ z
            obtain ⟨e1, _⟩ := hok b _ z
            obtain ⟨e2, _⟩ := hok' b _ z2
            rw [e] at e1
            cases e1
            exact e2
      have KX' : K.In s'.heap := fun b o e => kept b o (KX b o e)
      obtain ⟨as, hrd⟩ := Dw.reads (R := R) (cl := cl) hok' KX' d0 v u q r'
      exact ⟨u, as, rfl, hrd, OldK.of_keep kept, os, bare⟩
/-! ### the row -/
theorem layable_weight {ds : List WData} (h : WData.layableAll ds = true) : ∀ d ∈ ds, d.weight ≤ 1048576 := fun d hd =>
  (PySem.W.layableW_iff.mp (List.all_eq_true.mp h d hd)).2.2
theorem encAll_len : ∀ (cs : List Codec) (a : Codec.denoteAll cs), (Codec.encAll cs a).length = cs.length
  | [], _ => rfl
  | c :: cs, a => by
    show (Codec.encAll cs a.2).length + 1 = cs.length + 1
    rw [encAll_len cs a.2]
/-- the goal that k_headS leaves (case hc), from the promise of the row's def: whatever the arguments that the codecs let and the row asks for, the def gives what stands for enc (f ..) -/
theorem walk_spec {r : OpenSpec} {k : Nat} {q : Program} {loose : List Str} {XP : (Str → Option Value) → Heap → Prop} {YP : World → Heap → Prop} {d : DefRec} {K : Params → PySem.W.Frag} {CX : World → CXT} {ps : List Str} {sp : World → Sp}
    (hwell : r.wellSaid = true) (hdf : d.params.defaults = []) (hlen : r.args.length = ps.length) (hr : Room k callerA)
    (hY : ∀ (w : World) (h : Heap), YP w h → (K w.params).In h)
    (F : ∀ (w : World) (mg : Str → Option Value) (fa : Addr) (h : Heap), YP w h → (K w.params).In h → h.Ns mainGlobals mg → mg d.name = some (.ref fa) →
      ∃ fd : FuncData, (∀ (s : Shared) (us : List Value), us.length = ps.length → BindsTo s fd ⟨us, []⟩ (ps.zip us)) ∧
        ∀ base : Heap, (K w.params).In base → base.Ns mainGlobals mg → FnOk r.prog w (K w.params) mg base (CX w) k fa fd ps (sp w))
    (hsp : ∀ (w : World) (H : Hp) (xs : List V) (a : Codec.denoteAll r.args), OnlyF H → Codec.withinAll r.args a = true → Codec.app r.args r.asked a = true → DwAll (K w.params) H xs (Codec.encAll r.args a) →
      sp w xs H (fun v H' => Dw (K w.params) H' v (r.ret.enc (Codec.app r.args r.f a))) fun _ _ _ => False)
    (hCX : ∀ (w : World) (H : Hp) (s : Shared) (e : Value) (s' : Shared), CX w [] H s (fun _ _ _ => False) e s' → False) :
    PySem.W.WalkOS q loose XP YP r d [] (fun f vs => PySem.call f vs) := by
  intro w s_0 s₁ mg mb G Y fa o pm cd doc dV kV ho hd hcd hD hmg hg args vals as hpre hlay hrd hwl hlo
  obtain ⟨a, e1, e2⟩ := PySem.W.os_pre_some hpre
  obtain ⟨e3, hwi⟩ := Codec.encAll_of_decAll r.args args a e1
  subst e3
  have KX := hY w _ Y
  obtain ⟨fd, hb, hF⟩ := F w mg fa _ Y KX G.T.g hmg
  refine PySem.W.enter_call (codeAny_mono (spec_call (R := []) (cl := classAt s_0.heap) (d0 := r.ret.enc (Codec.app r.args r.f a)) KX G.T.g G.T.b G.T.builtins G.T.nolimit hg hwl (pl_encAll _ _) (layable_weight hlay) hr hF hb (by rw [encAll_len]; exact hlen)
    (fun H xs hO hS => hsp w H xs a hO hwi e2 hS) fun H e s' => hCX w H s₁ e s') fun r' s' hq => ?_)
  obtain ⟨u, as', rfl, h1, h2, h3, h4⟩ := hq
  exact ⟨.inl ⟨u, _, as', rfl, fun _ => rfl, h1, (OpenSpec.post_iff hwell hwi _ _).mpr rfl, fun z => Bool.noConfusion (show false = true from z)⟩, h2, h3, h4⟩
/-- the same where the promise hangs on the written part alone -/
theorem walk_specK {r : OpenSpec} {k : Nat} {q : Program} {loose : List Str} {XP : (Str → Option Value) → Heap → Prop} {YP : World → Heap → Prop} {d : DefRec} {K : Params → PySem.W.Frag} {CX : CXT} {ps : List Str} {sp : PySem.W.Frag → Sp}
    (hwell : r.wellSaid = true) (hdf : d.params.defaults = []) (hlen : r.args.length = ps.length) (hr : Room k callerA)
    (hY : ∀ (w : World) (h : Heap), YP w h → (K w.params).In h)
    (F : ∀ (w : World) (mg : Str → Option Value) (fa : Addr) (h : Heap), YP w h → (K w.params).In h → h.Ns mainGlobals mg → mg d.name = some (.ref fa) →
      ∃ fd : FuncData, (∀ (s : Shared) (us : List Value), us.length = ps.length → BindsTo s fd ⟨us, []⟩ (ps.zip us)) ∧
        ∀ base : Heap, (K w.params).In base → base.Ns mainGlobals mg → FnOk r.prog w (K w.params) mg base CX k fa fd ps (sp (K w.params)))
    (hsp : ∀ (K : PySem.W.Frag) (H : Hp) (xs : List V) (a : Codec.denoteAll r.args), OnlyF H → Codec.withinAll r.args a = true → Codec.app r.args r.asked a = true → DwAll K H xs (Codec.encAll r.args a) →
      sp K xs H (fun v H' => Dw K H' v (r.ret.enc (Codec.app r.args r.f a))) fun _ _ _ => False)
    (hCX : ∀ (H : Hp) (s : Shared) (e : Value) (s' : Shared), CX [] H s (fun _ _ _ => False) e s' → False) :
    PySem.W.WalkOS q loose XP YP r d [] (fun f vs => PySem.call f vs) :=
  walk_spec (K := K) (CX := fun _ => CX) (sp := fun w => sp (K w.params)) hwell hdf hlen hr hY F (fun w H xs a h1 h2 h3 h4 => hsp (K w.params) H xs a h1 h2 h3 h4) fun _ H s e s' => hCX H s e s'
end L2


section
set_option Elab.async false
set_option linter.all false
set_option maxRecDepth 100000
set_option maxHeartbeats 2000000
namespace Cb
open Rb16

/-! ### a bit's part, width, chance -/
/-- the part, by a chance or evenly -/
def partN (w : Nat) : Option Nat → Nat
  | none => w / 2
  | some p => w / 2048 * p
def widthN (w : Nat) (o : Option Nat) (bit : Nat) : Nat := if bit = 0 ∨ o = none then partN w o else w - partN w o
/-- the chance that a step's place means: none where it is told evenly -/
def chOf (ch : List Nat) : Option Nat → Option (Option Nat)
  | none => some none
  | some i => (ch[i]?).map some
def setCh (ch : List Nat) (c o : Option Nat) (bit : Nat) : List Nat := match c, o with
  | some i, some v => ch.set i (learned v bit)
  | _, _ => ch
def ChOk (ch : List Nat) : Prop := ∀ p ∈ ch, 31 ≤ p ∧ p ≤ 2017
def OOk : Option Nat → Prop
  | none => True
  | some p => 31 ≤ p ∧ p ≤ 2017
def WOk (w : Nat) : Prop := 16777216 ≤ w ∧ w < 4294967296

theorem learned_ok {p b : Nat} (h : 31 ≤ p ∧ p ≤ 2017) : 31 ≤ learned p b ∧ learned p b ≤ 2017 := by
  unfold learned
  split <;> omega
theorem chOf_some {ch : List Nat} {i : Nat} {o : Option Nat} (e : chOf ch (some i) = some o) : ∃ v, ch[i]? = some v ∧ o = some v := by
  have e' : (ch[i]?).map some = some o := e
  cases q : ch[i]? with
  | none => rw [q] at e'; cases e'
  | some v => rw [q] at e'; cases e'; exact ⟨v, rfl, rfl⟩
theorem chOf_at {ch : List Nat} {i v : Nat} (e : ch[i]? = some v) : chOf ch (some i) = some (some v) := by
  show (ch[i]?).map some = _
  rw [e]; rfl
theorem chOf_lt {ch : List Nat} {i : Nat} (h : i < ch.length) : ∃ v, ch[i]? = some v ∧ chOf ch (some i) = some (some v) := ⟨ch[i], List.getElem?_eq_getElem h, chOf_at (List.getElem?_eq_getElem h)⟩
theorem chOf_ok {ch : List Nat} {c o : Option Nat} (h : ChOk ch) (e : chOf ch c = some o) : OOk o := by
  cases c with
  | none => cases e; trivial
  | some i =>
    obtain ⟨v, q, rfl⟩ := chOf_some e
    exact h v (List.mem_of_getElem? q)
theorem setCh_ok {ch : List Nat} {c o : Option Nat} {b : Nat} (h : ChOk ch) (e : chOf ch c = some o) : ChOk (setCh ch c o b) := by
  have ho := chOf_ok h e
  cases c with
  | none => exact h
  | some i =>
    cases o with
    | none => exact h
    | some v =>
      intro p hp
      rcases List.mem_or_eq_of_mem_set hp with q | q
      · exact h p q
      · subst q; exact learned_ok ho
theorem setCh_len {ch : List Nat} {c o : Option Nat} {b : Nat} : (setCh ch c o b).length = ch.length := by
  unfold setCh
  split
  · rw [List.length_set]
  · rfl
theorem part_le {w : Nat} {o : Option Nat} (ho : OOk o) : partN w o ≤ w := by
  cases o with
  | none => show w / 2 ≤ w; omega
  | some p =>
    have hp : p ≤ 2048 := by have := ho.2; omega
    show w / 2048 * p ≤ w
    exact Nat.le_trans (Nat.mul_le_mul_left _ hp) (by omega)
theorem part_ge {w : Nat} {o : Option Nat} (hw : WOk w) (ho : OOk o) : 65536 ≤ partN w o := by
  cases o with
  | none => show 65536 ≤ w / 2; have := hw.1; omega
  | some p =>
    have hp : 31 ≤ p := ho.1
    show 65536 ≤ w / 2048 * p
    have h1 : 8192 ≤ w / 2048 := by have := hw.1; omega
    exact Nat.le_trans (by decide) (Nat.mul_le_mul h1 hp)
theorem width_ge {w b : Nat} {o : Option Nat} (hw : WOk w) (ho : OOk o) : 65536 ≤ widthN w o b := by
  unfold widthN
  split
  · exact part_ge hw ho
  · cases o with
    | none => simp_all
    | some p =>
      have hp : p ≤ 2017 := ho.2
      show 65536 ≤ w - w / 2048 * p
      have h1 : w / 2048 * p ≤ w / 2048 * 2017 := Nat.mul_le_mul_left _ hp
      have := hw.1
      omega
theorem width_le {w b : Nat} {o : Option Nat} (ho : OOk o) : widthN w o b ≤ w := by
  unfold widthN
  split
  · exact part_le ho
  · omega
theorem half_le {w : Nat} : w / 2 + w / 2 ≤ w := by omega
/-- what is skipped and the width that is left are within the width -/
theorem skip_width {w b : Nat} {o : Option Nat} (ho : OOk o) : (if b = 0 then 0 else partN w o) + widthN w o b ≤ w := by
  unfold widthN
  by_cases hb : b = 0
  · simp only [hb, if_true, true_or]
    have := part_le (w := w) ho
    omega
  · simp only [hb, if_false, false_or]
    have := part_le (w := w) ho
    cases o with
    | none => simp only [if_true]; show w / 2 + w / 2 ≤ w; omega
    | some p => simp only [reduceCtorEq, if_false]; omega

/-! ### bytes -/
def val : List Nat → Nat
  | [] => 0
  | b :: r => b * 256 ^ r.length + val r
def Bs (l : List Nat) : Prop := ∀ b ∈ l, b < 256
theorem Bs.tail {b : Nat} {r : List Nat} (h : Bs (b :: r)) : Bs r := fun x hx => h x (List.mem_cons_of_mem _ hx)
theorem Bs.head {b : Nat} {r : List Nat} (h : Bs (b :: r)) : b < 256 := h b (List.mem_cons_self ..)
theorem val_append : ∀ a b : List Nat, val (a ++ b) = val a * 256 ^ b.length + val b
  | [], b => by simp [val]
  | x :: a, b => by
    show x * 256 ^ (a ++ b).length + val (a ++ b) = (x * 256 ^ a.length + val a) * 256 ^ b.length + val b
    rw [val_append a b, List.length_append, Nat.pow_add, Nat.add_mul, Nat.mul_assoc, Nat.add_assoc]
theorem val_lt : ∀ {l : List Nat}, Bs l → val l < 256 ^ l.length
  | [], _ => by simp [val]
  | b :: r, h => by
    have ih := val_lt h.tail
    have hb := h.head
    show b * 256 ^ r.length + val r < 256 ^ (r.length + 1)
    rw [Nat.pow_succ]
    have : (b + 1) * 256 ^ r.length ≤ 256 * 256 ^ r.length := Nat.mul_le_mul_right _ hb
    rw [Nat.add_mul] at this
    omega
theorem val_rep : ∀ j : Nat, val (List.replicate j 255) + 1 = 256 ^ j
  | 0 => rfl
  | j + 1 => by
    show 255 * 256 ^ (List.replicate j 255).length + val (List.replicate j 255) + 1 = 256 ^ (j + 1)
    have := val_rep j
    rw [List.length_replicate, Nat.pow_succ]
    omega
theorem val_zero : ∀ j : Nat, val (List.replicate j 0) = 0
  | 0 => rfl
  | j + 1 => by
    show 0 * 256 ^ (List.replicate j 0).length + val (List.replicate j 0) = 0
    rw [val_zero j]; omega
theorem rep_of : ∀ {l : List Nat}, Bs l → ¬ val l + 1 < 256 ^ l.length → l = List.replicate l.length 255
  | [], _, _ => rfl
  | b :: r, h, n => by
    have hb := h.head
    have hr := val_lt h.tail
    have n' : ¬ b * 256 ^ r.length + val r + 1 < 256 ^ (r.length + 1) := n
    rw [Nat.pow_succ] at n'
    have hb2 : b = 255 := by
      by_cases q : b = 255
      · exact q
      · have : (b + 2) * 256 ^ r.length ≤ 256 * 256 ^ r.length := Nat.mul_le_mul_right _ (by omega)
        rw [Nat.add_mul] at this
        omega
    subst hb2
    have ih := rep_of h.tail (by omega)
    show 255 :: r = 255 :: List.replicate r.length 255
    rw [← ih]
theorem split255 : ∀ {l : List Nat}, Bs l → val l + 1 < 256 ^ l.length → ∃ a x j, l = a ++ x :: List.replicate j 255 ∧ x < 255
  | [], _, n => by simp [val] at n
  | b :: r, h, n => by
    by_cases q : val r + 1 < 256 ^ r.length
    · obtain ⟨a, x, j, e, hx⟩ := split255 h.tail q
      exact ⟨b :: a, x, j, by rw [e]; rfl, hx⟩
    · have e := rep_of h.tail q
      have hr := val_lt h.tail
      have n' : b * 256 ^ r.length + val r + 1 < 256 ^ (r.length + 1) := n
      refine ⟨[], b, r.length, by rw [← e]; rfl, ?_⟩
      by_cases hb : b < 255
      · exact hb
      · have : 255 * 256 ^ r.length ≤ b * 256 ^ r.length := Nat.mul_le_mul_right _ (by omega)
        rw [Nat.pow_succ] at n'
        omega
theorem val_carry (a : List Nat) (x j : Nat) : val (a ++ (x + 1) :: List.replicate j 0) = val (a ++ x :: List.replicate j 255) + 1 := by
  rw [val_append, val_append]
  show val a * 256 ^ ((List.replicate j 0).length + 1) + ((x + 1) * 256 ^ (List.replicate j 0).length + val (List.replicate j 0)) = val a * 256 ^ ((List.replicate j 255).length + 1) + (x * 256 ^ (List.replicate j 255).length + val (List.replicate j 255)) + 1
  have h1 := val_rep j
  rw [val_zero, List.length_replicate, List.length_replicate, Nat.add_mul]
  omega
theorem bs_carry {a : List Nat} {x j : Nat} (h : Bs (a ++ x :: List.replicate j 255)) (hx : x < 255) : Bs (a ++ (x + 1) :: List.replicate j 0) := by
  intro b hb
  rcases List.mem_append.mp hb with q | q
  · exact h b (List.mem_append.mpr (.inl q))
  · rcases List.mem_cons.mp q with q | q
    · omega
    · have := List.eq_of_mem_replicate q; omega
theorem digits_val : ∀ (n : Nat) (l : List Nat), l.length = n → Bs l → digits n (val l) = l
  | 0, l, e, _ => by
    cases l with
    | nil => rfl
    | cons a r => cases e
  | n + 1, l, e, h => by
    rcases List.eq_nil_or_concat l with q | ⟨a, x, q⟩
    · subst q; cases e
    · rw [List.concat_eq_append] at q
      subst q
      have hx : x < 256 := h x (by simp)
      have ha : Bs a := fun b hb => h b (List.mem_append.mpr (.inl hb))
      have el : a.length = n := by simpa using e
      have ev : val (a ++ [x]) = val a * 256 + x := by
        rw [val_append]
        show val a * 256 ^ 1 + (x * 256 ^ 0 + 0) = _
        omega
      show digits n (val (a ++ [x]) / 256) ++ [val (a ++ [x]) % 256] = a ++ [x]
      rw [ev, show (val a * 256 + x) / 256 = val a by omega, show (val a * 256 + x) % 256 = x by omega, digits_val n a el ha]

/-! ### the writing object: its number by bytes -/
structure WRep (s : Out) (hi : List Nat) (lo : Nat) : Prop where
  num : s.number = val hi * 4294967296 + lo
  grown : s.grown = hi.length
  low : lo < 4294967296
  bs : Bs hi
structure OInv (s : Out) : Prop where
  w : WOk s.width
  num : s.number + s.width ≤ 256 ^ (s.grown + 4)
  ch : ChOk s.chances
  k1 : 1 ≤ s.chances.length
  k2 : s.chances.length ≤ 4096
  most : s.grown + 4 ≤ 1048576

theorem written_rep {s : Out} {hi : List Nat} {lo : Nat} (r : WRep s hi lo) : written s = hi ++ [lo / 16777216 % 256, lo / 65536 % 256, lo / 256 % 256, lo % 256] := by
  have h1 := r.low
  have e : digits (hi.length + 4) (val hi * 4294967296 + lo) = digits hi.length (val hi) ++ [lo / 16777216 % 256, lo / 65536 % 256, lo / 256 % 256, lo % 256] := by
    show (((digits hi.length ((val hi * 4294967296 + lo) / 256 / 256 / 256 / 256) ++ [(val hi * 4294967296 + lo) / 256 / 256 / 256 % 256]) ++ [(val hi * 4294967296 + lo) / 256 / 256 % 256]) ++ [(val hi * 4294967296 + lo) / 256 % 256]) ++ [(val hi * 4294967296 + lo) % 256] = _
    rw [show (val hi * 4294967296 + lo) / 256 / 256 / 256 / 256 = val hi by omega, show (val hi * 4294967296 + lo) / 256 / 256 / 256 % 256 = lo / 16777216 % 256 by omega, show (val hi * 4294967296 + lo) / 256 / 256 % 256 = lo / 65536 % 256 by omega,
      show (val hi * 4294967296 + lo) / 256 % 256 = lo / 256 % 256 by omega, show (val hi * 4294967296 + lo) % 256 = lo % 256 by omega]
    simp
  unfold written
  rw [r.num, r.grown, e, digits_val _ _ rfl r.bs]

/-! ### a step of writing -/
/-- what a bit leaves ahead of the growing -/
def narrowO (s : Out) (c o : Option Nat) (bit : Nat) : Out := ⟨s.number + (if bit = 0 then 0 else partN s.width o), s.grown, widthN s.width o bit, setCh s.chances c o bit⟩
def grow1 (s : Out) : Out := { s with number := 256 * s.number, grown := s.grown + 1, width := 256 * s.width }
def growO (s : Out) : Out := if s.width < 16777216 then grow1 s else s
def stepOut (s : Out) (c : Option Nat) (bit : Nat) : Out := match c with
  | none => putHalf s bit
  | some c => putBit s c bit
theorem grow5 {s : Out} (h : 65536 ≤ s.width) : grow 5 s = growO s := by
  have e : NARROW = 16777216 := by decide
  unfold growO
  by_cases q : s.width < 16777216
  · rw [if_pos q]
    show (if s.width < NARROW then grow 4 (grow1 s) else s) = _
    rw [e, if_pos q]
    show (if (grow1 s).width < NARROW then grow 3 (grow1 (grow1 s)) else grow1 s) = _
    rw [e, if_neg (by show ¬ 256 * s.width < 16777216; omega)]
  · rw [if_neg q]
    show (if s.width < NARROW then grow 4 (grow1 s) else s) = _
    rw [e, if_neg q]
/-- all but the limit of bytes -/
structure OInv0 (s : Out) : Prop where
  w : WOk s.width
  num : s.number + s.width ≤ 256 ^ (s.grown + 4)
  ch : ChOk s.chances
theorem OInv.to0 {s : Out} (i : OInv s) : OInv0 s := ⟨i.w, i.num, i.ch⟩
theorem stepOut_eq {s : Out} {c o : Option Nat} {b : Nat} (i : OInv0 s) (e : chOf s.chances c = some o) : stepOut s c b = growO (narrowO s c o b) := by
  have ho := chOf_ok i.ch e
  have hw : 65536 ≤ (narrowO s c o b).width := width_ge i.w ho
  rw [← grow5 hw]
  cases c with
  | none =>
    cases e
    show putHalf s b = _
    unfold putHalf narrowO
    dsimp only [widthN, partN, setCh]
    simp only [or_true, if_true]
    by_cases hb : b = 0
    · simp only [hb, if_true, Nat.add_zero]
    · simp only [hb, if_false]
  | some k =>
    obtain ⟨v, q, rfl⟩ := chOf_some e
    have ed : s.chances.getD k 0 = v := by rw [List.getD_eq_getElem?_getD, q]; rfl
    show putBit s k b = _
    unfold putBit narrowO
    dsimp only [widthN, partN, setCh]
    rw [ed]
    by_cases hb : b = 0
    · simp only [hb, if_true, true_or, Nat.add_zero]
    · simp only [hb, if_false, false_or, reduceCtorEq]
theorem growO_inv {s : Out} (h1 : 65536 ≤ s.width) (h2 : s.width < 4294967296) (h3 : s.number + s.width ≤ 256 ^ (s.grown + 4)) (h4 : ChOk s.chances) : OInv0 (growO s) := by
  unfold growO
  split
  · rename_i q
    refine ⟨⟨?_, ?_⟩, ?_, h4⟩
    · show 16777216 ≤ 256 * s.width; omega
    · show 256 * s.width < 4294967296; omega
    · show 256 * s.number + 256 * s.width ≤ 256 ^ (s.grown + 1 + 4)
      rw [show s.grown + 1 + 4 = (s.grown + 4) + 1 by omega, Nat.pow_succ]
      omega
  · exact ⟨⟨by omega, h2⟩, h3, h4⟩
theorem narrowO_inv {s : Out} {c o : Option Nat} {b : Nat} (i : OInv0 s) (e : chOf s.chances c = some o) :
    65536 ≤ (narrowO s c o b).width ∧ (narrowO s c o b).width < 4294967296 ∧ (narrowO s c o b).number + (narrowO s c o b).width ≤ 256 ^ ((narrowO s c o b).grown + 4) ∧ ChOk (narrowO s c o b).chances := by
  have ho := chOf_ok i.ch e
  refine ⟨width_ge i.w ho, Nat.lt_of_le_of_lt (width_le ho) i.w.2, ?_, setCh_ok i.ch e⟩
  show s.number + (if b = 0 then 0 else partN s.width o) + widthN s.width o b ≤ 256 ^ (s.grown + 4)
  have h1 := skip_width (w := s.width) (b := b) ho
  have h2 := i.num
  omega
theorem stepOut_inv0 {s : Out} {c o : Option Nat} {b : Nat} (i : OInv0 s) (e : chOf s.chances c = some o) : OInv0 (stepOut s c b) := by
  rw [stepOut_eq i e]
  obtain ⟨h1, h2, h3, h4⟩ := narrowO_inv (b := b) i e
  exact growO_inv h1 h2 h3 h4
theorem growO_grown (s : Out) : s.grown ≤ (growO s).grown ∧ (growO s).chances = s.chances := by
  unfold growO
  split
  · exact ⟨Nat.le_succ _, rfl⟩
  · exact ⟨Nat.le_refl _, rfl⟩
/-- all steps -/
def steps (s : Out) (l : List (Option Nat × Nat)) : Out := l.foldl (fun s p => stepOut s p.1 p.2) s
theorem stepOut_more {s : Out} {c o : Option Nat} {b : Nat} (i : OInv0 s) (e : chOf s.chances c = some o) : s.grown ≤ (stepOut s c b).grown ∧ (stepOut s c b).chances = setCh s.chances c o b ∧ (stepOut s c b).chances.length = s.chances.length := by
  rw [stepOut_eq i e]
  obtain ⟨h1, h2⟩ := growO_grown (narrowO s c o b)
  exact ⟨h1, h2, by rw [h2]; exact setCh_len⟩
/-- every step has its chance -/
def StOk (n : Nat) (l : List (Option Nat × Nat)) : Prop := ∀ p ∈ l, ∀ i, p.1 = some i → i < n
theorem StOk.ch {ch : List Nat} {l : List (Option Nat × Nat)} {p : Option Nat × Nat} (h : StOk ch.length l) (hp : p ∈ l) : ∃ o, chOf ch p.1 = some o := by
  obtain ⟨c, b⟩ := p
  cases c with
  | none => exact ⟨none, rfl⟩
  | some i =>
    obtain ⟨v, _, e⟩ := chOf_lt (h _ hp i rfl)
    exact ⟨some v, e⟩
theorem StOk.tail {n : Nat} {p : Option Nat × Nat} {l : List (Option Nat × Nat)} (h : StOk n (p :: l)) : StOk n l := fun q hq => h q (List.mem_cons_of_mem _ hq)
theorem steps_inv : ∀ {l : List (Option Nat × Nat)} {s : Out}, OInv0 s → StOk s.chances.length l → OInv0 (steps s l) ∧ s.grown ≤ (steps s l).grown ∧ (steps s l).chances.length = s.chances.length
  | [], s, i, _ => ⟨i, Nat.le_refl _, rfl⟩
  | p :: l, s, i, h => by
    obtain ⟨o, e⟩ := h.ch (List.mem_cons_self ..)
    obtain ⟨m1, _, m3⟩ := stepOut_more (b := p.2) i e
    obtain ⟨a, b, c⟩ := steps_inv (l := l) (stepOut_inv0 (b := p.2) i e) (by rw [m3]; exact h.tail)
    exact ⟨a, Nat.le_trans m1 b, c.trans m3⟩
/-- a step of the length reckoned ahead -/
def lbW (ch : List Nat) (w : Nat) (c : Option Nat) (b : Nat) : Nat := widthN w ((chOf ch c).getD none) b
def lb (ch : List Nat) (x : Nat × Nat) (p : Option Nat × Nat) : Nat × Nat := let w1 := lbW ch x.1 p.1 p.2
  if w1 < 16777216 then (w1 * 256, x.2 + 1) else (w1, x.2)
/-- no chance is asked twice -/
def Once (l : List (Option Nat × Nat)) : Prop := (l.filterMap (·.1)).Nodup
theorem lb_steps (ch : List Nat) : ∀ (l : List (Option Nat × Nat)) (s : Out), OInv0 s → StOk s.chances.length l → Once l → (∀ p ∈ l, ∀ i, p.1 = some i → s.chances[i]? = ch[i]?) →
    l.foldl (lb ch) (s.width, s.grown + 4) = ((steps s l).width, (steps s l).grown + 4)
  | [], s, _, _, _, _ => rfl
  | (c, b) :: l, s, i, h, n, g => by
    obtain ⟨o, e⟩ := h.ch (List.mem_cons_self ..)
    have e : chOf s.chances c = some o := e
    have e2 : chOf ch c = some o := by
      cases c with
      | none => exact e
      | some k =>
        obtain ⟨v, q, rfl⟩ := chOf_some e
        exact chOf_at ((g _ (List.mem_cons_self ..) k rfl).symm.trans q)
    obtain ⟨_, m2, m3⟩ := stepOut_more (b := b) i e
    have n2 : Once l := by
      unfold Once at n ⊢
      cases c with
      | none => exact n
      | some k => exact (List.nodup_cons.mp n).2
    have ih := lb_steps ch l (stepOut s c b) (stepOut_inv0 i e) (by rw [m3]; exact h.tail) n2 (fun p hp k hk => ?_)
    · show l.foldl (lb ch) (lb ch (s.width, s.grown + 4) (c, b)) = _
      have q : lb ch (s.width, s.grown + 4) (c, b) = ((stepOut s c b).width, (stepOut s c b).grown + 4) := by
        rw [stepOut_eq i e]
        unfold lb lbW growO
        dsimp only
        rw [e2]
        show (if widthN s.width o b < 16777216 then _ else _) = _
        by_cases hq : widthN s.width o b < 16777216
        · rw [if_pos hq, if_pos (show (narrowO s c o b).width < 16777216 from hq)]
          show (widthN s.width o b * 256, s.grown + 4 + 1) = (256 * widthN s.width o b, s.grown + 1 + 4)
          rw [Nat.mul_comm, show s.grown + 4 + 1 = s.grown + 1 + 4 by omega]
        · rw [if_neg hq, if_neg (show ¬ (narrowO s c o b).width < 16777216 from hq)]
          rfl
      rw [q, ih]
      rfl
    · rw [m2]
      have g2 := g p (List.mem_cons_of_mem _ hp) k hk
      cases c with
      | none => exact g2
      | some j =>
        have hne : j ≠ k := by
          intro q
          subst q
          have : j ∈ l.filterMap (·.1) := List.mem_filterMap.mpr ⟨p, hp, hk⟩
          exact (List.nodup_cons.mp n).1 this
        cases o with
        | none => exact g2
        | some v =>
          show (s.chances.set j (learned v b))[k]? = _
          rw [List.getElem?_set_ne hne]
          exact g2

/-! ### the steps of the calls -/
def evenSteps (l : List Nat) : List (Option Nat × Nat) := l.map fun b => (none, b)
def treeSteps (c : Nat) : Nat → List Nat → List (Option Nat × Nat)
  | _, [] => []
  | m, b :: r => (some (c + (m - 1)), b) :: treeSteps c (2 * m + b) r
theorem putEven_steps (s : Out) (n v : Nat) : putEven s n v = steps s (evenSteps (bitsOf n v)) := by
  unfold putEven steps evenSteps
  rw [List.foldl_map]
  rfl
theorem putTree_steps : ∀ (l : List Nat) (s : Out) (c m : Nat), putTree s c m l = steps s (treeSteps c m l)
  | [], _, _, _ => rfl
  | b :: l, s, c, m => by
    show putTree (putBit s (c + (m - 1)) b) c (2 * m + b) l = steps (stepOut s (some (c + (m - 1))) b) (treeSteps c (2 * m + b) l)
    rw [putTree_steps l]
    rfl
theorem even_ok (n : Nat) (l : List Nat) : StOk n (evenSteps l) ∧ Once (evenSteps l) := by
  constructor
  · intro p hp i e
    obtain ⟨b, _, q⟩ := List.mem_map.mp hp
    subst q
    cases e
  · have : (evenSteps l).filterMap (·.1) = [] := by
      rw [List.filterMap_eq_nil_iff]
      intro p hp
      obtain ⟨b, _, q⟩ := List.mem_map.mp hp
      subst q
      rfl
    unfold Once
    rw [this]
    exact List.nodup_nil
theorem tree_ge {c : Nat} : ∀ {l : List Nat} {m : Nat} {p : Option Nat × Nat} {i : Nat}, 1 ≤ m → p ∈ treeSteps c m l → p.1 = some i → c + (m - 1) ≤ i
  | [], _, _, _, _, h, _ => absurd h (by simp [treeSteps])
  | b :: l, m, p, i, hm, h, e => by
    have h : p = (some (c + (m - 1)), b) ∨ p ∈ treeSteps c (2 * m + b) l := List.mem_cons.mp h
    rcases h with q | q
    · subst q; cases e; exact Nat.le_refl _
    · have := tree_ge (by omega) q e
      omega
theorem tree_once {c : Nat} : ∀ {l : List Nat} {m : Nat}, 1 ≤ m → Once (treeSteps c m l)
  | [], _, _ => List.nodup_nil
  | b :: l, m, hm => by
    refine List.nodup_cons.mpr ⟨fun h => ?_, tree_once (by omega)⟩
    obtain ⟨p, hp, e⟩ := List.mem_filterMap.mp h
    have := tree_ge (by omega) hp e
    omega
theorem tree_lt {c n : Nat} : ∀ {l : List Nat} {m : Nat}, (∀ b ∈ l, b ≤ 1) → 1 ≤ m → (m + 1) * 2 ^ l.length + 2 * c ≤ 2 * n + 2 → ∀ p ∈ treeSteps c m l, ∀ i, p.1 = some i → i < n
  | [], _, _, _, _, p, h, _, _ => absurd h (by simp [treeSteps])
  | b :: l, m, hb, hm, hn, p, h, i, e => by
    have h : p = (some (c + (m - 1)), b) ∨ p ∈ treeSteps c (2 * m + b) l := List.mem_cons.mp h
    have hb1 : b ≤ 1 := hb b (List.mem_cons_self ..)
    have hp2 : (m + 1) * 2 ^ (l.length + 1) = 2 * (m + 1) * 2 ^ l.length := by rw [Nat.pow_succ, Nat.mul_comm (2 ^ l.length) 2, ← Nat.mul_assoc, Nat.mul_comm (m + 1) 2]
    have h2 : 1 ≤ 2 ^ l.length := Nat.one_le_two_pow
    have hn' : (m + 1) * 2 ^ (l.length + 1) + 2 * c ≤ 2 * n + 2 := hn
    rw [hp2] at hn'
    rcases h with q | q
    · subst q
      cases e
      have : 2 * (m + 1) * 1 ≤ 2 * (m + 1) * 2 ^ l.length := Nat.mul_le_mul_left _ h2
      omega
    · refine tree_lt (m := 2 * m + b) (fun x hx => hb x (List.mem_cons_of_mem _ hx)) (by omega) ?_ p q i e
      have : (2 * m + b + 1) * 2 ^ l.length ≤ (2 * (m + 1)) * 2 ^ l.length := Nat.mul_le_mul_right _ (by omega)
      omega
theorem bits_le {n v b : Nat} (h : b ∈ bitsOf n v) : b ≤ 1 := by
  obtain ⟨i, _, e⟩ := List.mem_map.mp h
  omega
theorem bits_len (n v : Nat) : (bitsOf n v).length = n := by simp [bitsOf]
theorem tree_ok {c n v len : Nat} (hn : 1 ≤ n) (h : c + (2 ^ n - 1) ≤ len) : StOk len (treeSteps c 1 (bitsOf n v)) ∧ Once (treeSteps c 1 (bitsOf n v)) := by
  refine ⟨tree_lt (fun b hb => bits_le hb) (Nat.le_refl _) ?_, tree_once (Nat.le_refl _)⟩
  rw [bits_len]
  have : 1 ≤ 2 ^ n := Nat.one_le_two_pow
  omega

/-! ### the bytes through a step -/
theorem WRep.grow {s : Out} {hi : List Nat} {lo : Nat} (r : WRep s hi lo) : WRep (grow1 s) (hi ++ [lo / 16777216]) (lo % 16777216 * 256) := by
  have h1 := r.low
  refine ⟨?_, ?_, by omega, ?_⟩
  · show 256 * s.number = _
    rw [r.num, val_append]
    show _ = (val hi * 256 ^ 1 + (lo / 16777216 * 256 ^ 0 + 0)) * 4294967296 + lo % 16777216 * 256
    omega
  · show s.grown + 1 = _
    rw [r.grown]; simp
  · intro b hb
    rcases List.mem_append.mp hb with q | q
    · exact r.bs b q
    · have : b = lo / 16777216 := by simpa using q
      omega
/-- adding what a bit skips, no carry -/
theorem WRep.add {s t : Out} {hi : List Nat} {lo part : Nat} (r : WRep s hi lo) (h : lo + part < 4294967296) (e1 : t.number = s.number + part) (e2 : t.grown = s.grown) : WRep t hi (lo + part) :=
  ⟨by rw [e1, r.num]; omega, e2.trans r.grown, h, r.bs⟩
/-- with a carry -/
theorem WRep.carry {s t : Out} {hi : List Nat} {lo part : Nat} (r : WRep s hi lo) (i : OInv0 s) (hp : part < s.width) (h : ¬ lo + part < 4294967296) (e1 : t.number = s.number + part) (e2 : t.grown = s.grown) :
    ∃ a x j, hi = a ++ x :: List.replicate j 255 ∧ x < 255 ∧ WRep t (a ++ (x + 1) :: List.replicate j 0) (lo + part - 4294967296) := by
  have h1 := r.low
  have h2 := i.num
  have h3 := i.w.2
  have hv : val hi + 1 < 256 ^ hi.length := by
    rw [r.num, r.grown, Nat.pow_add, show 256 ^ 4 = 4294967296 from rfl] at h2
    have : (val hi + 1) * 4294967296 < 256 ^ hi.length * 4294967296 := by omega
    exact Nat.lt_of_mul_lt_mul_right this
  obtain ⟨a, x, j, e, hx⟩ := split255 r.bs hv
  refine ⟨a, x, j, e, hx, ?_⟩
  have bs := r.bs
  subst e
  refine ⟨?_, ?_, by omega, bs_carry bs hx⟩
  · rw [e1, r.num, val_carry]
    omega
  · rw [e2, r.grown]; simp
/-- the bytes once the width is narrow or not -/
theorem WRep.same {s t : Out} {hi : List Nat} {lo : Nat} (r : WRep s hi lo) (e1 : t.number = s.number) (e2 : t.grown = s.grown) : WRep t hi lo := ⟨e1.trans r.num, e2.trans r.grown, r.low, r.bs⟩

/-! ### reading -/
structure IInv (s : In) : Prop where
  w : WOk s.width
  far : s.far < 4294967296
  ch : ChOk s.chances
  k1 : 1 ≤ s.chances.length
  k2 : s.chances.length ≤ 4096
  bs : Bs s.rest
def bitI (s : In) (o : Option Nat) : Nat := if s.far < partN s.width o then 0 else 1
def narrowI (s : In) (c o : Option Nat) : In := ⟨s.far - (if bitI s o = 0 then 0 else partN s.width o), widthN s.width o (bitI s o), s.rest, setCh s.chances c o (bitI s o)⟩
def takeI (s : In) : In := { s with far := (256 * s.far + s.rest.headD 0) % 2 ^ 32, rest := s.rest.drop 1 }
def shift1 (s : In) : In := { takeI s with width := 256 * s.width }
def shiftI (s : In) : In := if s.width < 16777216 then shift1 s else s
def stepIn (s : In) (c : Option Nat) : Nat × In := match c with
  | none => Rb16.getHalf s
  | some c => Rb16.getBit s c
theorem shift5 {s : In} (h : 65536 ≤ s.width) : shift 5 s = shiftI s := by
  have e : NARROW = 16777216 := by decide
  unfold shiftI
  by_cases q : s.width < 16777216
  · rw [if_pos q]
    show (if s.width < NARROW then shift 4 (shift1 s) else s) = _
    rw [e, if_pos q]
    show (if (shift1 s).width < NARROW then shift 3 (shift1 (shift1 s)) else shift1 s) = _
    rw [e, if_neg (by show ¬ 256 * s.width < 16777216; omega)]
  · rw [if_neg q]
    show (if s.width < NARROW then shift 4 (shift1 s) else s) = _
    rw [e, if_neg q]
theorem stepIn_eq {s : In} {c o : Option Nat} (i : IInv s) (e : chOf s.chances c = some o) : stepIn s c = (bitI s o, shiftI (narrowI s c o)) := by
  have ho := chOf_ok i.ch e
  have hw : 65536 ≤ (narrowI s c o).width := width_ge i.w ho
  rw [← shift5 hw]
  cases c with
  | none =>
    cases e
    show Rb16.getHalf s = _
    unfold Rb16.getHalf narrowI bitI
    dsimp only [widthN, partN, setCh]
    simp only [or_true, if_true]
    by_cases hb : s.far < s.width / 2
    · simp only [hb, if_true, Nat.sub_zero]
    · simp [hb]
  | some k =>
    obtain ⟨v, q, rfl⟩ := chOf_some e
    have ed : s.chances.getD k 0 = v := by rw [List.getD_eq_getElem?_getD, q]; rfl
    show Rb16.getBit s k = _
    unfold Rb16.getBit narrowI bitI
    dsimp only [widthN, partN, setCh]
    rw [ed]
    by_cases hb : s.far < s.width / 2048 * v
    · simp only [hb, if_true, true_or, Nat.sub_zero]
    · simp [hb]
theorem headD_lt {l : List Nat} (h : Bs l) : l.headD 0 < 256 := by
  cases l with
  | nil => decide
  | cons b r => exact h.head
theorem stepIn_inv {s : In} {c o : Option Nat} (i : IInv s) (e : chOf s.chances c = some o) : IInv (shiftI (narrowI s c o)) ∧ (shiftI (narrowI s c o)).chances.length = s.chances.length := by
  have ho := chOf_ok i.ch e
  have h1 : 65536 ≤ (narrowI s c o).width := width_ge i.w ho
  have h2 : (narrowI s c o).width < 4294967296 := Nat.lt_of_le_of_lt (width_le ho) i.w.2
  have h3 := i.far
  have hl : (narrowI s c o).chances.length = s.chances.length := setCh_len
  unfold shiftI
  split
  · rename_i q
    refine ⟨⟨⟨?_, ?_⟩, ?_, setCh_ok i.ch e, ?_, ?_, fun b hb => i.bs b (List.mem_of_mem_drop hb)⟩, hl⟩
    · show 16777216 ≤ 256 * (narrowI s c o).width; omega
    · show 256 * (narrowI s c o).width < 4294967296; omega
    · exact Nat.mod_lt _ (by decide)
    · show 1 ≤ (narrowI s c o).chances.length; rw [hl]; exact i.k1
    · show (narrowI s c o).chances.length ≤ 4096; rw [hl]; exact i.k2
  · rename_i q
    refine ⟨⟨⟨by omega, h2⟩, ?_, setCh_ok i.ch e, by rw [hl]; exact i.k1, by rw [hl]; exact i.k2, i.bs⟩, hl⟩
    exact Nat.lt_of_le_of_lt (Nat.sub_le _ _) i.far
/-- taking a byte as the program does it -/
theorem take_far {far b : Nat} (hb : b < 256) : far % 16777216 * 256 + b = (256 * far + b) % 2 ^ 32 := by omega
theorem bitI_le (s : In) (o : Option Nat) : bitI s o ≤ 1 := by
  unfold bitI
  split <;> omega
end Cb

end
section
set_option Elab.async false
set_option linter.all false
set_option maxRecDepth 100000
set_option maxHeartbeats 2000000
namespace Cb
open PySem PySem.Spec PyProof.Rows L2

/-! ### rules that the layer lacks -/
/-- what of the text a class must have so that C.m(..) may be read off it -/
structure CMeth (K : PySem.W.Frag) (C : Addr) (m : Str) (f : Addr) (mc : Value) : Prop where
  ga : PySem.W.specialIn K (.ref C) "__getattribute__" = some (some (.builtin "type.__getattribute__"))
  rd : PySem.W.readsIn K C mc = true
  at_ : PySem.W.findCls K (.ref C) mc m = some (.val (.ref f))
  kp : PySem.W.keepIn K (.ref f) = true

/-- a call of a value that an expression gives -/
def tCallV (X : Cx) (k : Nat) (to : TE) (t : TA) : TE := fun σ H Q => to σ H fun x H1 => ∃ (f : Addr) (fd : FuncData) (ps : List Str) (sp : Sp), x = .ref f ∧
  FnOk X.prog X.w X.K X.mg X.base CX0 k f fd ps sp ∧ PySem.W.keepIn X.K (.ref f) = true ∧ Binds X.K fd ps [] ∧ t σ H1 fun vs H2 => sp vs H2 Q E0

section
variable {X : Cx} {k : Nat} {f C : Addr} {fd : FuncData} {ps : List Str} {sp : Sp} {m : Str} {p pos apos : Pos} {e o : Expr} {es : List Expr} {to : TE} {t : TA} {mc : Value} {x : Str}
/-- C.m(e, ..): the def of a class, called by the class -/
theorem pe_cmeth {pl : Sem Bool} (hg : Gl X x) (hm : X.mg x = some (.ref C)) (M : CMeth X.K C m f mc) (F : FnOk X.prog X.w X.K X.mg X.base CX0 k f fd ps sp) (hr : Room k X.A) (hb : Binds X.K fd ps []) (ha : PA X (e :: es) t)
    (hdb : (x == ("__debug__" : Str)) = false := by decide)
    (hst : starEach (e :: es) X.env = (false, eval e X.env) :: starEach es X.env := by rfl) (hpl : (backTo pos (starEach es X.env)).any (·.1) = false := by rfl)
    (ht : eval (.Call (.Attribute (.Name x p) m apos) (e :: es) [] pos) X.env = (do
      let ov ← eval (.Name x p) X.env
      standAt apos.atName
      let (f, first) ← holding [ov] (getMethod ov m pl)
      callWith pos f first (backTo pos (starEach (e :: es) X.env)) (backToKw pos (keywordEach [] X.env))) := by rfl) :
    PE X (.Call (.Attribute (.Name x p) m apos) (e :: es) [] pos) (tCall sp [] E0 t) := by
  intro pins s σ H Q I h
  refine PySem.W.methodCall_KW (pl := pl) (ld_glob I hg hm ?_ hdb) ht
  refine PySem.W.method_cls I.kIn M.ga (PySem.W.cls_value I.kIn M.rd M.at_ rfl ?_)
  refine PySem.W.callWith_K (first := []) (h₀ := X.base) I.ok.mod.kin M.kp (thn (ha pos pins _ σ H _ (I.tok _) h) fun us s2 ⟨vs, H2, I2, r, q2⟩ => ⟨I2.kIn, ?_⟩) hst hpl
  exact run_fn (dvs := []) (ds := []) F hr hb .nil pass0 I2 r q2
/-- e0(e, ..): a def that an expression gives -/
theorem pe_callV (ho : PE X o to) (hr : Room k X.A) (ha : PA X (e :: es) t)
    (hst : starEach (e :: es) X.env = (false, eval e X.env) :: starEach es X.env := by rfl) (hpl : (backTo pos (starEach es X.env)).any (·.1) = false := by rfl)
    (ht : eval (.Call o (e :: es) [] pos) X.env = (do
      callWith pos (← eval o X.env) [] (backTo pos (starEach (e :: es) X.env)) (backToKw pos (keywordEach [] X.env))) := by rfl) :
    PE X (.Call o (e :: es) [] pos) (tCallV X k to t) := by
  intro pins s σ H Q I h
  rw [ht]
  refine wpAny_bind (thn (ho pins s σ H _ I h) fun u s1 ⟨v, H1, I1, rv, f, fd, ps, sp, ev, F, kp, hb, q⟩ => ?_)
  subst ev
  obtain rfl : u = Value.ref f := rv
  refine PySem.W.callWith_K (first := []) (h₀ := X.base) I.ok.mod.kin kp (thn (ha pos pins s1 σ H1 _ I1 q) fun us s2 ⟨vs, H2, I2, r, q2⟩ => ⟨I2.kIn, ?_⟩) hst hpl
  exact run_fn (dvs := []) (ds := []) F hr hb .nil pass0 I2 r (by rw [List.append_nil]; exact q2)
/-- isinstance(x, C) -/
def rIsi (K : PySem.W.Frag) : List V → Hp → VK → Prop := fun xs H Q => ∃ x c t b, xs = [x, .ref c] ∧ TyOf K H x t ∧ PySem.W.kitOne K t (.ref c) = some b ∧ Q (.bl b) H
theorem call_isi : CallR X (.builtin "isinstance") (rIsi X.K) := by
  intro pins s σ H xs us Q I r h
  obtain ⟨x, c, t, b, e, ty, ek, q⟩ := h
  subst e
  cases r with
  | cons r1 r2 =>
    cases r2 with
    | cons r2 r3 =>
      cases r3
      cases r2
      exact isinst_ok I r1 ty ek fun tk => ⟨.bl b, H, I.tok _, rfl, q⟩
end
end Cb

end
section
set_option Elab.async false
set_option linter.all false
set_option maxRecDepth 100000
set_option maxHeartbeats 2000000
namespace Cb
open PySem PySem.Spec PyProof.Rows L2

/-! ### the text by places -/
def top (i : Nat) : Stmt := PySem.Challenge.pw_chancebits_s01_answers.main.body.getD i (.Pass ⟨0, 0, 0, 0⟩)

/-! ### data -/
def oN : Option Nat → V
  | none => .non
  | some p => .int (p : Int)
abbrev nV (l : List Nat) : List V := l.map fun (n : Nat) => V.int (n : Int)
/-- a list of numbers from 0 on -/
def il (l : List Nat) : HO := .lst (nV l)
theorem nV_at {l : List Nat} {i v : Nat} (h : l[i]? = some v) : (nV l)[i]? = some (.int (v : Int)) := by
  rw [List.getElem?_map, h]; rfl
theorem nV_len (l : List Nat) : (nV l).length = l.length := List.length_map _
theorem nV_set (l : List Nat) (i v : Nat) : (nV l).set i (.int (v : Int)) = nV (l.set i v) := by
  unfold nV
  rw [List.map_set]
theorem nV_snoc (l : List Nat) (v : Nat) : nV l ++ [.int (v : Int)] = nV (l ++ [v]) := by
  unfold nV
  rw [List.map_append]; rfl
/-- kept but for these -/
def Keep (fp : List Addr) (H H' : Hp) : Prop := ∀ b o, H b = some o → b ∉ fp → H' b = some o
theorem Keep.refl (fp : List Addr) (H : Hp) : Keep fp H H := fun _ _ h _ => h
theorem Keep.trans {fp : List Addr} {H H1 H2 : Hp} (a : Keep fp H H1) (b : Keep fp H1 H2) : Keep fp H H2 := fun c o h n => b c o (a c o h n) n
theorem Keep.mono {fp fq : List Addr} {H H1 : Hp} (a : Keep fp H H1) (h : ∀ b ∈ fp, b ∈ fq) : Keep fq H H1 := fun c o e n => a c o e fun z => n (h c z)
theorem Keep.upd {fp : List Addr} {H H1 : Hp} {x : Addr} {o : HO} (a : Keep fp H H1) (h : x ∈ fp) : Keep fp H (upd H1 x o) := fun c u e n => by
  rw [upd_ne (fun z => n (by rw [z]; exact h))]
  exact a c u e n
theorem Keep.new {fp : List Addr} {H H1 : Hp} {x : Addr} {o : HO} (a : Keep fp H H1) (h : H1 x = none) : Keep fp H (L2.upd H1 x o) := fun c u e n => by
  have := a c u e n
  rw [upd_ne (ne_of_none this h)]
  exact this
theorem Keep.of {fp : List Addr} {H H' : Hp} (s : Same H H') : Keep fp H H' := fun b o h _ => s b o h

/-! ### tests and ends -/
theorem itT {c : Bool} {A B : Prop} (e : c = true) (h : A) : if c = true then A else B := by rw [if_pos e]; exact h
theorem itF {c : Bool} {A B : Prop} (e : c = false) (h : B) : if c = true then A else B := by rw [if_neg (by rw [e]; decide)]; exact h
theorem itD {p A B : Prop} [Decidable p] (e : p) (h : A) : if decide p = true then A else B := itT (decide_eq_true e) h
theorem itN {p A B : Prop} [Decidable p] (e : ¬ p) (h : B) : if decide p = true then A else B := itF (decide_eq_false e) h
theorem qI {Q : VK} {a b : Int} {H : Hp} (e : a = b) (k : Q (.int b) H) : Q (.int a) H := by rw [e]; exact k

/-! ### a def, and what it promises -/
structure Def (K : PySem.W.Frag) (x qual : Str) (st : Stmt) (f : Addr) (ps : List Str) : Prop where
  ex : ∃ fd, Fun K x qual st f fd ∧ Binds K fd ps []
def Fn (P : Program) (w : World) (K : PySem.W.Frag) (mg : Str → Option Value) (base : Heap) (k : Nat) (f : Addr) (ps : List Str) (sp : Sp) : Prop :=
  ∃ fd, FnOk P w K mg base CX0 k f fd ps sp ∧ Binds K fd ps [] ∧ PySem.W.keepIn K (.ref f) = true
theorem Def.ok {P : Program} {w : World} {K : PySem.W.Frag} {mg : Str → Option Value} {base : Heap} {x qual : Str} {st : Stmt} {f : Addr} {N ps : List Str} {k : Nat} {sp : Sp} (D : Def K x qual st f ps) (S : FnScope N ps (defScope st))
    (len : ∀ vs H Q E, sp vs H Q E → vs.length = ps.length)
    (hbody : ∀ (cdv : Value) (A : Around) (outer : List Env) (s : Shared) (H : Hp) (vs : List V) (Q : VK) (E : XK), Room k (A.deeper (envOfC qual (defScope st) s.heap.objs.size f cdv)) → sp vs H Q E →
      ∃ t, PSs (cxOf CX0 P w K mg base N qual (defScope st) f cdv A outer s H E).nox (defBody st) t ∧ t { nx := fun _ H' => Q .non H', rt := Q } (start N vs) H) : Fn P w K mg base (k + 1) f ps sp :=
  let ⟨fd, F, b⟩ := D.ex; ⟨fd, F.ok S len hbody, b, F.kp⟩
/-- a global that is a number -/
def IntG (mg : Str → Option Value) (x : Str) (n : Int) : Prop := ∃ t, mg x = some (.int n t)

section
variable {X : Cx} {k : Nat} {f C : Addr} {ps : List Str} {sp : Sp} {m x : Str} {p pos apos : Pos} {e o : Expr} {es : List Expr} {to ta : TE} {t : TA} {mc : Value}
theorem pe_gint {n : Int} (hg : Gl X x) (h : IntG X.mg x n) (hd : (x == ("__debug__" : Str)) = false := by decide) : PE X (.Name x pos) (tC (.int n)) :=
  let ⟨t, h⟩ := h; pe_glob hg h ⟨t, rfl⟩ hd
theorem pe_callN (F : Fn X.prog X.w X.K X.mg X.base k f ps sp) (hr : Room k X.A) (hg : Gl X x) (hm : X.mg x = some (.ref f)) (ha : PA X (e :: es) t) (hdb : (x == ("__debug__" : Str)) = false := by decide)
    (he : starEach (e :: es) X.env = (false, eval e X.env) :: starEach es X.env := by rfl) (hpl : (backTo pos (starEach es X.env)).any (·.1) = false := by rfl) : PE X (.Call (.Name x p) (e :: es) [] pos) (tCall sp [] E0 t) :=
  let ⟨_, a, b, c⟩ := F; pe_call a hr hg hm c b .nil pass0 ha hdb he hpl
theorem pe_methN {pl : Sem Bool} (he : PE X o ta) (c : Cls X.K C) (hm : Meth X.K C m f) (F : Fn X.prog X.w X.K X.mg X.base k f ps sp) (hr : Room k X.A) (ha : PA X (e :: es) t)
    (hst : starEach (e :: es) X.env = (false, eval e X.env) :: starEach es X.env := by rfl) (hpl : (backTo pos (starEach es X.env)).any (·.1) = false := by rfl)
    (ht : eval (.Call (.Attribute o m apos) (e :: es) [] pos) X.env = (do
      let ov ← eval o X.env
      standAt apos.atName
      let (f, first) ← holding [ov] (getMethod ov m pl)
      callWith pos f first (backTo pos (starEach (e :: es) X.env)) (backToKw pos (keywordEach [] X.env))) := by rfl) :
    PE X (.Call (.Attribute o m apos) (e :: es) [] pos) (tMeth C m sp [] E0 ta t) :=
  let ⟨_, a, b, _⟩ := F; pe_meth (pl := pl) he c hm a hr b .nil pass0 ha hst hpl ht
theorem pe_methN0 {pl : Sem Bool} (he : PE X o ta) (c : Cls X.K C) (hm : Meth X.K C m f) (F : Fn X.prog X.w X.K X.mg X.base k f ps sp) (hr : Room k X.A)
    (ht : eval (.Call (.Attribute o m apos) [] [] pos) X.env = (do
      let ov ← eval o X.env
      standAt apos.atName
      let (f, first) ← holding [ov] (getMethod ov m pl)
      callWith pos f first (backTo pos (starEach [] X.env)) (backToKw pos (keywordEach [] X.env))) := by rfl) :
    PE X (.Call (.Attribute o m apos) [] [] pos) (tMeth C m sp [] E0 ta tNil) :=
  let ⟨_, a, b, _⟩ := F; pe_meth0 (pl := pl) he c hm a hr b .nil pass0 ht
theorem pe_makeN (M : Mk X.K C f) (F : Fn X.prog X.w X.K X.mg X.base k f ps sp) (hr : Room (k + 1) X.A) (hg : Gl X x) (hm : X.mg x = some (.ref C)) (ha : PA X (e :: es) t) (hdb : (x == ("__debug__" : Str)) = false := by decide)
    (he : starEach (e :: es) X.env = (false, eval e X.env) :: starEach es X.env := by rfl) (hpl : (backTo pos (starEach es X.env)).any (·.1) = false := by rfl) : PE X (.Call (.Name x p) (e :: es) [] pos) (tMake C sp [] E0 t) :=
  let ⟨_, a, b, _⟩ := F; pe_make M a hr hg hm b .nil pass0 ha hdb he hpl
theorem pe_makeN0 (M : Mk X.K C f) (F : Fn X.prog X.w X.K X.mg X.base k f ps sp) (hr : Room (k + 1) X.A) (hg : Gl X x) (hm : X.mg x = some (.ref C)) (hdb : (x == ("__debug__" : Str)) = false := by decide) :
    PE X (.Call (.Name x p) [] [] pos) (tMake C sp [] E0 tNil) :=
  let ⟨_, a, b, _⟩ := F; pe_make0 M a hr hg hm b .nil pass0 hdb
theorem pe_cmethN {pl : Sem Bool} (hg : Gl X x) (hm : X.mg x = some (.ref C)) (M : CMeth X.K C m f mc) (F : Fn X.prog X.w X.K X.mg X.base k f ps sp) (hr : Room k X.A) (ha : PA X (e :: es) t)
    (hdb : (x == ("__debug__" : Str)) = false := by decide)
    (hst : starEach (e :: es) X.env = (false, eval e X.env) :: starEach es X.env := by rfl) (hpl : (backTo pos (starEach es X.env)).any (·.1) = false := by rfl)
    (ht : eval (.Call (.Attribute (.Name x p) m apos) (e :: es) [] pos) X.env = (do
      let ov ← eval (.Name x p) X.env
      standAt apos.atName
      let (f, first) ← holding [ov] (getMethod ov m pl)
      callWith pos f first (backTo pos (starEach (e :: es) X.env)) (backToKw pos (keywordEach [] X.env))) := by rfl) :
    PE X (.Call (.Attribute (.Name x p) m apos) (e :: es) [] pos) (tCall sp [] E0 t) :=
  let ⟨_, a, b, _⟩ := F; pe_cmeth (pl := pl) hg hm M a hr b ha hdb hst hpl ht
end

/-! ### part_of, width_behind, learned -/
structure GsA (mg : Str → Option Value) : Prop where
  scale : IntG mg "SCALE" 2048
  fchance : IntG mg "FIRST_CHANCE" 1024
  fwidth : IntG mg "FIRST_WIDTH" 4294967295
  least : IntG mg "LEAST_WIDTH" 16777216
abbrev sPart : Stmt := top 5
abbrev sWB : Stmt := top 6
abbrev sLearned : Stmt := top 7
abbrev sCInit : Stmt := inClass (top 8) 0
abbrev sChAt : Stmt := inClass (top 8) 1
abbrev sNarrow : Stmt := inClass (top 8) 2
inductive SpPart (vs : List V) (H : Hp) (Q : VK) : Prop where
  | mk (w : Nat) (o : Option Nat) : (vs = [.int (w : Int), oN o]) → (w < 4294967296) → (Q (.int (partN w o : Nat)) H) → SpPart  vs H Q
def spPart : Sp := fun vs H Q _ => SpPart  vs H Q
inductive SpWB (vs : List V) (H : Hp) (Q : VK) : Prop where
  | mk (w : Nat) (o : Option Nat) (b : Nat) : (vs = [.int (w : Int), oN o, .int (b : Int)]) → (w < 4294967296) → (OOk o) → (Q (.int (widthN w o b : Nat)) H) → SpWB  vs H Q
def spWB : Sp := fun vs H Q _ => SpWB  vs H Q
inductive SpLearned (vs : List V) (H : Hp) (Q : VK) : Prop where
  | mk (p b : Nat) : (vs = [.int (p : Int), .int (b : Int)]) → (p ≤ 2048) → (Q (.int (Rb16.learned p b : Nat)) H) → SpLearned  vs H Q
def spLearned : Sp := fun vs H Q _ => SpLearned  vs H Q
section
variable {P : Program} {w : World} {K : PySem.W.Frag} {mg : Str → Option Value} {base : Heap}
theorem scPart : FnScope ["width", "chance"] ["width", "chance"] (defScope sPart) := ⟨rfl, rfl, rfl, by decide +kernel, rfl, by decide +kernel, by decide +kernel⟩
theorem ok_part {f : Addr} (D : Def K "part_of" "part_of" sPart f ["width", "chance"]) (G : GsA mg) : Fn P w K mg base 1 f ["width", "chance"] spPart := by
  refine D.ok scPart (fun vs H Q E h => ?_) (fun cdv A outer s H vs Q E hr h => ?_)
  · obtain ⟨w, o, rfl, _⟩ := h
    rfl
  · obtain ⟨w, o, rfl, hw, k⟩ := h
    refine ⟨_, pss_cons (ps_if (pt_cmp (pc_isN (pv 1))) (pss_one (ps_ret (pe_op op_fdiv (pv 0) pe_int))) pss_nil) (pss_one (ps_ret (pe_op op_mul (pe_op op_fdiv (pv 0) (pe_gint rfl G.scale)) (pv 1)))), ?_⟩
    cases o with
    | none =>
      refine ⟨_, rfl, _, rfl, ?_⟩
      refine itD rfl ?_
      refine ⟨_, rfl, _, _, rfl, rfl, ⟨by decide, by decide⟩, ?_⟩
      exact k
    | some p =>
      refine ⟨_, rfl, _, rfl, ?_⟩
      refine itN (fun z => nomatch z) ?_
      refine ⟨_, rfl, _, _, rfl, rfl, ⟨by decide, by decide⟩, _, rfl, _, _, rfl, rfl, .inl ⟨?_, ?_⟩, ?_⟩
      · show -(2 ^ 64) < (w : Int) / 2048; omega
      · show (w : Int) / 2048 < 2 ^ 64; omega
      · exact k
theorem scWB : FnScope ["width", "chance", "bit", "part"] ["width", "chance", "bit"] (defScope sWB) := ⟨rfl, rfl, rfl, by decide +kernel, rfl, by decide +kernel, by decide +kernel⟩
theorem ok_wb {f fP : Addr} (D : Def K "width_behind" "width_behind" sWB f ["width", "chance", "bit"]) (mP : mg "part_of" = some (.ref fP)) (FP : Fn P w K mg base 1 fP ["width", "chance"] spPart) : Fn P w K mg base 2 f ["width", "chance", "bit"] spWB := by
  refine D.ok scWB (fun vs H Q E h => ?_) (fun cdv A outer s H vs Q E hr h => ?_)
  · obtain ⟨w, o, b, rfl, _⟩ := h
    rfl
  · obtain ⟨w, o, b, rfl, hw, ho, k⟩ := h
    refine ⟨_, pss_cons (ps_set (i := 3) scWB.nd rfl (Or.inl rfl) (pe_callN FP hr rfl mP (pa_cons (pv 0) (pa_cons (pv 1) pa_nil))))
      (pss_cons (ps_if ((pw_or (pt_cmp (pc_eqI (pv 2) pe_int)) (pw_or1 (pt_cmp (pc_isN (pv 1))))) _) (pss_one (ps_ret (pv 3))) pss_nil) (pss_one (ps_ret (pe_op op_sub (pv 0) (pv 3))))), ?_⟩
    refine ⟨_, rfl, _, rfl, w, o, rfl, hw, ?_⟩
    refine ⟨_, rfl, _, _, rfl, rfl, _, rfl, ?_⟩
    have hp := part_le (w := w) ho
    by_cases hb : b = 0
    · subst hb
      refine itD rfl ?_
      refine itT rfl ?_
      refine ⟨_, rfl, ?_⟩
      exact k
    · refine itN (show ¬ (b : Int) = 0 by omega) ?_
      refine ⟨_, rfl, _, rfl, ?_⟩
      cases o with
      | none =>
        refine itD rfl ?_
        refine ⟨_, rfl, ?_⟩
        rw [show widthN w none b = partN w none by simp [widthN]] at k
        exact k
      | some p =>
        refine itN (fun z => nomatch z) ?_
        refine ⟨_, rfl, _, rfl, _, _, rfl, rfl, ?_⟩
        rw [show widthN w (some p) b = w - partN w (some p) by simp [widthN, hb]] at k
        exact qI (Q := Q) (show ((w : Int) - (partN w (some p) : Nat) : Int) = ((w - partN w (some p) : Nat) : Int) by omega) k
theorem scL : FnScope ["chance", "bit"] ["chance", "bit"] (defScope sLearned) := ⟨rfl, rfl, rfl, by decide +kernel, rfl, by decide +kernel, by decide +kernel⟩
theorem ok_learned {f : Addr} (D : Def K "learned" "learned" sLearned f ["chance", "bit"]) (G : GsA mg) : Fn P w K mg base 1 f ["chance", "bit"] spLearned := by
  refine D.ok scL (fun vs H Q E h => ?_) (fun cdv A outer s H vs Q E hr h => ?_)
  · obtain ⟨p, b, rfl, _⟩ := h
    rfl
  · obtain ⟨p, b, rfl, hp, k⟩ := h
    refine ⟨_, pss_cons (ps_if (pt_cmp (pc_eqI (pv 1) pe_int)) (pss_one (ps_ret (pe_op op_add (pv 0) (pe_op op_fdiv (pe_op op_sub (pe_gint rfl G.scale) (pv 0)) pe_int)))) pss_nil) (pss_one (ps_ret (pe_op op_sub (pv 0) (pe_op op_fdiv (pv 0) pe_int)))), ?_⟩
    refine ⟨_, rfl, _, _, rfl, rfl, _, rfl, ?_⟩
    by_cases hb : b = 0
    · subst hb
      refine itD rfl ?_
      refine ⟨_, rfl, _, rfl, _, _, rfl, rfl, _, _, rfl, rfl, ⟨by decide, by decide⟩, _, _, rfl, rfl, ?_⟩
      have e : ((p : Int) + (2048 - (p : Int)) / 32) = ((Rb16.learned p 0 : Nat) : Int) := by
        unfold Rb16.learned
        rw [if_pos rfl]
        omega
      exact qI (Q := Q) e k
    · refine itN (show ¬ (b : Int) = 0 by omega) ?_
      refine ⟨_, rfl, _, rfl, _, _, rfl, rfl, ⟨by decide, by decide⟩, _, _, rfl, rfl, ?_⟩
      have e : ((p : Int) - (p : Int) / 32) = ((Rb16.learned p b : Nat) : Int) := by
        unfold Rb16.learned
        rw [if_neg hb]
        omega
      exact qI (Q := Q) e k
end
end Cb

end
section
set_option Elab.async false
set_option linter.all false
set_option maxRecDepth 100000
set_option maxHeartbeats 2000000
namespace Cb
open PySem PySem.Spec PyProof.Rows L2

/-! ### what an instance has of Coder -/
/-- the class at C has Coder's parts -/
structure Cod (K : PySem.W.Frag) (C fChAt fNarrow : Addr) : Prop where
  cl : Cls K C
  nCh : NoAttr K C "chances"
  nW : NoAttr K C "width"
  mCh : Meth K C "chance_at" fChAt
  mN : Meth K C "narrow" fNarrow
/-- the instance at p holds the chances ch (at lc) and the width w -/
structure CAt (H : Hp) (C p dx : Addr) (fs : List (Str × V)) (lc : Addr) (ch : List Nat) (w : Nat) : Prop where
  ob : H p = some (.ins C dx fs)
  fc : fs.lookup ("chances" : Str) = some (.ref lc)
  fw : fs.lookup ("width" : Str) = some (.int (w : Int))
  nc : fs.lookup ("chance_at" : Str) = none
  nn : fs.lookup ("narrow" : Str) = none
  ln : fs.length < 1000
  lst : H lc = some (il ch)
theorem CAt.ne {H : Hp} {C p dx : Addr} {fs : List (Str × V)} {lc : Addr} {ch : List Nat} {w : Nat} (c : CAt H C p dx fs lc ch w) : p ≠ lc := ne_of c.ob c.lst (by intro z; cases z)
/-- Coder.__init__: chances and width are set -/
inductive SpCInit (K : PySem.W.Frag) (fChAt fNarrow : Addr) (vs : List V) (H : Hp) (Q : VK) : Prop where
  | mk (C p dx : Addr) (k : Nat) : (vs = [.ref p, .int (k : Int)]) → (H p = some (.ins C dx [])) → (Cod K C fChAt fNarrow) → (k ≤ 4096) → (∀ (H' : Hp) (lc : Addr), H lc = none → H' p = some (.ins C dx [("chances", .ref lc), ("width", .int 4294967295)]) → H' lc = some (il (List.replicate k 1024)) → Keep [p] H H' → Q .non H') → SpCInit K fChAt fNarrow vs H Q
def spCInit (K : PySem.W.Frag) (fChAt fNarrow : Addr) : Sp := fun vs H Q _ => SpCInit K fChAt fNarrow vs H Q
inductive SpChAt (K : PySem.W.Frag) (fChAt fNarrow : Addr) (vs : List V) (H : Hp) (Q : VK) : Prop where
  | mk (C p dx : Addr) (fs : List (Str × V)) (lc : Addr) (ch : List Nat) (w : Nat) (c o : Option Nat) : (vs = [.ref p, oN c]) → (Cod K C fChAt fNarrow) → (CAt H C p dx fs lc ch w) → (chOf ch c = some o) → (Q (oN o) H) → SpChAt K fChAt fNarrow vs H Q
def spChAt (K : PySem.W.Frag) (fChAt fNarrow : Addr) : Sp := fun vs H Q _ => SpChAt K fChAt fNarrow vs H Q
inductive SpNarrow (K : PySem.W.Frag) (fChAt fNarrow : Addr) (vs : List V) (H : Hp) (Q : VK) : Prop where
  | mk (C p dx : Addr) (fs : List (Str × V)) (lc : Addr) (ch : List Nat) (w : Nat) (c o : Option Nat) (b : Nat) : (vs = [.ref p, oN c, .int (b : Int)]) → (Cod K C fChAt fNarrow) → (CAt H C p dx fs lc ch w) → (chOf ch c = some o) → (OOk o) → (w < 4294967296) → (∀ H' : Hp, H' p = some (.ins C dx (putF "width" (.int (widthN w o b : Nat)) fs)) → H' lc = some (il (setCh ch c o b)) → Keep [p, lc] H H' → Q .non H') → SpNarrow K fChAt fNarrow vs H Q
def spNarrow (K : PySem.W.Frag) (fChAt fNarrow : Addr) : Sp := fun vs H Q _ => SpNarrow K fChAt fNarrow vs H Q

section
variable {P : Program} {w : World} {K : PySem.W.Frag} {mg : Str → Option Value} {base : Heap} {fCA fNw : Addr}
theorem scCI : FnScope ["self", "k"] ["self", "k"] (defScope sCInit) := ⟨rfl, rfl, rfl, by decide +kernel, rfl, by decide +kernel, by decide +kernel⟩
theorem rep_il (k : Nat) : (List.replicate k ([.int 1024] : List V)).flatten = nV (List.replicate k 1024) := by
  induction k with
  | zero => rfl
  | succ k ih => rw [List.replicate_succ, List.flatten_cons, ih]; rfl
theorem ok_cinit {f : Addr} (D : Def K "__init__" "Coder.__init__" sCInit f ["self", "k"]) (G : GsA mg) : Fn P w K mg base 1 f ["self", "k"] (spCInit K fCA fNw) := by
  refine D.ok scCI (fun vs H Q E h => ?_) (fun cdv A outer s H vs Q E hr h => ?_)
  · obtain ⟨C, p, dx, k, rfl, _⟩ := h
    rfl
  · obtain ⟨C, p, dx, k, rfl, hp, T, hk, kk⟩ := h
    refine ⟨_, pss_cons (ps_fld (pv 0) (pe_op op_rep (pe_lst (pa_cons (pe_gint rfl G.fchance) pa_nil)) (pv 1)) rfl) (pss_one (ps_fld (pv 0) (pe_gint rfl G.fwidth) rfl)), ?_⟩
    have hz : sizeLine = 16777216 := sizeLine_eq
    refine ⟨(by show 1 ≤ sizeLine; omega), fun l hl => ?_⟩
    refine ⟨_, rfl, l, _, _, rfl, rfl, upd_same, (by omega), (by omega), ?_, fun lc hlc => ?_⟩
    · show 1 * ((k : Int)).toNat ≤ sizeLine
      omega
    have np : p ≠ l := ne_of_none hp hl
    have h1 : upd H l (.lst [.int 1024]) p = some (.ins C dx []) := by rw [upd_ne np]; exact hp
    have nlp : p ≠ lc := ne_of_none h1 hlc
    have hlcH : H lc = none := by
      cases q : H lc with
      | none => rfl
      | some o =>
        have : lc ≠ l := ne_of_none q hl
        rw [upd_ne this, q] at hlc
        cases hlc
    refine ⟨_, rfl, p, C, dx, _, rfl, (by rw [upd_ne nlp]; exact h1), T.cl, T.nCh, (by show 0 < 1000; decide), ?_⟩
    refine ⟨_, rfl, p, C, dx, _, rfl, upd_same, T.cl, T.nW, (by show 1 < 1000; decide), ?_⟩
    refine kk _ lc hlcH (Eq.trans upd_same rfl) ?_ ?_
    · rw [upd_ne (Ne.symm nlp), upd_ne (Ne.symm nlp), upd_same]
      show some (HO.lst (List.replicate (k : Int).toNat [V.int 1024]).flatten) = _
      rw [show (k : Int).toNat = k from Int.toNat_natCast k, rep_il]
      rfl
    · exact (((Keep.refl [p] H).new hl).new hlc).upd (by simp) |>.upd (by simp)
theorem scCA : FnScope ["self", "c"] ["self", "c"] (defScope sChAt) := ⟨rfl, rfl, rfl, by decide +kernel, rfl, by decide +kernel, by decide +kernel⟩
theorem ok_chat {f : Addr} (D : Def K "chance_at" "Coder.chance_at" sChAt f ["self", "c"]) : Fn P w K mg base 1 f ["self", "c"] (spChAt K fCA fNw) := by
  refine D.ok scCA (fun vs H Q E h => ?_) (fun cdv A outer s H vs Q E hr h => ?_)
  · obtain ⟨C, p, dx, fs, lc, ch, w, c, o, rfl, _⟩ := h
    rfl
  · obtain ⟨C, p, dx, fs, lc, ch, w, c, o, rfl, T, cA, e, k⟩ := h
    refine ⟨_, pss_cons (ps_if (pt_cmp (pc_isN (pv 1))) (pss_one (ps_ret pe_non)) pss_nil) (pss_one (ps_ret (pe_ix ix_list (pe_fld (pv 0) rfl) (pv 1) (fun _ _ => rfl)))), ?_⟩
    refine ⟨_, rfl, _, rfl, ?_⟩
    cases c with
    | none =>
      cases e
      refine itD rfl ?_
      exact k
    | some i =>
      obtain ⟨v, hv, rfl⟩ := chOf_some e
      refine itN (fun z => nomatch z) ?_
      refine ⟨_, rfl, p, C, dx, fs, _, rfl, cA.ob, T.cl, T.nCh, cA.fc, _, rfl, lc, _, _, _, rfl, rfl, SqL.of cA.lst, atI_nat (nV_at hv), ?_⟩
      exact k
theorem scNw : FnScope ["self", "c", "bit", "chance"] ["self", "c", "bit"] (defScope sNarrow) := ⟨rfl, rfl, rfl, by decide +kernel, rfl, by decide +kernel, by decide +kernel⟩
theorem ixN_nat {n i : Nat} (h : i < n) : ixN n (i : Int) = some i := by
  unfold ixN
  rw [if_pos (by omega), if_pos (by omega)]; simp
theorem ok_narrow {f fWB fL : Addr} (D : Def K "narrow" "Coder.narrow" sNarrow f ["self", "c", "bit"]) (mWB : mg "width_behind" = some (.ref fWB)) (mL : mg "learned" = some (.ref fL))
    (FC : Fn P w K mg base 1 fCA ["self", "c"] (spChAt K fCA fNw)) (FW : Fn P w K mg base 2 fWB ["width", "chance", "bit"] spWB) (FL : Fn P w K mg base 1 fL ["chance", "bit"] spLearned) : Fn P w K mg base 3 f ["self", "c", "bit"] (spNarrow K fCA fNw) := by
  refine D.ok scNw (fun vs H Q E h => ?_) (fun cdv A outer s H vs Q E hr h => ?_)
  · obtain ⟨C, p, dx, fs, lc, ch, w, c, o, b, rfl, _⟩ := h
    rfl
  · obtain ⟨C, p, dx, fs, lc, ch, w, c, o, b, rfl, T, cA, e, ho, hw, k⟩ := h
    have hr1 : Room 1 _ := hr.mono (by decide)
    refine ⟨_, pss_cons (ps_set (i := 3) scNw.nd rfl (Or.inl rfl) (pe_methN (pv 0) T.cl T.mCh FC hr1 (pa_cons (pv 1) pa_nil)))
      (pss_cons (ps_fld (pv 0) (pe_callN FW hr rfl mWB (pa_cons (pe_fld (pv 0) rfl) (pa_cons (pv 3) (pa_cons (pv 2) pa_nil)))) rfl)
      (pss_one (ps_if (pt_cmp (pc_notN (pv 1))) (pss_one (ps_asg (pe_callN FL hr1 rfl mL (pa_cons (pv 3) (pa_cons (pv 2) pa_nil))) (pg_sub (pe_fld (pv 0) rfl) (pv 1) set_list))) pss_nil))), ?_⟩
    refine ⟨_, rfl, p, dx, fs, rfl, cA.ob, cA.nc, _, rfl, C, p, dx, fs, lc, ch, w, c, o, rfl, T, cA, e, ?_⟩
    refine ⟨_, rfl, p, C, dx, fs, _, rfl, cA.ob, T.cl, T.nW, cA.fw, _, rfl, _, rfl, w, o, b, rfl, hw, ho, ?_⟩
    refine ⟨_, rfl, p, C, dx, fs, rfl, cA.ob, T.cl, T.nW, cA.ln, ?_⟩
    have hlc : upd H p (.ins C dx (putF "width" (.int (widthN w o b : Nat)) fs)) lc = some (il ch) := by rw [upd_ne (Ne.symm cA.ne)]; exact cA.lst
    have kp : Keep [p, lc] H (upd H p (.ins C dx (putF "width" (.int (widthN w o b : Nat)) fs))) := (Keep.refl _ _).upd (by simp)
    refine ⟨_, rfl, _, rfl, ?_⟩
    cases c with
    | none =>
      cases e
      refine itF rfl ?_
      exact k _ upd_same hlc kp
    | some i =>
      obtain ⟨v, hv, rfl⟩ := chOf_some e
      have hi : i < ch.length := (List.getElem?_eq_some_iff.mp hv).1
      refine itT rfl ?_
      have hfc : (putF "width" (.int (widthN w (some v) b : Nat)) fs).lookup ("chances" : Str) = some (.ref lc) := by
        rw [lookup_putF, if_neg (by decide)]
        exact cA.fc
      refine ⟨_, rfl, _, rfl, v, b, rfl, (by have := ho.2; omega), _, rfl, p, C, dx, _, _, rfl, upd_same, T.cl, T.nCh, hfc, _, rfl, lc, _, _, i, rfl, rfl, hlc, ixN_nat (by rw [nV_len]; exact hi), ?_⟩
      refine k _ (by rw [upd_ne cA.ne, upd_same]) ?_ (kp.upd (by simp))
      rw [upd_same, nV_set]
      rfl
end
end Cb

end
section
set_option Elab.async false
set_option linter.all false
set_option maxRecDepth 100000
set_option maxHeartbeats 2000000
namespace Cb
open PySem PySem.Spec PyProof.Rows L2

/-- xs[i] by values, i from 0 on -/
def rGetN (K : PySem.W.Frag) : V → V → Hp → VK → Prop := fun x y H Q => ∃ p xs, ∃ (i : Nat) (v : V), x = .ref p ∧ y = .int (i : Int) ∧ SqL K H p xs ∧ xs[i]? = some v ∧ Q v H
theorem get_listN {X : Cx} : PGet X (rGetN X.K) := by
  intro pins s σ H o i ov iv Q I ro ri h
  obtain ⟨p, xs, j, z, rfl, rfl, hq, he, q⟩ := h
  cases ro
  obtain ⟨t, rfl⟩ := ri
  obtain ⟨its, r, pl, hz⟩ := I.list hq
  obtain ⟨w, ew, rw'⟩ := r.get he
  have hl := r.length
  have hj : j < xs.length := (List.getElem?_eq_some_iff.mp he).1
  have hs := sizeLine_eq
  exact wpAny_getItem_list pl.isList (by omega) (by omega) (by rw [Int.toNat_natCast]; simpa using ew) ⟨z, H, I, rw', q⟩

structure GsW (mg : Str → Option Value) : Prop where
  a : GsA mg
  most : IntG mg "MOST_BYTES" 1048576
  low : IntG mg "LOWEST_BYTES" 4
  lend : IntG mg "LOWEST_END" 4294967296
  range : mg "range" = none
  len : mg "len" = none
abbrev sESteps : Stmt := top 16
abbrev sTSteps : Stmt := top 17
abbrev sWInit : Stmt := inClass (top 18) 0
abbrev sTell : Stmt := inClass (top 18) 1
abbrev sLB : Stmt := inClass (top 18) 2
abbrev sTStep : Stmt := inClass (top 18) 3
abbrev sSkip : Stmt := inClass (top 18) 4
abbrev sCarry : Stmt := inClass (top 18) 5
abbrev sGrow : Stmt := inClass (top 18) 6
abbrev sWritten : Stmt := inClass (top 18) 7

/-! ### the writing object in the heap -/
def wf (lc : Addr) (w : Nat) (lh : Addr) (lo : Nat) : List (Str × V) := [("chances", .ref lc), ("width", .int (w : Int)), ("higher", .ref lh), ("lowest", .int (lo : Int))]
structure W3 (C : Addr) (H : Hp) (p dx lc lh : Addr) (ch : List Nat) (w : Nat) (hi : List Nat) (lo : Nat) : Prop where
  o : H p = some (.ins C dx (wf lc w lh lo))
  c : H lc = some (il ch)
  h : H lh = some (il hi)
  ne : lc ≠ lh
theorem wf_no (lc : Addr) (w : Nat) (lh : Addr) (lo : Nat) {m : Str} (h1 : (m == "chances") = false := by decide +kernel) (h2 : (m == "width") = false := by decide +kernel) (h3 : (m == "higher") = false := by decide +kernel) (h4 : (m == "lowest") = false := by decide +kernel) : (wf lc w lh lo).lookup m = none := by
  unfold wf
  simp only [List.lookup, h1, h2, h3, h4]
theorem wf_ch (lc : Addr) (w : Nat) (lh : Addr) (lo : Nat) : (wf lc w lh lo).lookup ("chances" : Str) = some (.ref lc) := rfl
theorem wf_w (lc : Addr) (w : Nat) (lh : Addr) (lo : Nat) : (wf lc w lh lo).lookup ("width" : Str) = some (.int (w : Int)) := rfl
theorem wf_hi (lc : Addr) (w : Nat) (lh : Addr) (lo : Nat) : (wf lc w lh lo).lookup ("higher" : Str) = some (.ref lh) := rfl
theorem wf_lo (lc : Addr) (w : Nat) (lh : Addr) (lo : Nat) : (wf lc w lh lo).lookup ("lowest" : Str) = some (.int (lo : Int)) := rfl
theorem wf_setW (lc : Addr) (w : Nat) (lh : Addr) (lo w' : Nat) {z : Int} (e : z = (w' : Int)) : putF "width" (.int z) (wf lc w lh lo) = wf lc w' lh lo := by subst e; rfl
theorem wf_setL (lc : Addr) (w : Nat) (lh : Addr) (lo lo' : Nat) {z : Int} (e : z = (lo' : Int)) : putF "lowest" (.int z) (wf lc w lh lo) = wf lc w lh lo' := by subst e; rfl
section
variable {C : Addr} {H : Hp} {p dx lc lh : Addr} {ch : List Nat} {w : Nat} {hi : List Nat} {lo : Nat}
theorem W3.npc (a : W3 C H p dx lc lh ch w hi lo) : p ≠ lc := ne_of a.o a.c (by intro z; cases z)
theorem W3.nph (a : W3 C H p dx lc lh ch w hi lo) : p ≠ lh := ne_of a.o a.h (by intro z; cases z)
theorem W3.setP (a : W3 C H p dx lc lh ch w hi lo) {w' lo' : Nat} {fs : List (Str × V)} (e : fs = wf lc w' lh lo') : W3 C (upd H p (.ins C dx fs)) p dx lc lh ch w' hi lo' := by
  subst e
  exact ⟨upd_same, by rw [upd_ne (Ne.symm a.npc)]; exact a.c, by rw [upd_ne (Ne.symm a.nph)]; exact a.h, a.ne⟩
theorem W3.setH (a : W3 C H p dx lc lh ch w hi lo) {hi' : List Nat} {xs : List V} (e : xs = nV hi') : W3 C (upd H lh (.lst xs)) p dx lc lh ch w hi' lo := by
  subst e
  exact ⟨by rw [upd_ne a.nph]; exact a.o, by rw [upd_ne a.ne]; exact a.c, upd_same, a.ne⟩
theorem W3.cat (a : W3 C H p dx lc lh ch w hi lo) : CAt H C p dx (wf lc w lh lo) lc ch w := ⟨a.o, wf_ch .., wf_w .., wf_no .., wf_no .., by show 4 < 1000; decide, a.c⟩
theorem W3.after (a : W3 C H p dx lc lh ch w hi lo) {H' : Hp} {w' : Nat} {ch' : List Nat} (h1 : H' p = some (.ins C dx (putF "width" (.int (w' : Nat)) (wf lc w lh lo)))) (h2 : H' lc = some (il ch')) (k : Keep [p, lc] H H') : W3 C H' p dx lc lh ch' w' hi lo :=
  ⟨by rw [wf_setW lc w lh lo w' rfl] at h1; exact h1, h2, k _ _ a.h (by simp only [List.mem_cons, List.not_mem_nil, or_false, not_or]; exact ⟨Ne.symm a.nph, Ne.symm a.ne⟩), a.ne⟩
end
/-- the class -/
structure Wr (K : PySem.W.Frag) (C fCA fNw fLB fTS fSk fCy fGr : Addr) : Prop where
  cod : Cod K C fCA fNw
  nH : NoAttr K C "higher"
  nL : NoAttr K C "lowest"
  mLB : Meth K C "length_behind" fLB
  mTS : Meth K C "tell_step" fTS
  mSk : Meth K C "skip" fSk
  mCy : Meth K C "carry" fCy
  mGr : Meth K C "grow" fGr

inductive SpCarry (C : Addr) (vs : List V) (H : Hp) (Q : VK) : Prop where
  | mk (p dx lc lh : Addr) (ch : List Nat) (w : Nat) (a : List Nat) (x j lo : Nat) : (vs = [.ref p]) → (W3 C H p dx lc lh ch w (a ++ x :: List.replicate j 255) lo) → (x < 255) → (∀ H' : Hp, W3 C H' p dx lc lh ch w (a ++ (x + 1) :: List.replicate j 0) lo → Keep [p, lc, lh] H H' → Q .non H') → SpCarry C vs H Q
def spCarry (C : Addr) : Sp := fun vs H Q _ => SpCarry C vs H Q
inductive SpGrow (C : Addr) (vs : List V) (H : Hp) (Q : VK) : Prop where
  | mk (p dx lc lh : Addr) (ch : List Nat) (w : Nat) (hi : List Nat) (lo : Nat) : (vs = [.ref p]) → (W3 C H p dx lc lh ch w hi lo) → (hi.length < 16777216) → (∀ H' : Hp, W3 C H' p dx lc lh ch (256 * w) (hi ++ [lo / 16777216]) (lo % 16777216 * 256) → Keep [p, lc, lh] H H' → Q .non H') → SpGrow C vs H Q
def spGrow (C : Addr) : Sp := fun vs H Q _ => SpGrow C vs H Q
inductive SpSkip (C : Addr) (vs : List V) (H : Hp) (Q : VK) : Prop where
  | mk (p dx lc lh : Addr) (ch : List Nat) (w : Nat) (hi : List Nat) (lo part : Nat) : (vs = [.ref p, .int (part : Int)]) → (W3 C H p dx lc lh ch w hi lo) → (((lo + part < 4294967296 ∧ ∀ H' : Hp, W3 C H' p dx lc lh ch w hi (lo + part) → Keep [p, lc, lh] H H' → Q .non H') ∨ (¬ lo + part < 4294967296 ∧ ∃ a x j, hi = a ++ x :: List.replicate j 255 ∧ x < 255 ∧ ∀ H' : Hp, W3 C H' p dx lc lh ch w (a ++ (x + 1) :: List.replicate j 0) (lo + part - 4294967296) → Keep [p, lc, lh] H H' → Q .non H'))) → SpSkip C vs H Q
def spSkip (C : Addr) : Sp := fun vs H Q _ => SpSkip C vs H Q

section
variable {P : Program} {w : World} {K : PySem.W.Frag} {mg : Str → Option Value} {base : Heap} {C fCA fNw fLB fTS fSk fCy fGr : Addr}
theorem scCy : FnScope ["self", "place"] ["self"] (defScope sCarry) := ⟨rfl, rfl, rfl, by decide +kernel, rfl, by decide +kernel, by decide +kernel⟩
/-- the bytes while the one is carried: i of the j are zero already -/
def midC (a : List Nat) (x j i : Nat) : List Nat := a ++ x :: (List.replicate (j - i) 255 ++ List.replicate i 0)
theorem midC_len (a : List Nat) (x j i : Nat) (h : i ≤ j) : (midC a x j i).length = a.length + 1 + j := by
  unfold midC
  simp
  omega
theorem midC_255 (a : List Nat) (x j i : Nat) (h : i < j) : (midC a x j i)[a.length + (j - i)]? = some 255 := by
  unfold midC
  obtain ⟨m, hm⟩ : ∃ m, j - i = m + 1 := ⟨j - i - 1, by omega⟩
  rw [hm, List.getElem?_append_right (by omega), show a.length + (m + 1) - a.length = m + 1 by omega, List.getElem?_cons_succ, List.getElem?_append_left (by simp), List.getElem?_replicate]
  simp
theorem midC_x (a : List Nat) (x j : Nat) : (midC a x j j)[a.length]? = some x := by
  unfold midC
  rw [List.getElem?_append_right (Nat.le_refl _), Nat.sub_self a.length]
  rfl
theorem midC_set (a : List Nat) (x j i : Nat) (h : i < j) : (midC a x j i).set (a.length + (j - i)) 0 = midC a x j (i + 1) := by
  unfold midC
  obtain ⟨m, hm⟩ : ∃ m, j - i = m + 1 := ⟨j - i - 1, by omega⟩
  rw [hm, show j - (i + 1) = m by omega, List.set_append_right _ _ (by omega), show a.length + (m + 1) - a.length = m + 1 by omega, List.set_cons_succ]
  congr 2
  rw [List.replicate_succ' (n := m), List.append_assoc, List.set_append_right _ _ (by simp), List.length_replicate, Nat.sub_self]
  rw [List.replicate_succ]
  rfl
theorem midC_0 (a : List Nat) (x j : Nat) : midC a x j 0 = a ++ x :: List.replicate j 255 := by simp [midC]
theorem midC_end (a : List Nat) (x j : Nat) : (midC a x j j).set a.length (x + 1) = a ++ (x + 1) :: List.replicate j 0 := by
  unfold midC
  rw [List.set_append_right _ _ (Nat.le_refl _), Nat.sub_self, Nat.sub_self]
  rfl
theorem ok_carry {f : Addr} (D : Def K "carry" "Writer.carry" sCarry f ["self"]) (G : GsW mg) (T : Wr K C fCA fNw fLB fTS fSk fCy fGr) : Fn P w K mg base 1 f ["self"] (spCarry C) := by
  refine D.ok scCy (fun vs H Q E h => ?_) (fun cdv A outer s H vs Q E hr h => ?_)
  · obtain ⟨p, dx, lc, lh, ch, w, a, x, j, lo, rfl, _⟩ := h
    rfl
  · obtain ⟨p, dx, lc, lh, ch, w, a, x, j, lo, rfl, h3, hx, k⟩ := h
    refine ⟨_, pss_cons (ps_set (i := 1) scCy.nd rfl (Or.inl rfl) (pe_op op_sub (pe_callB call_len_seq (by rfl) G.len PySem.boot_len (pa_cons (pe_fld (pv 0) rfl) pa_nil)) pe_int))
      (pss_cons (ps_while PassesOwn.never (pt_cmp (pc_eqI (pe_ix ix_list (pe_fld (pv 0) rfl) (pv 1) (fun _ _ => rfl)) pe_int))
        (pss_cons (ps_asg pe_int (pg_sub (pe_fld (pv 0) rfl) (pv 1) set_list)) (pss_one (ps_aug (i := 1) scCy.nd rfl (Or.inl rfl) pe_int ip_sub))))
      (pss_one (ps_augS (pe_fld (pv 0) rfl) (pv 1) get_listN pe_int ip_add set_list))), ?_⟩
    rw [← midC_0] at h3
    refine ⟨_, rfl, p, C, dx, _, _, rfl, h3.o, T.cod.cl, T.nH, wf_hi .., _, _, rfl, .inl (SqL.of h3.h), _, _, rfl, rfl, ?_⟩
    refine ⟨fun m σ H' => ∃ i, i ≤ j ∧ m = j - i ∧ σ = [some (.ref p), some (.int ((a.length + (j - i) : Nat) : Int))] ∧ W3 C H' p dx lc lh ch w (midC a x j i) lo ∧ Keep [p, lc, lh] H H', ⟨j, 0, Nat.zero_le _, rfl, ?_, h3, Keep.refl _ _⟩, ?_⟩
    · show [some (V.ref p), some (V.int (((nV (midC a x j 0)).length : Nat) - 1))] = _
      rw [nV_len, midC_len _ _ _ _ (Nat.zero_le _), show (((a.length + 1 + j : Nat) : Int) - 1) = ((a.length + (j - 0) : Nat) : Int) by omega]
    · rintro m σ H' ⟨i, hi, rfl, rfl, h4, kp⟩
      by_cases hij : i < j
      · refine ⟨_, rfl, p, C, dx, _, _, rfl, h4.o, T.cod.cl, T.nH, wf_hi .., _, rfl, lh, _, _, _, rfl, rfl, SqL.of h4.h, atI_nat (nV_at (midC_255 a x j i hij)), _, _, rfl, rfl, _, rfl, ?_⟩
        refine itD rfl ?_
        refine ⟨fun σ' H'' => σ' = [some (.ref p), some (.int ((a.length + (j - (i + 1)) : Nat) : Int))] ∧ W3 C H'' p dx lc lh ch w (midC a x j (i + 1)) lo ∧ Keep [p, lc, lh] H H'', fun σ' H'' ⟨e1, e2, e3⟩ => ⟨j - (i + 1), by omega, i + 1, by omega, rfl, e1, e2, e3⟩, ?_⟩
        refine ⟨_, rfl, p, C, dx, _, _, rfl, h4.o, T.cod.cl, T.nH, wf_hi .., _, rfl, lh, _, _, a.length + (j - i), rfl, rfl, h4.h, ixN_nat (by rw [nV_len, midC_len _ _ _ _ hi]; omega), ?_⟩
        refine ⟨_, rfl, _, _, rfl, rfl, ?_, h4.setH ?_, kp.upd (by simp)⟩
        · show [some (V.ref p), some (V.int (((a.length + (j - i) : Nat) : Int) - 1))] = _
          rw [show (((a.length + (j - i) : Nat) : Int) - 1) = ((a.length + (j - (i + 1)) : Nat) : Int) by omega]
        · rw [← midC_set _ _ _ _ hij, ← nV_set]
          rfl
      · obtain rfl : i = j := by omega
        have hx2 := midC_x a x i
        rw [Nat.sub_self, Nat.add_zero]
        refine ⟨_, rfl, p, C, dx, _, _, rfl, h4.o, T.cod.cl, T.nH, wf_hi .., _, rfl, lh, _, _, _, rfl, rfl, SqL.of h4.h, atI_nat (nV_at hx2), _, _, rfl, rfl, _, rfl, ?_⟩
        refine itN (show ¬ (x : Int) = 255 by omega) ?_
        refine ⟨_, rfl, p, C, dx, _, _, rfl, h4.o, T.cod.cl, T.nH, wf_hi .., _, rfl, lh, _, a.length, _, rfl, rfl, SqL.of h4.h, nV_at hx2, _, _, rfl, rfl, lh, _, _, a.length, rfl, rfl, h4.h, ixN_nat (by rw [nV_len, midC_len _ _ _ _ hi]; omega), ?_⟩
        refine k _ (h4.setH ?_) (kp.upd (by simp))
        rw [← midC_end, ← nV_set]
        rfl
theorem scGr : FnScope ["self"] ["self"] (defScope sGrow) := ⟨rfl, rfl, rfl, by decide +kernel, rfl, by decide +kernel, by decide +kernel⟩
theorem ok_grow {f : Addr} (D : Def K "grow" "Writer.grow" sGrow f ["self"]) (G : GsW mg) (T : Wr K C fCA fNw fLB fTS fSk fCy fGr) : Fn P w K mg base 1 f ["self"] (spGrow C) := by
  refine D.ok scGr (fun vs H Q E h => ?_) (fun cdv A outer s H vs Q E hr h => ?_)
  · obtain ⟨p, dx, lc, lh, ch, w, hi, lo, rfl, _⟩ := h
    rfl
  · obtain ⟨p, dx, lc, lh, ch, w, hi, lo, rfl, h3, hz, k⟩ := h
    refine ⟨_, pss_cons (ps_fld (pv 0) (pe_op op_mul (pe_fld (pv 0) rfl) pe_int) rfl)
      (pss_cons (ps_expr (pe_bm PySem.F.plainAttrs_list PySem.F.slot_list_append PySem.F.type_list_append mt_append (pe_fld (pv 0) rfl) (pa_cons (pe_op op_fdiv (pe_fld (pv 0) rfl) (pe_gint rfl G.a.least)) pa_nil)))
      (pss_one (ps_fld (pv 0) (pe_op op_mul (pe_op op_mod (pe_fld (pv 0) rfl) (pe_gint rfl G.a.least)) pe_int) rfl))), ?_⟩
    refine ⟨_, rfl, p, C, dx, _, _, rfl, h3.o, T.cod.cl, T.cod.nW, wf_w .., _, _, rfl, rfl, .inr ⟨by decide, by decide⟩, _, rfl, p, C, dx, _, rfl, h3.o, T.cod.cl, T.cod.nW, (by show 4 < 1000; decide), ?_⟩
    have h4 := h3.setP (w' := 256 * w) (lo' := lo) (wf_setW lc w lh lo (256 * w) (z := (w : Int) * 256) (by omega))
    have k4 : Keep [p, lc, lh] H _ := (Keep.refl [p, lc, lh] H).upd (x := p) (o := .ins C dx (putF "width" (.int ((w : Int) * 256)) (wf lc w lh lo))) (by simp)
    refine ⟨_, rfl, p, C, dx, _, _, rfl, h4.o, T.cod.cl, T.nH, wf_hi .., .inl ⟨rfl, _, SqL.of h4.h⟩, ?_⟩
    refine ⟨_, rfl, p, C, dx, _, _, rfl, h4.o, T.cod.cl, T.nL, wf_lo .., _, _, rfl, rfl, ⟨by decide, by decide⟩, lh, _, _, rfl, rfl, h4.h, (by rw [nV_len, sizeLine_eq]; exact hz), ?_⟩
    have h5 := h4.setH (hi' := hi ++ [lo / 16777216]) (xs := nV hi ++ [.int ((lo : Int) / 16777216)]) (by rw [← nV_snoc]; rfl)
    have k5 := k4.upd (x := lh) (o := .lst (nV hi ++ [.int ((lo : Int) / 16777216)])) (by simp)
    refine ⟨_, rfl, p, C, dx, _, _, rfl, h5.o, T.cod.cl, T.nL, wf_lo .., _, _, rfl, rfl, (by show (0 : Int) < 16777216; decide), _, _, rfl, rfl, .inr ⟨by decide, by decide⟩, _, rfl, p, C, dx, _, rfl, h5.o, T.cod.cl, T.nL, (by show 4 < 1000; decide), ?_⟩
    exact k _ (h5.setP (wf_setL lc (256 * w) lh lo (lo % 16777216 * 256) (by show (lo : Int) % 16777216 * 256 = _; omega))) (k5.upd (by simp))
theorem scSk : FnScope ["self", "part"] ["self", "part"] (defScope sSkip) := ⟨rfl, rfl, rfl, by decide +kernel, rfl, by decide +kernel, by decide +kernel⟩
theorem ok_skip {f : Addr} (D : Def K "skip" "Writer.skip" sSkip f ["self", "part"]) (G : GsW mg) (T : Wr K C fCA fNw fLB fTS fSk fCy fGr) (FC : Fn P w K mg base 1 fCy ["self"] (spCarry C)) : Fn P w K mg base 2 f ["self", "part"] (spSkip C) := by
  refine D.ok scSk (fun vs H Q E h => ?_) (fun cdv A outer s H vs Q E hr h => ?_)
  · obtain ⟨p, dx, lc, lh, ch, w, hi, lo, part, rfl, _⟩ := h
    rfl
  · obtain ⟨p, dx, lc, lh, ch, w, hi, lo, part, rfl, h3, k⟩ := h
    refine ⟨_, pss_cons (ps_fldaug (pv 0) (pv 1) in_add)
      (pss_one (ps_if (pt_cmp (pc_ge (pe_fld (pv 0) rfl) (pe_gint rfl G.lend))) (pss_cons (ps_fldaug (pv 0) (pe_gint rfl G.lend) in_sub) (pss_one (ps_expr (pe_methN0 (pv 0) T.cod.cl T.mCy FC hr)))) pss_nil)), ?_⟩
    refine ⟨_, rfl, p, C, dx, _, _, rfl, h3.o, T.cod.cl, T.nL, wf_lo .., _, rfl, _, _, rfl, rfl, _, _, h3.o, (by show 4 < 1000; decide), ?_⟩
    have h4 := h3.setP (w' := w) (lo' := lo + part) (wf_setL lc w lh lo (lo + part) (z := (lo : Int) + (part : Int)) (by omega))
    have k4 : Keep [p, lc, lh] H _ := (Keep.refl [p, lc, lh] H).upd (x := p) (o := .ins C dx (putF "lowest" (.int ((lo : Int) + (part : Int))) (wf lc w lh lo))) (by simp)
    refine ⟨_, rfl, p, C, dx, _, _, rfl, h4.o, T.cod.cl, T.nL, wf_lo .., _, _, rfl, rfl, _, rfl, ?_⟩
    rcases k with ⟨hlt, k⟩ | ⟨hge, a, x, j, e, hx, k⟩
    · refine itN (show ¬ (4294967296 : Int) ≤ ((lo + part : Nat) : Int) by omega) ?_
      exact k _ h4 k4
    · refine itD (show (4294967296 : Int) ≤ ((lo + part : Nat) : Int) by omega) ?_
      refine ⟨_, rfl, p, C, dx, _, _, rfl, h4.o, T.cod.cl, T.nL, wf_lo .., _, _, rfl, rfl, _, _, h4.o, (by show 4 < 1000; decide), ?_⟩
      have h5 := h4.setP (w' := w) (lo' := lo + part - 4294967296) (wf_setL lc w lh (lo + part) (lo + part - 4294967296) (z := ((lo + part : Nat) : Int) - 4294967296) (by omega))
      have k5 := k4.upd (x := p) (o := .ins C dx (putF "lowest" (.int (((lo + part : Nat) : Int) - 4294967296)) (wf lc w lh (lo + part)))) (by simp)
      subst e
      refine ⟨_, rfl, p, dx, _, rfl, h5.o, wf_no .., p, dx, lc, lh, ch, w, a, x, j, _, rfl, h5, hx, fun H' h6 k6 => ?_⟩
      exact k _ h6 (k5.trans k6)
end
end Cb

end
section
set_option Elab.async false
set_option linter.all false
set_option maxRecDepth 100000
set_option maxHeartbeats 2000000
namespace Cb
open PySem PySem.Spec PyProof.Rows L2

/-! ### comparisons of ints, by cases: no decision stands in the reading -/
def r2c (p : Int → Int → Prop) : R2 := fun x y H Q => ∃ i j, x = .int i ∧ y = .int j ∧ ((p i j ∧ Q (.bl true) H) ∨ (¬ p i j ∧ Q (.bl false) H))
theorem op2c {X : Cx} {f : Value → Value → Sem Value} {p : Int → Int → Prop} [d : ∀ i j, Decidable (p i j)] (h : OpR X f (rI0 fun i j => .bl (decide (p i j)))) : OpR X f (r2c p) := by
  intro pins s σ H x y v u Q I rx ry q
  obtain ⟨i, j, e1, e2, q⟩ := q
  refine h pins s σ H x y v u Q I rx ry ⟨i, j, e1, e2, ?_⟩
  rcases q with ⟨a, q⟩ | ⟨a, q⟩
  · show Q (.bl (decide (p i j))) H
    rw [decide_eq_true a]; exact q
  · show Q (.bl (decide (p i j))) H
    rw [decide_eq_false a]; exact q
theorem oc_lt {X : Cx} : OpR X (compareOp .Lt) (r2c fun i j => i < j) := op2c op_lt
theorem oc_le {X : Cx} : OpR X (compareOp .LtE) (r2c fun i j => i ≤ j) := op2c op_le
theorem oc_gt {X : Cx} : OpR X (compareOp .Gt) (r2c fun i j => j < i) := op2c op_gt
theorem oc_ge {X : Cx} : OpR X (compareOp .GtE) (r2c fun i j => j ≤ i) := op2c op_ge
/-- one statement, then the rest, by what stands between -/
theorem seq_by {t u : TS} {D : Ends} {σ : L2.St} {H : Hp} (M : L2.St → Hp → Prop) (h1 : ∀ D' : Ends, D'.rt = D.rt → (∀ σ' H', M σ' H' → D'.nx σ' H') → t D' σ H) (h2 : ∀ σ' H', M σ' H' → u D σ' H') : tSeq t u D σ H :=
  h1 { D with nx := u D } rfl h2
inductive WO (C : Addr) (H : Hp) (p dx lc lh : Addr) (s : Rb16.Out) : Prop where
  | mk (hi : List Nat) (lo : Nat) : (W3 C H p dx lc lh s.chances s.width hi lo) → (WRep s hi lo) → WO C H p dx lc lh s
/-- the list of the steps: a tuple for each -/
structure TupsAt (H : Hp) (as : List Addr) (st : List (Option Nat × Nat)) : Prop where
  len : as.length = st.length
  at_ : ∀ (i : Nat) (a : Addr), as[i]? = some a → ∃ c b, st[i]? = some (c, b) ∧ H a = some (.tup [oN c, .int (b : Nat)])
theorem TupsAt.keep {H H' : Hp} {as : List Addr} {st : List (Option Nat × Nat)} {fp : List Addr} (t : TupsAt H as st) (k : Keep fp H H') (n : ∀ b ∈ fp, ∀ xs, H b ≠ some (.tup xs)) : TupsAt H' as st :=
  ⟨t.len, fun i a h => by
    obtain ⟨c, b, h1, h2⟩ := t.at_ i a h
    exact ⟨c, b, h1, k _ _ h2 fun z => n a z _ h2⟩⟩
theorem W3.notup {C : Addr} {H : Hp} {p dx lc lh : Addr} {ch : List Nat} {w : Nat} {hi : List Nat} {lo : Nat} (a : W3 C H p dx lc lh ch w hi lo) : ∀ b ∈ [p, lc, lh], ∀ xs, H b ≠ some (.tup xs) := by
  intro b hb xs z
  simp only [List.mem_cons, List.not_mem_nil, or_false] at hb
  rcases hb with rfl | rfl | rfl
  · rw [a.o] at z; cases z
  · rw [a.c] at z; cases z
  · rw [a.h] at z; cases z
inductive SpTStep (C : Addr) (vs : List V) (H : Hp) (Q : VK) : Prop where
  | mk (p dx lc lh : Addr) (s : Rb16.Out) (c o : Option Nat) (b : Nat) : (vs = [.ref p, oN c, .int (b : Nat)]) → (WO C H p dx lc lh s) → (OInv0 s) → (chOf s.chances c = some o) → (b ≤ 1) → (s.grown < 16777216) → (∀ H' : Hp, WO C H' p dx lc lh (stepOut s c b) → Keep [p, lc, lh] H H' → Q .non H') → SpTStep C vs H Q
def spTStep (C : Addr) : Sp := fun vs H Q _ => SpTStep C vs H Q
inductive SpLB (C : Addr) (vs : List V) (H : Hp) (Q : VK) : Prop where
  | mk (p dx lc lh ls : Addr) (ch : List Nat) (w : Nat) (hi : List Nat) (lo : Nat) (as : List Addr) (st : List (Option Nat × Nat)) : (vs = [.ref p, .ref ls]) → (W3 C H p dx lc lh ch w hi lo) → (WOk w) → (ChOk ch) → (H ls = some (.lst (as.map V.ref))) → (TupsAt H as st) → (StOk ch.length st) → (Q (.int ((st.foldl (lb ch) (w, hi.length + 4)).2 : Nat)) H) → SpLB C vs H Q
def spLB (C : Addr) : Sp := fun vs H Q _ => SpLB C vs H Q
inductive SpTell (C : Addr) (vs : List V) (H : Hp) (Q : VK) : Prop where
  | mk (p dx lc lh ls : Addr) (s : Rb16.Out) (as : List Addr) (st : List (Option Nat × Nat)) : (vs = [.ref p, .ref ls]) → (WO C H p dx lc lh s) → (OInv s) → (H ls = some (.lst (as.map V.ref))) → (ls ≠ lc) → (ls ≠ lh) → (TupsAt H as st) → (StOk s.chances.length st) → (Once st) → ((∀ q ∈ st, q.2 ≤ 1)) → (((1048576 < (steps s st).grown + 4 ∧ Q (.bl false) H) ∨ ((steps s st).grown + 4 ≤ 1048576 ∧ ∀ H' : Hp, WO C H' p dx lc lh (steps s st) → Keep [p, lc, lh] H H' → Q (.bl true) H'))) → SpTell C vs H Q
def spTell (C : Addr) : Sp := fun vs H Q _ => SpTell C vs H Q

section
variable {P : Program} {w : World} {K : PySem.W.Frag} {mg : Str → Option Value} {base : Heap} {C fCA fNw fLB fTS fSk fCy fGr : Addr}
theorem scTS : FnScope ["self", "c", "bit"] ["self", "c", "bit"] (defScope sTStep) := ⟨rfl, rfl, rfl, by decide +kernel, rfl, by decide +kernel, by decide +kernel⟩
theorem ok_tstep {f fP : Addr} (D : Def K "tell_step" "Writer.tell_step" sTStep f ["self", "c", "bit"]) (G : GsW mg) (T : Wr K C fCA fNw fLB fTS fSk fCy fGr) (mP : mg "part_of" = some (.ref fP)) (FP : Fn P w K mg base 1 fP ["width", "chance"] spPart)
    (FC : Fn P w K mg base 1 fCA ["self", "c"] (spChAt K fCA fNw)) (FN : Fn P w K mg base 3 fNw ["self", "c", "bit"] (spNarrow K fCA fNw)) (FS : Fn P w K mg base 2 fSk ["self", "part"] (spSkip C)) (FG : Fn P w K mg base 1 fGr ["self"] (spGrow C)) :
    Fn P w K mg base 4 f ["self", "c", "bit"] (spTStep C) := by
  refine D.ok scTS (fun vs H Q E h => ?_) (fun cdv A outer s0 H vs Q E hr h => ?_)
  · obtain ⟨p, dx, lc, lh, s, c, o, b, rfl, _⟩ := h
    rfl
  · obtain ⟨p, dx, lc, lh, s, c, o, b, rfl, ⟨hi, lo, h3, wr⟩, inv, e, hb, hg, k⟩ := h
    have hr1 : Room 1 _ := hr.mono (by decide)
    have hr2 : Room 2 _ := hr.mono (by decide)
    have ho := chOf_ok inv.ch e
    obtain ⟨nw, hN⟩ : ∃ nw, nw = narrowO s c o b := ⟨_, rfl⟩
    obtain ⟨gw, hG⟩ : ∃ gw, gw = growO nw := ⟨_, rfl⟩
    have es : stepOut s c b = gw := by rw [hG, hN]; exact stepOut_eq inv e
    have gi : OInv0 gw := by rw [← es]; exact stepOut_inv0 inv e
    have gA : nw.width < 16777216 → gw = grow1 nw := fun q => by rw [hG]; unfold growO; rw [if_pos q]
    have gB : ¬ nw.width < 16777216 → gw = nw := fun q => by rw [hG]; unfold growO; rw [if_neg q]
    have nnum : nw.number = s.number + (if b = 0 then 0 else partN s.width o) := by rw [hN]; rfl
    have ngr : nw.grown = s.grown := by rw [hN]; rfl
    have nwd : widthN s.width o b = nw.width := by rw [hN]; rfl
    have nch : setCh s.chances c o b = nw.chances := by rw [hN]; rfl
    clear hG hN
    have gw1 := gi.w.1
    rw [es] at k
    refine ⟨_, pss_cons (ps_if (pt_cmp (pc_eqI (pv 2) pe_int)) (pss_one (ps_expr (pe_methN (pv 0) T.cod.cl T.mSk FS hr2 (pa_cons (pe_callN FP hr1 rfl mP (pa_cons (pe_fld (pv 0) rfl) (pa_cons (pe_methN (pv 0) T.cod.cl T.cod.mCh FC hr1 (pa_cons (pv 1) pa_nil)) pa_nil))) pa_nil)))) pss_nil)
      (pss_cons (ps_expr (pe_methN (pv 0) T.cod.cl T.cod.mN FN hr (pa_cons (pv 1) (pa_cons (pv 2) pa_nil))))
      (pss_one (ps_while PassesOwn.never (pt_cmpR oc_lt (pe_fld (pv 0) rfl) (pe_gint rfl G.a.least) (nomark _)) (pss_one (ps_expr (pe_methN0 (pv 0) T.cod.cl T.mGr FG hr1)))))), ?_⟩
    refine seq_by (fun σ' H' => σ' = [some (.ref p), some (oN c), some (.int (b : Nat))] ∧ ∃ hi1 lo1, W3 C H' p dx lc lh s.chances s.width hi1 lo1 ∧ WRep nw hi1 lo1 ∧ Keep [p, lc, lh] H H') (fun D' _ kD => ?_) ?_
    · refine ⟨_, rfl, _, _, rfl, rfl, _, rfl, ?_⟩
      by_cases h1 : b = 1
      · refine itD (show ((b : Nat) : Int) = 1 by omega) ?_
        have hpw : partN s.width o < s.width := by
          have := skip_width (w := s.width) (b := b) ho
          have := width_ge (b := b) inv.w ho
          rw [if_neg (by omega)] at *
          omega
        have e1 : nw.number = s.number + partN s.width o := by
          rw [nnum, if_neg (by omega)]
        refine ⟨_, rfl, p, dx, _, rfl, h3.o, wf_no .., _, rfl, p, C, dx, _, _, rfl, h3.o, T.cod.cl, T.cod.nW, wf_w .., _, rfl, p, dx, _, rfl, h3.o, wf_no .., _, rfl, C, p, dx, _, lc, _, _, c, o, rfl, T.cod, h3.cat, e, ?_⟩
        refine ⟨s.width, o, rfl, inv.w.2, ?_⟩
        refine ⟨p, dx, lc, lh, s.chances, s.width, hi, lo, partN s.width o, rfl, h3, ?_⟩
        by_cases hc : lo + partN s.width o < 4294967296
        · refine .inl ⟨hc, fun H' h4 k4 => kD _ _ ⟨rfl, _, _, h4, wr.add hc e1 ngr, k4⟩⟩
        · obtain ⟨a, x, j, ea, hx, wr2⟩ := wr.carry inv hpw hc e1 ngr
          exact .inr ⟨hc, a, x, j, ea, hx, fun H' h4 k4 => kD _ _ ⟨rfl, _, _, h4, wr2, k4⟩⟩
      · obtain rfl : b = 0 := by omega
        refine itN (show ¬ ((0 : Nat) : Int) = 1 by omega) ?_
        exact kD _ _ ⟨rfl, _, _, h3, wr.same (by rw [nnum, if_pos rfl]; rfl) ngr, Keep.refl _ _⟩
    · rintro σ' H1 ⟨rfl, hi1, lo1, h4, wr1, k1⟩
      refine ⟨_, rfl, p, dx, _, rfl, h4.o, wf_no .., _, rfl, _, rfl, C, p, dx, _, lc, _, _, c, o, b, rfl, T.cod, h4.cat, e, ho, inv.w.2, fun H2 a1 a2 a3 => ?_⟩
      have h5 := h4.after a1 a2 a3
      rw [nwd, nch] at h5
      have k2 : Keep [p, lc, lh] H H2 := k1.trans (a3.mono (by simp))
      refine ⟨fun m σ H' => σ = [some (.ref p), some (oN c), some (.int (b : Nat))] ∧ Keep [p, lc, lh] H H' ∧ ((m = 1 ∧ WO C H' p dx lc lh nw) ∨ (m = 0 ∧ WO C H' p dx lc lh gw)), ⟨1, rfl, k2, .inl ⟨rfl, _, _, h5, wr1⟩⟩, ?_⟩
      rintro m σ H' ⟨rfl, k3, ⟨rfl, hi2, lo2, h6, wr2⟩ | ⟨rfl, hi2, lo2, h6, wr2⟩⟩
      · refine ⟨_, rfl, p, C, dx, _, _, rfl, h6.o, T.cod.cl, T.cod.nW, wf_w .., _, _, rfl, rfl, ?_⟩
        rcases Nat.lt_or_ge nw.width 16777216 with hw | hw
        · refine .inl ⟨(show ((nw.width : Nat) : Int) < 16777216 by omega), _, rfl, itT rfl ?_⟩
          refine ⟨fun σ' H'' => σ' = [some (.ref p), some (oN c), some (.int (b : Nat))] ∧ Keep [p, lc, lh] H H'' ∧ WO C H'' p dx lc lh gw, fun σ' H'' ⟨q1, q2, q3⟩ => ⟨0, by omega, q1, q2, .inr ⟨rfl, q3⟩⟩, ?_⟩
          refine ⟨_, rfl, p, dx, _, rfl, h6.o, wf_no .., p, dx, lc, lh, _, _, hi2, lo2, rfl, h6, ?_, fun H3 h7 k7 => ?_⟩
          · rw [← wr2.grown, ngr]; exact hg
          · exact ⟨rfl, k3.trans k7, by rw [gA hw]; exact ⟨_, _, h7, wr2.grow⟩⟩
        · refine .inr ⟨(show ¬ ((nw.width : Nat) : Int) < 16777216 by omega), _, rfl, itF rfl ?_⟩
          refine k H' ?_ k3
          rw [gB (by omega)]
          exact ⟨_, _, h6, wr2⟩
      · refine ⟨_, rfl, p, C, dx, _, _, rfl, h6.o, T.cod.cl, T.cod.nW, wf_w .., _, _, rfl, rfl, ?_⟩
        refine .inr ⟨(show ¬ ((gw.width : Nat) : Int) < 16777216 by omega), _, rfl, itF rfl ?_⟩
        exact k H' ⟨_, _, h6, wr2⟩ k3
theorem scLB : FnScope ["self", "steps", "width", "length", "c", "bit"] ["self", "steps"] (defScope sLB) := ⟨rfl, rfl, rfl, by decide +kernel, rfl, by decide +kernel, by decide +kernel⟩
theorem take_snoc {α : Type} : ∀ {l : List α} {i : Nat} {x : α}, l[i]? = some x → l.take (i + 1) = l.take i ++ [x]
  | [], i, x, h => by simp at h
  | a :: l, 0, x, h => by
    have e : a = x := Option.some.inj h
    subst e
    rfl
  | a :: l, i + 1, x, h => by
    have ih := take_snoc (l := l) (i := i) (x := x) h
    show a :: l.take (i + 1) = a :: l.take i ++ [x]
    rw [ih]
    rfl
theorem lb_ok {ch : List Nat} {w n b : Nat} {c o : Option Nat} (hw : WOk w) (hc : ChOk ch) (e : chOf ch c = some o) : WOk (lb ch (w, n) (c, b)).1 := by
  have ho := chOf_ok hc e
  have h1 := width_ge (b := b) hw ho
  have h2 := width_le (w := w) (b := b) ho
  have h3 := hw.2
  unfold lb lbW
  dsimp only
  rw [e]
  show WOk (if widthN w o b < 16777216 then (widthN w o b * 256, n + 1) else (widthN w o b, n)).1
  split
  · exact ⟨by omega, by omega⟩
  · exact ⟨by omega, by omega⟩
theorem ok_lb {f fWB : Addr} (D : Def K "length_behind" "Writer.length_behind" sLB f ["self", "steps"]) (G : GsW mg) (T : Wr K C fCA fNw fLB fTS fSk fCy fGr) (mWB : mg "width_behind" = some (.ref fWB)) (FWB : Fn P w K mg base 2 fWB ["width", "chance", "bit"] spWB)
    (FC : Fn P w K mg base 1 fCA ["self", "c"] (spChAt K fCA fNw)) : Fn P w K mg base 3 f ["self", "steps"] (spLB C) := by
  refine D.ok scLB (fun vs H Q E h => ?_) (fun cdv A outer s0 H vs Q E hr h => ?_)
  · obtain ⟨p, dx, lc, lh, ls, ch, w, hi, lo, as, st, rfl, _⟩ := h
    rfl
  · obtain ⟨p, dx, lc, lh, ls, ch, w, hi, lo, as, st, rfl, h3, hw, hch, hls, ht, hst, k⟩ := h
    have hr1 : Room 1 _ := hr.mono (by decide)
    refine ⟨_, pss_cons (ps_set (i := 2) scLB.nd rfl (Or.inl rfl) (pe_fld (pv 0) rfl))
      (pss_cons (ps_set (i := 3) scLB.nd rfl (Or.inl rfl) (pe_op op_add (pe_callB call_len_seq (by rfl) G.len PySem.boot_len (pa_cons (pe_fld (pv 0) rfl) pa_nil)) (pe_gint rfl G.low)))
      (pss_cons (ps_for PassesOwn.never rfl (pi_list (pv 1)) (pg_tup rfl (pgs_cons (pg_name (i := 4) scLB.nd rfl (Or.inl rfl)) (pgs_cons (pg_name (i := 5) scLB.nd rfl (Or.inl rfl)) pgs_nil)))
        (pss_cons (ps_set (i := 2) scLB.nd rfl (Or.inl rfl) (pe_callN FWB hr rfl mWB (pa_cons (pv 2) (pa_cons (pe_methN (pv 0) T.cod.cl T.cod.mCh FC hr1 (pa_cons (pv 4) pa_nil)) (pa_cons (pv 5) pa_nil)))))
        (pss_one (ps_while PassesOwn.never (pt_cmpR oc_lt (pv 2) (pe_gint rfl G.a.least) (nomark _)) (pss_cons (ps_set (i := 2) scLB.nd rfl (Or.inl rfl) (pe_op op_mul (pv 2) pe_int)) (pss_one (ps_aug (i := 3) scLB.nd rfl (Or.inl rfl) pe_int ip_add)))))))
      (pss_one (ps_ret (pv 3))))), ?_⟩
    refine ⟨_, rfl, p, C, dx, _, _, rfl, h3.o, T.cod.cl, T.cod.nW, wf_w .., ?_⟩
    refine ⟨_, rfl, p, C, dx, _, _, rfl, h3.o, T.cod.cl, T.nH, wf_hi .., _, _, rfl, .inl (SqL.of h3.h), _, _, rfl, rfl, ?_⟩
    refine ⟨_, rfl, ls, rfl, ⟨_, SqL.of hls⟩, for_list (K := K) (a := ls) (xs := as.map V.ref) (fun i σ H' => ∃ v4 v5 : Option V, H = H' ∧ WOk ((st.take i).foldl (lb ch) (w, hi.length + 4)).1 ∧
      σ = [some (.ref p), some (.ref ls), some (.int (((st.take i).foldl (lb ch) (w, hi.length + 4)).1 : Nat)), some (.int (((st.take i).foldl (lb ch) (w, hi.length + 4)).2 : Nat)), v4, v5]) ⟨none, none, rfl, hw, ?_⟩ ?_ ?_ ?_⟩
    · show [some (V.ref p), some (V.ref ls), some (V.int (w : Int)), some (V.int (((nV hi).length : Nat) + 4)), none, none] = _
      rw [nV_len]
      rfl
    · rintro i σ H' _ ⟨_, _, rfl, _⟩
      exact SqL.of hls
    · rintro i y σ H' hi' ⟨v4, v5, rfl, hwi, rfl⟩
      obtain ⟨a, ha, rfl⟩ : ∃ a, as[i]? = some a ∧ y = V.ref a := by
        rw [List.getElem?_map] at hi'
        cases q : as[i]? with
        | none => rw [q] at hi'; cases hi'
        | some a => rw [q] at hi'; exact ⟨a, rfl, (Option.some.inj hi').symm⟩
      obtain ⟨c, b, hs, hta⟩ := ht.at_ i a ha
      obtain ⟨o, eo⟩ := hst.ch (List.mem_of_getElem? hs)
      have eo : chOf ch c = some o := eo
      have ho := chOf_ok hch eo
      refine ⟨a, _, rfl, SqT.of hta, rfl, _, _, rfl, _, _, rfl, rfl, ?_⟩
      have et : (st.take (i + 1)).foldl (lb ch) (w, hi.length + 4) = lb ch ((st.take i).foldl (lb ch) (w, hi.length + 4)) (c, b) := by
        rw [take_snoc hs, List.foldl_append]
        rfl
      rw [et]
      generalize (st.take i).foldl (lb ch) (w, hi.length + 4) = wl at hwi ⊢
      obtain ⟨wi, li⟩ := wl
      have hwi : WOk wi := hwi
      have hok := lb_ok (n := li) (b := b) hwi hch eo
      have hge := width_ge (b := b) hwi ho
      refine ⟨_, rfl, _, rfl, p, dx, _, rfl, h3.o, wf_no .., _, rfl, C, p, dx, _, lc, _, _, c, o, rfl, T.cod, h3.cat, eo, _, rfl, wi, o, b, rfl, hwi.2, ho, ?_⟩
      have elb : lb ch (wi, li) (c, b) = if widthN wi o b < 16777216 then (widthN wi o b * 256, li + 1) else (widthN wi o b, li) := by
        unfold lb lbW
        dsimp only
        rw [eo]
        rfl
      refine ⟨fun m σ H' => H = H' ∧ ((m = 1 ∧ σ = [some (.ref p), some (.ref ls), some (.int (widthN wi o b : Nat)), some (.int (li : Nat)), some (oN c), some (.int (b : Nat))]) ∨
        (m = 0 ∧ σ = [some (.ref p), some (.ref ls), some (.int ((lb ch (wi, li) (c, b)).1 : Nat)), some (.int ((lb ch (wi, li) (c, b)).2 : Nat)), some (oN c), some (.int (b : Nat))])), ⟨1, rfl, .inl ⟨rfl, rfl⟩⟩, ?_⟩
      rintro m σ H' ⟨rfl, ⟨rfl, rfl⟩ | ⟨rfl, rfl⟩⟩
      · refine ⟨_, rfl, _, _, rfl, rfl, ?_⟩
        by_cases hq : widthN wi o b < 16777216
        · refine .inl ⟨(show ((widthN wi o b : Nat) : Int) < 16777216 by omega), _, rfl, itT rfl ?_⟩
          refine ⟨fun σ' H'' => H = H'' ∧ σ' = [some (.ref p), some (.ref ls), some (.int ((lb ch (wi, li) (c, b)).1 : Nat)), some (.int ((lb ch (wi, li) (c, b)).2 : Nat)), some (oN c), some (.int (b : Nat))], fun σ' H'' ⟨q1, q2⟩ => ⟨0, by omega, q1, .inr ⟨rfl, q2⟩⟩, ?_⟩
          refine ⟨_, rfl, _, _, rfl, rfl, .inr ⟨by decide, by decide⟩, ?_⟩
          refine ⟨_, rfl, _, _, rfl, rfl, rfl, ?_⟩
          rw [elb, if_pos hq]
          rfl
        · refine .inr ⟨(show ¬ ((widthN wi o b : Nat) : Int) < 16777216 by omega), _, rfl, itF rfl ?_⟩
          refine ⟨some (oN c), some (.int (b : Nat)), rfl, hok, ?_⟩
          rw [elb, if_neg hq]
      · refine ⟨_, rfl, _, _, rfl, rfl, ?_⟩
        have := hok.1
        refine .inr ⟨(show ¬ (((lb ch (wi, li) (c, b)).1 : Nat) : Int) < 16777216 from by generalize (lb ch (wi, li) (c, b)).1 = q at *; omega), _, rfl, itF rfl ?_⟩
        exact ⟨_, _, rfl, hok, rfl⟩
    · rintro σ H' ⟨v4, v5, rfl, _, rfl⟩
      refine ⟨_, rfl, ?_⟩
      rw [List.length_map, ht.len, List.take_length]
      exact k
theorem scTl : FnScope ["self", "steps", "c", "bit"] ["self", "steps"] (defScope sTell) := ⟨rfl, rfl, rfl, by decide +kernel, rfl, by decide +kernel, by decide +kernel⟩
theorem steps_snoc (s : Rb16.Out) (l : List (Option Nat × Nat)) (q : Option Nat × Nat) : steps s (l ++ [q]) = stepOut (steps s l) q.1 q.2 := by
  unfold steps
  rw [List.foldl_append]
  rfl
theorem steps_take_le {s : Rb16.Out} {st : List (Option Nat × Nat)} (i : OInv0 s) (h : StOk s.chances.length st) (n : Nat) : OInv0 (steps s (st.take n)) ∧ (steps s (st.take n)).grown ≤ (steps s st).grown ∧ (steps s (st.take n)).chances.length = s.chances.length := by
  have h1 : StOk s.chances.length (st.take n) := fun q hq => h q (List.mem_of_mem_take hq)
  obtain ⟨a, b, c⟩ := steps_inv i h1
  have h2 : StOk (steps s (st.take n)).chances.length (st.drop n) := fun q hq => by rw [c]; exact h q (List.mem_of_mem_drop hq)
  obtain ⟨_, e, _⟩ := steps_inv a h2
  refine ⟨a, ?_, c⟩
  have : steps (steps s (st.take n)) (st.drop n) = steps s st := by
    unfold steps
    rw [← List.foldl_append, List.take_append_drop]
  rw [this] at e
  exact e
theorem ok_tell {f : Addr} (D : Def K "tell" "Writer.tell" sTell f ["self", "steps"]) (G : GsW mg) (T : Wr K C fCA fNw fLB fTS fSk fCy fGr) (FL : Fn P w K mg base 3 fLB ["self", "steps"] (spLB C)) (FT : Fn P w K mg base 4 fTS ["self", "c", "bit"] (spTStep C)) :
    Fn P w K mg base 5 f ["self", "steps"] (spTell C) := by
  refine D.ok scTl (fun vs H Q E h => ?_) (fun cdv A outer s0 H vs Q E hr h => ?_)
  · obtain ⟨p, dx, lc, lh, ls, s, as, st, rfl, _⟩ := h
    rfl
  · obtain ⟨p, dx, lc, lh, ls, s, as, st, rfl, ⟨hi, lo, h3, wr⟩, inv, hls, n1, n2, ht, hst, hon, hb, k⟩ := h
    have hr3 : Room 3 _ := hr.mono (by decide)
    refine ⟨_, pss_cons (ps_if (pt_cmp (pc_gt (pe_methN (pv 0) T.cod.cl T.mLB FL hr3 (pa_cons (pv 1) pa_nil)) (pe_gint rfl G.most))) (pss_one (ps_ret pe_bl)) pss_nil)
      (pss_cons (ps_for PassesOwn.never rfl (pi_list (pv 1)) (pg_tup rfl (pgs_cons (pg_name (i := 2) scTl.nd rfl (Or.inl rfl)) (pgs_cons (pg_name (i := 3) scTl.nd rfl (Or.inl rfl)) pgs_nil)))
        (pss_one (ps_expr (pe_methN (pv 0) T.cod.cl T.mTS FT hr (pa_cons (pv 2) (pa_cons (pv 3) pa_nil))))))
      (pss_one (ps_ret pe_bl))), ?_⟩
    refine ⟨_, rfl, p, dx, _, rfl, h3.o, wf_no .., _, rfl, p, dx, lc, lh, ls, _, _, hi, lo, as, st, rfl, h3, inv.w, inv.ch, hls, ht, hst, _, _, rfl, rfl, _, rfl, ?_⟩
    have el : (st.foldl (lb s.chances) (s.width, hi.length + 4)).2 = (steps s st).grown + 4 := by
      rw [← wr.grown, lb_steps s.chances st s inv.to0 hst hon (fun _ _ _ _ => rfl)]
    rcases k with ⟨hgt, k⟩ | ⟨hle, k⟩
    · refine itD (show (1048576 : Int) < (((st.foldl (lb s.chances) (s.width, hi.length + 4)).2 : Nat) : Int) by omega) ?_
      exact k
    · refine itN (show ¬ (1048576 : Int) < (((st.foldl (lb s.chances) (s.width, hi.length + 4)).2 : Nat) : Int) by omega) ?_
      refine ⟨_, rfl, ls, rfl, ⟨_, SqL.of hls⟩, for_list (K := K) (a := ls) (xs := as.map V.ref) (fun i σ H' => ∃ v2 v3 : Option V, σ = [some (.ref p), some (.ref ls), v2, v3] ∧ WO C H' p dx lc lh (steps s (st.take i)) ∧ Keep [p, lc, lh] H H')
        ⟨none, none, rfl, ⟨hi, lo, h3, wr⟩, Keep.refl _ _⟩ ?_ ?_ ?_⟩
      · rintro i σ H' _ ⟨_, _, _, _, k2⟩
        refine SqL.of (k2 _ _ hls ?_)
        simp only [List.mem_cons, List.not_mem_nil, or_false, not_or]
        exact ⟨ne_of hls h3.o (by intro z; cases z), n1, n2⟩
      · rintro i y σ H' hi' ⟨v2, v3, rfl, w2, k2⟩
        obtain ⟨a, ha, rfl⟩ : ∃ a, as[i]? = some a ∧ y = V.ref a := by
          rw [List.getElem?_map] at hi'
          cases q : as[i]? with
          | none => rw [q] at hi'; cases hi'
          | some a => rw [q] at hi'; exact ⟨a, rfl, (Option.some.inj hi').symm⟩
        have ht2 := ht.keep k2 h3.notup
        obtain ⟨c, b, hs, hta⟩ := ht2.at_ i a ha
        obtain ⟨i1, i2, i3⟩ := steps_take_le inv.to0 hst i
        obtain ⟨o, eo⟩ := StOk.ch (ch := (steps s (st.take i)).chances) (by rw [i3]; exact hst) (List.mem_of_getElem? hs)
        have eo : chOf (steps s (st.take i)).chances c = some o := eo
        obtain ⟨hi2, lo2, h4, wr2⟩ := id w2
        refine ⟨a, _, rfl, SqT.of hta, rfl, _, _, rfl, _, _, rfl, rfl, ?_⟩
        refine ⟨_, rfl, p, dx, _, rfl, h4.o, wf_no .., _, rfl, _, rfl, p, dx, lc, lh, _, c, o, b, rfl, w2, i1, eo, hb _ (List.mem_of_getElem? hs), by omega, fun H3 w3 k3 => ?_⟩
        refine ⟨_, _, rfl, ?_, k2.trans k3⟩
        rw [take_snoc hs, steps_snoc]
        exact w3
      · rintro σ H' ⟨v2, v3, rfl, w2, k2⟩
        rw [List.length_map, ht.len, List.take_length] at w2
        exact k H' w2 k2
end
end Cb

end
section
set_option Elab.async false
set_option linter.all false
set_option maxRecDepth 100000
set_option maxHeartbeats 2000000
namespace Cb
open PySem PySem.Spec PyProof.Rows L2

/-- a comprehension over a range with a step -/
theorem lc_rangeC {lo c : Int} {n : Nat} {g : TG} {tt : TT} {te : TE} {vs : List Nat} {σ : L2.St} {H1 : Hp} {D : Addr} {Qd : Hp → Prop} (Pv : Nat → Hp → Prop) (h0 : Pv 0 (upd H1 D (.lst [])))
    (hs : ∀ i H, i < n → Pv i H → g (.int (lo + (i : Nat) * c)) (wipe σ vs) H fun σ2 H2 => wipe σ2 vs = wipe σ vs ∧ tt σ2 H2 fun b H3 =>
      if b = true then te σ2 H3 fun y H4 => ∃ acc, H4 D = some (.lst acc) ∧ acc.length < sizeLine ∧ Pv (i + 1) (upd H4 D (.lst (acc ++ [y]))) else Pv (i + 1) H3) (hd : ∀ H, Pv n H → Qd H) :
    ∃ W : Nat → Nat → Hp → Prop, (∃ m, W 0 m (upd H1 D (.lst []))) ∧ ∀ i m H, W i m H →
      ((Itc lo c n).stop i H ∧ Qd H) ∨ ((Itc lo c n).go i H ∧ ∃ Nx : Hp → Prop, (∀ H', Nx H' → ∃ m', m' < m ∧ W (i + 1) m' H') ∧ ∀ x H', (Itc lo c n).yld i H x H' → g x (wipe σ vs) H' fun σ2 H2 => wipe σ2 vs = wipe σ vs ∧ tt σ2 H2 fun b H3 =>
        if b = true then te σ2 H3 fun y H4 => ∃ acc, H4 D = some (.lst acc) ∧ acc.length < sizeLine ∧ Nx (upd H4 D (.lst (acc ++ [y]))) else Nx H3) := by
  refine ⟨fun i m H => m = n - i ∧ i ≤ n ∧ Pv i H, ⟨n, by simp, Nat.zero_le _, h0⟩, ?_⟩
  rintro i m H ⟨rfl, hi, p⟩
  by_cases hlt : i < n
  · refine .inr ⟨hlt, Pv (i + 1), fun H' p' => ⟨n - (i + 1), by omega, rfl, hlt, p'⟩, fun x H' y => ?_⟩
    obtain ⟨e, y⟩ := y
    subst e y
    exact hs i _ hlt p
  · have e : i = n := by omega
    subst e
    exact .inl ⟨Nat.le_refl _, hd H p⟩

theorem Keep.off {fp : List Addr} {H H1 : Hp} {x : Addr} {o : HO} (a : Keep fp H H1) (h : H x = none) : Keep fp H (L2.upd H1 x o) := fun c u e n => by
  rw [upd_ne (ne_of_none e h)]
  exact a c u e n
/-! ### the steps as tuples -/
theorem TupsAt.snoc {H : Hp} {as : List Addr} {st : List (Option Nat × Nat)} {a : Addr} {c : Option Nat} {b : Nat} (t : TupsAt H as st) (h : H a = none) : TupsAt (upd H a (.tup [oN c, .int (b : Nat)])) (as ++ [a]) (st ++ [(c, b)]) := by
  refine ⟨by rw [List.length_append, List.length_append, t.len]; rfl, fun i x hx => ?_⟩
  by_cases hi : i < as.length
  · rw [List.getElem?_append_left hi] at hx
    obtain ⟨c', b', h1, h2⟩ := t.at_ i x hx
    refine ⟨c', b', by rw [List.getElem?_append_left (by rw [← t.len]; exact hi)]; exact h1, ?_⟩
    rw [upd_ne (ne_of_none h2 h)]
    exact h2
  · rw [List.getElem?_append_right (by omega)] at hx
    have hz : i - as.length = 0 := by
      cases q : i - as.length with
      | zero => rfl
      | succ n => rw [q] at hx; simp at hx
    rw [hz] at hx
    have e : a = x := Option.some.inj hx
    subst e
    refine ⟨c, b, ?_, upd_same⟩
    rw [List.getElem?_append_right (by rw [← t.len]; omega), ← t.len, hz]
    rfl
theorem TupsAt.other {H : Hp} {as : List Addr} {st : List (Option Nat × Nat)} {a : Addr} {o : HO} (t : TupsAt H as st) (h : ∀ xs, H a ≠ some (.tup xs)) : TupsAt (upd H a o) as st :=
  ⟨t.len, fun i x hx => by
    obtain ⟨c', b', h1, h2⟩ := t.at_ i x hx
    refine ⟨c', b', h1, ?_⟩
    rw [upd_ne (fun z => h _ (by rw [← z]; exact h2))]
    exact h2⟩
theorem TupsAt.nil (H : Hp) : TupsAt H [] [] := ⟨rfl, fun i a h => by simp at h⟩
theorem map_snoc (as : List Addr) (a : Addr) : as.map V.ref ++ [.ref a] = (as ++ [a]).map V.ref := by rw [List.map_append]; rfl
theorem shr_bit (x s : Nat) : Builtin.bitAnd ((x : Int) / 2 ^ ((s : Int)).toNat) 1 = ((x / 2 ^ s % 2 : Nat) : Int) := by
  rw [bitAnd_m1, Int.toNat_natCast]
  norm_cast
theorem shr_byte (x s : Nat) : Builtin.bitAnd ((x : Int) / 2 ^ ((s : Int)).toNat) 255 = ((x / 2 ^ s % 256 : Nat) : Int) := by
  rw [bitAnd_m8, Int.toNat_natCast]
  norm_cast
theorem bits_at {n v i : Nat} (h : i < n) : (Rb16.bitsOf n v)[i]? = some (v / 2 ^ (n - 1 - i) % 2) := by
  unfold Rb16.bitsOf
  rw [List.getElem?_map, List.getElem?_reverse (by simpa using h), List.length_range, List.getElem?_range (by omega)]
  rfl
def mAt : Nat → List Nat → Nat
  | m, [] => m
  | m, b :: r => mAt (2 * m + b) r
theorem mAt_snoc : ∀ (l : List Nat) (m b : Nat), mAt m (l ++ [b]) = 2 * mAt m l + b
  | [], _, _ => rfl
  | x :: l, m, b => mAt_snoc l (2 * m + x) b
theorem mAt_ge : ∀ (l : List Nat) (m : Nat), 1 ≤ m → 1 ≤ mAt m l
  | [], _, h => h
  | x :: l, m, h => mAt_ge l (2 * m + x) (by omega)
theorem tree_snoc (c : Nat) : ∀ (l : List Nat) (m b : Nat), treeSteps c m (l ++ [b]) = treeSteps c m l ++ [(some (c + (mAt m l - 1)), b)]
  | [], _, _ => rfl
  | x :: l, m, b => by
    show (some (c + (m - 1)), x) :: treeSteps c (2 * m + x) (l ++ [b]) = (some (c + (m - 1)), x) :: (treeSteps c (2 * m + x) l ++ _)
    rw [tree_snoc c l]
    rfl
/-- a call that gives back a new list of steps -/
def StepsOut (H : Hp) (Q : VK) (st : List (Option Nat × Nat)) : Prop := ∀ (H' : Hp) (ls : Addr) (as : List Addr), H ls = none → H' ls = some (.lst (as.map V.ref)) → TupsAt H' as st → Keep [] H H' → Q (.ref ls) H'
inductive SpESteps (vs : List V) (H : Hp) (Q : VK) : Prop where
  | mk (x n : Nat) : (vs = [.int (x : Int), .int (n : Int)]) → (n ≤ 32) → (StepsOut H Q (evenSteps (Rb16.bitsOf n x))) → SpESteps  vs H Q
def spESteps : Sp := fun vs H Q _ => SpESteps  vs H Q
inductive SpTSteps (vs : List V) (H : Hp) (Q : VK) : Prop where
  | mk (c n x : Nat) : (vs = [.int (c : Int), .int (n : Int), .int (x : Int)]) → (n ≤ 12) → (StepsOut H Q (treeSteps c 1 (Rb16.bitsOf n x))) → SpTSteps  vs H Q
def spTSteps : Sp := fun vs H Q _ => SpTSteps  vs H Q
inductive SpWInit (C : Addr) (vs : List V) (H : Hp) (Q : VK) : Prop where
  | mk (p dx : Addr) (k : Nat) : (vs = [.ref p, .int (k : Int)]) → (H p = some (.ins C dx [])) → (k ≤ 4096) → (∀ (H' : Hp) (lc lh : Addr), H lc = none → H lh = none → W3 C H' p dx lc lh (List.replicate k 1024) 4294967295 [] 0 → Keep [p] H H' → Q .non H') → SpWInit C vs H Q
def spWInit (C : Addr) : Sp := fun vs H Q _ => SpWInit C vs H Q
inductive SpWritten (C : Addr) (vs : List V) (H : Hp) (Q : VK) : Prop where
  | mk (p dx lc lh : Addr) (s : Rb16.Out) : (vs = [.ref p]) → (WO C H p dx lc lh s) → (s.grown + 4 ≤ 1048576) → (∀ (H' : Hp) (l : Addr), H l = none → H' l = some (il (Rb16.written s)) → Keep [] H H' → Q (.ref l) H') → SpWritten C vs H Q
def spWritten (C : Addr) : Sp := fun vs H Q _ => SpWritten C vs H Q

section
variable {P : Program} {w : World} {K : PySem.W.Frag} {mg : Str → Option Value} {base : Heap} {C cC fCA fNw fLB fTS fSk fCy fGr : Addr} {mc : Value}
theorem scWI : FnScope ["self", "k"] ["self", "k"] (defScope sWInit) := ⟨rfl, rfl, rfl, by decide +kernel, rfl, by decide +kernel, by decide +kernel⟩
theorem ok_winit {f fI : Addr} (D : Def K "__init__" "Writer.__init__" sWInit f ["self", "k"]) (T : Wr K C fCA fNw fLB fTS fSk fCy fGr) (mC : mg "Coder" = some (.ref cC)) (MC : CMeth K cC "__init__" fI mc) (FI : Fn P w K mg base 1 fI ["self", "k"] (spCInit K fCA fNw)) :
    Fn P w K mg base 2 f ["self", "k"] (spWInit C) := by
  refine D.ok scWI (fun vs H Q E h => ?_) (fun cdv A outer s H vs Q E hr h => ?_)
  · obtain ⟨p, dx, k, rfl, _⟩ := h
    rfl
  · obtain ⟨p, dx, k, rfl, hp, hk, kk⟩ := h
    refine ⟨_, pss_cons (ps_expr (pe_cmethN rfl mC MC FI hr (pa_cons (pv 0) (pa_cons (pv 1) pa_nil)))) (pss_cons (ps_fld (pv 0) (pe_lst pa_nil) rfl) (pss_one (ps_fld (pv 0) pe_int rfl))), ?_⟩
    refine ⟨_, rfl, _, rfl, C, p, dx, k, rfl, hp, T.cod, hk, fun H1 lc nlc h1 h2 k1 => ?_⟩
    refine ⟨(by show 0 ≤ sizeLine; omega), fun lh hlh => ?_⟩
    have npl : p ≠ lh := ne_of_none h1 hlh
    have nlh : H lh = none := by
      cases q : H lh with
      | none => rfl
      | some o =>
        by_cases e : lh = p
        · exact absurd e.symm npl
        · have := k1 lh o q (by simpa using e)
          rw [this] at hlh
          cases hlh
    have nch : lc ≠ lh := ne_of_none h2 hlh
    have ncp : lc ≠ p := fun z => by rw [z, hp] at nlc; cases nlc
    refine ⟨_, rfl, p, C, dx, _, rfl, (by rw [upd_ne npl]; exact h1), T.cod.cl, T.nH, (by show 2 < 1000; decide), ?_⟩
    refine ⟨_, rfl, p, C, dx, _, rfl, upd_same, T.cod.cl, T.nL, (by show 3 < 1000; decide), ?_⟩
    refine kk _ lc lh nlc nlh ⟨Eq.trans upd_same rfl, ?_, ?_, nch⟩ ?_
    · rw [upd_ne ncp, upd_ne ncp, upd_ne nch]; exact h2
    · rw [upd_ne (Ne.symm npl), upd_ne (Ne.symm npl), upd_same]; rfl
    · exact ((k1.new hlh).upd (by simp)).upd (by simp)
theorem scES : FnScope ["x", "n", "place"] ["x", "n"] (defScope sESteps) := ⟨rfl, rfl, rfl, by decide +kernel, rfl, by decide +kernel, by decide +kernel⟩
theorem ok_esteps {f : Addr} (D : Def K "even_steps" "even_steps" sESteps f ["x", "n"]) (G : GsW mg) : Fn P w K mg base 1 f ["x", "n"] spESteps := by
  refine D.ok scES (fun vs H Q E h => ?_) (fun cdv A outer s H vs Q E hr h => ?_)
  · obtain ⟨x, n, rfl, _⟩ := h
    rfl
  · obtain ⟨x, n, rfl, hn, k⟩ := h
    refine ⟨_, pss_one (ps_ret (pe_lc (own := [("place", 2)]) rfl scES.nd (pi_range3 (by rfl) G.range (pa_cons (pe_op op_sub (pv 1) pe_int) (pa_cons (pe_un un_neg pe_int) (pa_cons (pe_un un_neg pe_int) pa_nil)))) (blkOk_by (show blkC ["x", "n", "place"] (defScope sESteps) _ _ = true by decide +kernel))
      (fun _ _ _ _ _ => pg_name (i := 2) scES.nd rfl (Or.inl rfl)) (fun _ _ _ _ _ => pts_nil) (fun _ _ _ _ _ => pe_tup (pa_cons pe_non (pa_cons (pe_op op_and (pe_op op_shr (pv 0) (pv 2)) pe_int) pa_nil))))), ?_⟩
    refine ⟨_, rfl, _, _, rfl, rfl, _, rfl, _, rfl, (n : Int) - 1, -1, -1, n, rfl, ?_, fun Dl hD => ?_⟩
    · have := RgC.neg (i := (n : Int) - 1) (j := -1) (by omega) (by omega) (by omega) (by omega)
      rw [show ((n : Int) - 1 - -1).toNat = n by omega] at this
      exact this
    · refine lc_rangeC (fun i H' => ∃ as, H' Dl = some (.lst (as.map V.ref)) ∧ as.length = i ∧ TupsAt H' as (evenSteps ((Rb16.bitsOf n x).take i)) ∧ Keep [] H H') ⟨[], upd_same, rfl, TupsAt.nil _, (Keep.refl _ _).new hD⟩ ?_ ?_
      · rintro i H' hi ⟨as, hDl, hal, ht, kp⟩
        refine ⟨rfl, ?_⟩
        have hz := sizeLine_eq
        have ep : ((n : Int) - 1 + (i : Nat) * -1) = ((n - 1 - i : Nat) : Int) := by omega
        refine ⟨_, rfl, _, rfl, _, _, rfl, rfl, ?_, _, _, rfl, rfl, (by show 2 ≤ sizeLine; omega), fun a ha => ?_⟩
        · show (0 : Int) ≤ (n : Int) - 1 + (i : Nat) * -1
          omega
        have nD : Dl ≠ a := ne_of_none hDl ha
        have ev : Builtin.bitAnd ((x : Int) / 2 ^ ((n : Int) - 1 + (i : Nat) * -1).toNat) 1 = ((x / 2 ^ (n - 1 - i) % 2 : Nat) : Int) := by rw [ep]; exact shr_bit x (n - 1 - i)
        refine ⟨as.map V.ref, (by rw [upd_ne nD]; exact hDl), (by rw [List.length_map]; omega), as ++ [a], ?_, (by rw [List.length_append, hal]; rfl), ?_, (kp.new ha).off hD⟩
        · rw [upd_same, map_snoc]
        · rw [take_snoc (bits_at hi)]
          have e2 : evenSteps ((Rb16.bitsOf n x).take i ++ [x / 2 ^ (n - 1 - i) % 2]) = evenSteps ((Rb16.bitsOf n x).take i) ++ [(none, x / 2 ^ (n - 1 - i) % 2)] := by
            unfold evenSteps
            rw [List.map_append]
            rfl
          rw [e2]
          show TupsAt (upd (upd H' a (.tup [.non, .int (Builtin.bitAnd ((x : Int) / 2 ^ ((n : Int) - 1 + (i : Nat) * -1).toNat) 1)])) Dl _) _ _
          rw [ev]
          refine (ht.snoc (c := none) ha).other fun xs z => ?_
          rw [upd_ne nD, hDl] at z
          cases z
      · rintro H' ⟨as, hDl, hal, ht, kp⟩
        rw [show (Rb16.bitsOf n x).take n = Rb16.bitsOf n x by rw [List.take_of_length_le]; rw [bits_len]; omega] at ht
        exact k H' Dl as hD hDl ht kp
theorem scTT : FnScope ["c", "n", "x", "steps", "m", "place", "bit"] ["c", "n", "x"] (defScope sTSteps) := ⟨rfl, rfl, rfl, by decide +kernel, rfl, by decide +kernel, by decide +kernel⟩
theorem ok_tsteps {f : Addr} (D : Def K "tree_steps" "tree_steps" sTSteps f ["c", "n", "x"]) (G : GsW mg) : Fn P w K mg base 1 f ["c", "n", "x"] spTSteps := by
  refine D.ok scTT (fun vs H Q E h => ?_) (fun cdv A outer s H vs Q E hr h => ?_)
  · obtain ⟨c, n, x, rfl, _⟩ := h
    rfl
  · obtain ⟨c, n, x, rfl, hn, k⟩ := h
    have hz := sizeLine_eq
    refine ⟨_, pss_cons (ps_set (i := 3) scTT.nd rfl (Or.inl rfl) (pe_lst pa_nil)) (pss_cons (ps_set (i := 4) scTT.nd rfl (Or.inl rfl) pe_int)
      (pss_cons (ps_for PassesOwn.never rfl (pi_range3 (by rfl) G.range (pa_cons (pe_op op_sub (pv 1) pe_int) (pa_cons (pe_un un_neg pe_int) (pa_cons (pe_un un_neg pe_int) pa_nil)))) (pg_name (i := 5) scTT.nd rfl (Or.inl rfl))
        (pss_cons (ps_set (i := 6) scTT.nd rfl (Or.inl rfl) (pe_op op_and (pe_op op_shr (pv 2) (pv 5)) pe_int))
        (pss_cons (ps_expr (pe_bm PySem.F.plainAttrs_list PySem.F.slot_list_append PySem.F.type_list_append mt_append (pv 3) (pa_cons (pe_tup (pa_cons (pe_op op_sub (pe_op op_add (pv 0) (pv 4)) pe_int) (pa_cons (pv 6) pa_nil))) pa_nil)))
        (pss_one (ps_set (i := 4) scTT.nd rfl (Or.inl rfl) (pe_op op_add (pe_op op_mul (pv 4) pe_int) (pv 6)))))))
      (pss_one (ps_ret (pv 3))))), ?_⟩
    refine ⟨(by show 0 ≤ sizeLine; omega), fun ls hls => ?_⟩
    refine ⟨_, rfl, _, _, rfl, rfl, _, rfl, _, rfl, (n : Int) - 1, -1, -1, n, rfl, ?_, ?_⟩
    · have := RgC.neg (i := (n : Int) - 1) (j := -1) (by omega) (by omega) (by omega) (by omega)
      rw [show ((n : Int) - 1 - -1).toNat = n by omega] at this
      exact this
    · refine for_rangeC (fun i σ H' => ∃ (as : List Addr) (v5 v6 : Option V), σ = [some (.int (c : Int)), some (.int (n : Int)), some (.int (x : Int)), some (.ref ls), some (.int (mAt 1 ((Rb16.bitsOf n x).take i) : Nat)), v5, v6] ∧
        H' ls = some (.lst (as.map V.ref)) ∧ as.length = i ∧ TupsAt H' as (treeSteps c 1 ((Rb16.bitsOf n x).take i)) ∧ Keep [] H H') ⟨[], none, none, rfl, upd_same, rfl, TupsAt.nil _, (Keep.refl _ _).new hls⟩ ?_ ?_
      · rintro i σ H' hi ⟨as, v5, v6, rfl, hl, hal, ht, kp⟩
        have ep : ((n : Int) - 1 + (i : Nat) * -1) = ((n - 1 - i : Nat) : Int) := by omega
        have ev : Builtin.bitAnd ((x : Int) / 2 ^ ((n : Int) - 1 + (i : Nat) * -1).toNat) 1 = ((x / 2 ^ (n - 1 - i) % 2 : Nat) : Int) := by rw [ep]; exact shr_bit x (n - 1 - i)
        have hm := mAt_ge ((Rb16.bitsOf n x).take i) 1 (Nat.le_refl _)
        have eb := take_snoc (bits_at (v := x) hi)
        refine ⟨_, rfl, _, rfl, _, _, rfl, rfl, ?_, _, _, rfl, rfl, ?_⟩
        · show (0 : Int) ≤ (n : Int) - 1 + (i : Nat) * -1
          omega
        refine ⟨_, rfl, .inl ⟨rfl, _, SqL.of hl⟩, _, rfl, _, rfl, _, _, rfl, rfl, _, _, rfl, rfl, _, rfl, (by show 2 ≤ sizeLine; omega), fun a ha => ?_⟩
        have nl : ls ≠ a := ne_of_none hl ha
        refine ⟨ls, _, _, rfl, rfl, (by rw [upd_ne nl]; exact hl), (by rw [List.length_map]; omega), ?_⟩
        refine ⟨_, rfl, _, _, rfl, rfl, .inr ⟨by decide, by decide⟩, _, rfl, _, _, rfl, rfl, as ++ [a], some (.int ((n : Int) - 1 + (i : Nat) * -1)), some (.int (Builtin.bitAnd ((x : Int) / 2 ^ ((n : Int) - 1 + (i : Nat) * -1).toNat) 1)), ?_, ?_, (by rw [List.length_append, hal]; rfl), ?_, (kp.new ha).off hls⟩
        · show [some (V.int (c : Int)), some (V.int (n : Int)), some (V.int (x : Int)), some (V.ref ls), some (V.int (((mAt 1 ((Rb16.bitsOf n x).take i) : Nat) : Int) * 2 + Builtin.bitAnd ((x : Int) / 2 ^ ((n : Int) - 1 + (i : Nat) * -1).toNat) 1)), some (.int ((n : Int) - 1 + (i : Nat) * -1)), some (.int (Builtin.bitAnd ((x : Int) / 2 ^ ((n : Int) - 1 + (i : Nat) * -1).toNat) 1))] = _
          rw [ev, eb, mAt_snoc, show (((mAt 1 ((Rb16.bitsOf n x).take i) : Nat) : Int) * 2 + ((x / 2 ^ (n - 1 - i) % 2 : Nat) : Int)) = ((2 * mAt 1 ((Rb16.bitsOf n x).take i) + x / 2 ^ (n - 1 - i) % 2 : Nat) : Int) by omega]
        · rw [upd_same, map_snoc]
        · rw [eb, tree_snoc]
          show TupsAt (upd (upd H' a (.tup [.int ((c : Int) + ((mAt 1 ((Rb16.bitsOf n x).take i) : Nat) : Int) - 1), .int (Builtin.bitAnd ((x : Int) / 2 ^ ((n : Int) - 1 + (i : Nat) * -1).toNat) 1)])) ls _) _ _
          rw [ev, show ((c : Int) + ((mAt 1 ((Rb16.bitsOf n x).take i) : Nat) : Int) - 1) = ((c + (mAt 1 ((Rb16.bitsOf n x).take i) - 1) : Nat) : Int) by omega]
          refine (ht.snoc (c := some _) ha).other fun xs z => ?_
          rw [upd_ne nl, hl] at z
          cases z
      · rintro σ H' ⟨as, v5, v6, rfl, hl, hal, ht, kp⟩
        rw [show (Rb16.bitsOf n x).take n = Rb16.bitsOf n x by rw [List.take_of_length_le]; rw [bits_len]; omega] at ht
        refine ⟨_, rfl, ?_⟩
        exact k H' ls as hls hl ht kp
theorem scWt : FnScope ["self", "shift"] ["self"] (defScope sWritten) := ⟨rfl, rfl, rfl, by decide +kernel, rfl, by decide +kernel, by decide +kernel⟩
def bytes4 (lo : Nat) : List Nat := [lo / 16777216 % 256, lo / 65536 % 256, lo / 256 % 256, lo % 256]
theorem bytes4_at (lo : Nat) : ∀ (i : Nat) (x : V), ([.int 24, .int 16, .int 8, .int 0] : List V)[i]? = some x → ∃ s : Nat, x = .int (s : Int) ∧ (bytes4 lo)[i]? = some (lo / 2 ^ s % 256)
  | 0, x, h => ⟨24, (Option.some.inj h).symm, rfl⟩
  | 1, x, h => ⟨16, (Option.some.inj h).symm, rfl⟩
  | 2, x, h => ⟨8, (Option.some.inj h).symm, rfl⟩
  | 3, x, h => ⟨0, (Option.some.inj h).symm, by show some (lo % 256) = _; rw [show lo / 2 ^ 0 = lo by simp]⟩
  | i + 4, x, h => by simp at h
theorem ok_written {f : Addr} (D : Def K "written" "Writer.written" sWritten f ["self"]) (G : GsW mg) (T : Wr K C fCA fNw fLB fTS fSk fCy fGr) : Fn P w K mg base 1 f ["self"] (spWritten C) := by
  refine D.ok scWt (fun vs H Q E h => ?_) (fun cdv A outer s0 H vs Q E hr h => ?_)
  · obtain ⟨p, dx, lc, lh, s, rfl, _⟩ := h
    rfl
  · obtain ⟨p, dx, lc, lh, s, rfl, ⟨hi, lo, h3, wr⟩, hg, k⟩ := h
    have hz := sizeLine_eq
    have hgl := wr.grown
    refine ⟨_, pss_one (ps_ret (pe_op op_cat (pe_fld (pv 0) rfl) (pe_lc (own := [("shift", 1)]) (te := tOp (rI0 fun i j => .int (Builtin.bitAnd i j)) (tOp (rI (fun _ j => 0 ≤ j) fun i j => .int (i / 2 ^ j.toNat)) (tFld K (tVar 0) "lowest") (tVar 1)) (tC (.int 255)))
      rfl scWt.nd (pi_tup (pe_tup (pa_cons pe_int (pa_cons pe_int (pa_cons pe_int (pa_cons pe_int pa_nil)))))) (blkOk_by (show blkC ["self", "shift"] (defScope sWritten) _ _ = true by decide +kernel))
      (fun _ _ _ _ _ => pg_name (i := 1) scWt.nd rfl (Or.inl rfl)) (fun _ _ _ _ _ => pts_nil) (fun _ _ _ _ _ => pe_op op_and (pe_op op_shr (pe_fld (pv 0) rfl) (pv 1)) pe_int)))), ?_⟩
    refine ⟨_, rfl, p, C, dx, _, _, rfl, h3.o, T.cod.cl, T.nH, wf_hi .., (by show 4 ≤ sizeLine; omega), fun t ht => ⟨t, rfl, ⟨_, SqT.of upd_same⟩, fun Dl hD => ?_⟩⟩
    have nt : Dl ≠ t := fun z => by rw [z, upd_same] at hD; cases hD
    have hDH : H Dl = none := by rw [upd_ne nt] at hD; exact hD
    refine lc_tup (K := K) (a := t) (xs := [.int 24, .int 16, .int 8, .int 0]) (fun i H' => W3 C H' p dx lc lh s.chances s.width hi lo ∧ H' t = some (.tup [.int 24, .int 16, .int 8, .int 0]) ∧ H' Dl = some (il ((bytes4 lo).take i)) ∧ Keep [] H H') ⟨?_, ?_, upd_same, ((Keep.refl [] H).new ht).off hDH⟩ ?_ ?_ ?_
    · have q : ∀ b o, H b = some o → upd (upd H t (.tup [.int 24, .int 16, .int 8, .int 0])) Dl (.lst []) b = some o := fun b o e => (((Keep.refl [] H).new ht).off hDH) b o e (by simp)
      exact ⟨q _ _ h3.o, q _ _ h3.c, q _ _ h3.h, h3.ne⟩
    · rw [upd_ne (Ne.symm nt), upd_same]
    · rintro i H' _ ⟨_, h, _⟩
      exact SqT.of h
    · rintro i x H' hx ⟨h4, h5, h6, k6⟩
      obtain ⟨sh, rfl, hb⟩ := bytes4_at lo i x hx
      refine ⟨rfl, ?_⟩
      refine ⟨_, rfl, p, C, dx, _, _, rfl, h4.o, T.cod.cl, T.nL, wf_lo .., _, rfl, _, _, rfl, rfl, (by show (0 : Int) ≤ (sh : Int); omega), _, _, rfl, rfl, _, h6, ?_, ?_⟩
      · rw [nV_len, List.length_take]
        have : (bytes4 lo).length = 4 := rfl
        omega
      · have q : ∀ b o, H b = some o → b ≠ Dl := fun b o e => ne_of_none e hDH
        have n1 : p ≠ Dl := q _ _ h3.o
        have n2 : lc ≠ Dl := q _ _ h3.c
        have n3 : lh ≠ Dl := q _ _ h3.h
        refine ⟨⟨by rw [upd_ne n1]; exact h4.o, by rw [upd_ne n2]; exact h4.c, by rw [upd_ne n3]; exact h4.h, h4.ne⟩, by rw [upd_ne (Ne.symm nt)]; exact h5, ?_, k6.off hDH⟩
        rw [upd_same, take_snoc hb]
        show some (HO.lst (nV ((bytes4 lo).take i) ++ [V.int (Builtin.bitAnd ((lo : Int) / 2 ^ ((sh : Int)).toNat) 255)])) = _
        rw [shr_byte, nV_snoc]
        rfl
    · rintro H' ⟨h4, h5, h6, k6⟩
      refine ⟨lh, Dl, _, _, rfl, rfl, h4.h, h6, ?_, fun l hl => ?_⟩
      · rw [nV_len, nV_len, List.length_take]
        have : (bytes4 lo).length = 4 := rfl
        omega
      · refine k _ l ?_ ?_ (k6.new hl)
        · cases q : H l with
          | none => rfl
          | some o =>
            rw [k6 l o q (by simp)] at hl
            cases hl
        · rw [upd_same, written_rep wr]
          show some (HO.lst (nV hi ++ nV (bytes4 lo))) = some (HO.lst (nV (hi ++ bytes4 lo)))
          unfold nV
          rw [List.map_append]
end
end Cb

end
section
set_option Elab.async false
set_option linter.all false
set_option maxRecDepth 100000
set_option maxHeartbeats 2000000
namespace Cb
open PySem PySem.Spec PyProof.Rows L2

/-! ### reading: mathematics of the calls -/
def fb (gs : List Nat) (i : Nat) : Nat := (List.range i).foldl (fun v j => 256 * v + gs.getD j 0) 0
theorem fb_succ (gs : List Nat) (i : Nat) : fb gs (i + 1) = 256 * fb gs i + gs.getD i 0 := by
  unfold fb
  rw [List.range_succ, List.foldl_append]
  rfl
theorem drop_head (gs : List Nat) (i : Nat) : (gs.drop i).headD 0 = gs.getD i 0 := by
  rw [List.headD_eq_head?_getD, List.head?_drop, List.getD_eq_getElem?_getD]
theorem getD_lt {gs : List Nat} (h : Bs gs) (i : Nat) : gs.getD i 0 < 256 := by
  rw [← drop_head]
  exact headD_lt fun b hb => h b (List.mem_of_mem_drop hb)
theorem fb_lt {gs : List Nat} (h : Bs gs) : ∀ i, fb gs i < 256 ^ i
  | 0 => by show (0 : Nat) < 1; decide
  | i + 1 => by
    have h1 := fb_lt h i
    have h2 := getD_lt h i
    rw [fb_succ, Nat.pow_succ]
    omega
theorem even_inv : ∀ (n v : Nat) (s : Rb16.In), IInv s → IInv (Rb16.getEven n v s).2 ∧ (Rb16.getEven n v s).2.chances.length = s.chances.length
  | 0, _, s, i => ⟨i, rfl⟩
  | n + 1, v, s, i => by
    have e := stepIn_eq (c := none) (o := none) i rfl
    have e : Rb16.getHalf s = (bitI s none, shiftI (narrowI s none none)) := e
    obtain ⟨j1, j2⟩ := stepIn_inv (c := none) (o := none) i rfl
    show IInv (Rb16.getEven n (2 * v + (Rb16.getHalf s).1) (Rb16.getHalf s).2).2 ∧ _
    have q := even_inv n (2 * v + (Rb16.getHalf s).1) (Rb16.getHalf s).2 (by rw [e]; exact j1)
    refine ⟨q.1, q.2.trans ?_⟩
    rw [e]
    exact j2
theorem tree_inv : ∀ (n c m : Nat) (s : Rb16.In), IInv s → 1 ≤ m → (m + 1) * 2 ^ n + 2 * c ≤ 2 * s.chances.length + 2 → IInv (Rb16.getTree n c m s).2 ∧ (Rb16.getTree n c m s).2.chances.length = s.chances.length
  | 0, _, _, s, i, _, _ => ⟨i, rfl⟩
  | n + 1, c, m, s, i, hm, h => by
    have hp2 : (m + 1) * 2 ^ (n + 1) = 2 * (m + 1) * 2 ^ n := by rw [Nat.pow_succ, Nat.mul_comm (2 ^ n) 2, ← Nat.mul_assoc, Nat.mul_comm (m + 1) 2]
    have h2 : 1 ≤ 2 ^ n := Nat.one_le_two_pow
    rw [hp2] at h
    have hlt : c + (m - 1) < s.chances.length := by
      have : 2 * (m + 1) * 1 ≤ 2 * (m + 1) * 2 ^ n := Nat.mul_le_mul_left _ h2
      omega
    obtain ⟨v, _, ev⟩ := chOf_lt hlt
    have e := stepIn_eq i ev
    have e : Rb16.getBit s (c + (m - 1)) = (bitI s (some v), shiftI (narrowI s (some (c + (m - 1))) (some v))) := e
    obtain ⟨j1, j2⟩ := stepIn_inv i ev
    have hb := bitI_le s (some v)
    have q := tree_inv n c (2 * m + (Rb16.getBit s (c + (m - 1))).1) (Rb16.getBit s (c + (m - 1))).2 (by rw [e]; exact j1) (by omega) (by
      rw [e]
      dsimp only
      rw [j2]
      have : (2 * m + bitI s (some v) + 1) * 2 ^ n ≤ (2 * (m + 1)) * 2 ^ n := Nat.mul_le_mul_right _ (by omega)
      omega)
    refine ⟨q.1, q.2.trans ?_⟩
    rw [e]
    exact j2

/-! ### the reading object in the heap -/
structure GsR (mg : Str → Option Value) : Prop where
  a : GsA mg
  fb : IntG mg "FIRST_BYTES" 4
  range : mg "range" = none
  len : mg "len" = none
abbrev sRInit : Stmt := inClass (top 11) 0
abbrev sTake : Stmt := inClass (top 11) 1
abbrev sUnt : Stmt := inClass (top 11) 2
abbrev sNBit : Stmt := inClass (top 11) 3
abbrev sNEven : Stmt := inClass (top 11) 4
abbrev sNTree : Stmt := inClass (top 11) 5
def rf (lc : Addr) (w : Nat) (lg : Addr) (tk num : Nat) : List (Str × V) := [("chances", .ref lc), ("width", .int (w : Int)), ("given", .ref lg), ("taken", .int (tk : Int)), ("number", .int (num : Int))]
structure R3 (C : Addr) (H : Hp) (p dx lc lg : Addr) (ch : List Nat) (w : Nat) (gs : List Nat) (tk num : Nat) : Prop where
  o : H p = some (.ins C dx (rf lc w lg tk num))
  c : H lc = some (il ch)
  g : H lg = some (il gs)
  ne : lc ≠ lg
theorem rf_no (lc : Addr) (w : Nat) (lg : Addr) (tk num : Nat) {m : Str} (h1 : (m == "chances") = false := by decide +kernel) (h2 : (m == "width") = false := by decide +kernel) (h3 : (m == "given") = false := by decide +kernel) (h4 : (m == "taken") = false := by decide +kernel) (h5 : (m == "number") = false := by decide +kernel) : (rf lc w lg tk num).lookup m = none := by
  unfold rf
  simp only [List.lookup, h1, h2, h3, h4, h5]
section
variable (lc : Addr) (w : Nat) (lg : Addr) (tk num : Nat)
theorem rf_ch : (rf lc w lg tk num).lookup ("chances" : Str) = some (.ref lc) := rfl
theorem rf_w : (rf lc w lg tk num).lookup ("width" : Str) = some (.int (w : Int)) := rfl
theorem rf_g : (rf lc w lg tk num).lookup ("given" : Str) = some (.ref lg) := rfl
theorem rf_t : (rf lc w lg tk num).lookup ("taken" : Str) = some (.int (tk : Int)) := rfl
theorem rf_n : (rf lc w lg tk num).lookup ("number" : Str) = some (.int (num : Int)) := rfl
theorem rf_setW (w' : Nat) {z : Int} (e : z = (w' : Int)) : putF "width" (.int z) (rf lc w lg tk num) = rf lc w' lg tk num := by subst e; rfl
theorem rf_setT (tk' : Nat) {z : Int} (e : z = (tk' : Int)) : putF "taken" (.int z) (rf lc w lg tk num) = rf lc w lg tk' num := by subst e; rfl
theorem rf_setN (num' : Nat) {z : Int} (e : z = (num' : Int)) : putF "number" (.int z) (rf lc w lg tk num) = rf lc w lg tk num' := by subst e; rfl
end
section
variable {C : Addr} {H : Hp} {p dx lc lg : Addr} {ch : List Nat} {w : Nat} {gs : List Nat} {tk num : Nat}
theorem R3.npc (a : R3 C H p dx lc lg ch w gs tk num) : p ≠ lc := ne_of a.o a.c (by intro z; cases z)
theorem R3.npg (a : R3 C H p dx lc lg ch w gs tk num) : p ≠ lg := ne_of a.o a.g (by intro z; cases z)
theorem R3.setP (a : R3 C H p dx lc lg ch w gs tk num) {w' tk' num' : Nat} {fs : List (Str × V)} (e : fs = rf lc w' lg tk' num') : R3 C (upd H p (.ins C dx fs)) p dx lc lg ch w' gs tk' num' := by
  subst e
  exact ⟨upd_same, by rw [upd_ne (Ne.symm a.npc)]; exact a.c, by rw [upd_ne (Ne.symm a.npg)]; exact a.g, a.ne⟩
theorem R3.cat (a : R3 C H p dx lc lg ch w gs tk num) : CAt H C p dx (rf lc w lg tk num) lc ch w := ⟨a.o, rf_ch .., rf_w .., rf_no .., rf_no .., by show 5 < 1000; decide, a.c⟩
theorem R3.after (a : R3 C H p dx lc lg ch w gs tk num) {H' : Hp} {w' : Nat} {ch' : List Nat} (h1 : H' p = some (.ins C dx (putF "width" (.int (w' : Nat)) (rf lc w lg tk num)))) (h2 : H' lc = some (il ch')) (k : Keep [p, lc] H H') : R3 C H' p dx lc lg ch' w' gs tk num :=
  ⟨by rw [rf_setW lc w lg tk num w' rfl] at h1; exact h1, h2, k _ _ a.g (by simp only [List.mem_cons, List.not_mem_nil, or_false, not_or]; exact ⟨Ne.symm a.npg, Ne.symm a.ne⟩), a.ne⟩
end
/-- the class -/
structure Rr (K : PySem.W.Frag) (C fCA fNw fTk fNB : Addr) : Prop where
  cod : Cod K C fCA fNw
  nG : NoAttr K C "given"
  nT : NoAttr K C "taken"
  nN : NoAttr K C "number"
  mTk : Meth K C "take" fTk
  mNB : Meth K C "next_bit" fNB
inductive RO (C : Addr) (H : Hp) (p dx lc lg : Addr) (s : Rb16.In) : Prop where
  | mk (gs : List Nat) (tk : Nat) : (R3 C H p dx lc lg s.chances s.width gs tk s.far) → (s.rest = gs.drop tk) → (tk ≤ gs.length) → RO C H p dx lc lg s
inductive SpTake (C : Addr) (vs : List V) (H : Hp) (Q : VK) : Prop where
  | mk (p dx lc lg : Addr) (ch : List Nat) (w : Nat) (gs : List Nat) (tk num : Nat) : (vs = [.ref p]) → (R3 C H p dx lc lg ch w gs tk num) → (Bs (gs.drop tk)) → (tk ≤ gs.length) → (∀ (H' : Hp) (tk' : Nat), tk' ≤ gs.length → gs.drop tk' = (gs.drop tk).drop 1 → R3 C H' p dx lc lg ch w gs tk' ((256 * num + (gs.drop tk).headD 0) % 2 ^ 32) → Keep [p, lc, lg] H H' → Q .non H') → SpTake C vs H Q
def spTake (C : Addr) : Sp := fun vs H Q _ => SpTake C vs H Q
inductive SpUnt (C : Addr) (vs : List V) (H : Hp) (Q : VK) : Prop where
  | mk (p dx lc lg : Addr) (s : Rb16.In) : (vs = [.ref p]) → (RO C H p dx lc lg s) → (Q (.int (s.rest.length : Nat)) H) → SpUnt C vs H Q
def spUnt (C : Addr) : Sp := fun vs H Q _ => SpUnt C vs H Q
inductive SpNBit (C : Addr) (vs : List V) (H : Hp) (Q : VK) : Prop where
  | mk (p dx lc lg : Addr) (s : Rb16.In) (c o : Option Nat) : (vs = [.ref p, oN c]) → (RO C H p dx lc lg s) → (IInv s) → (chOf s.chances c = some o) → (∀ H' : Hp, RO C H' p dx lc lg (stepIn s c).2 → Keep [p, lc, lg] H H' → Q (.int ((stepIn s c).1 : Nat)) H') → SpNBit C vs H Q
def spNBit (C : Addr) : Sp := fun vs H Q _ => SpNBit C vs H Q
inductive SpNEven (C : Addr) (vs : List V) (H : Hp) (Q : VK) : Prop where
  | mk (p dx lc lg : Addr) (s : Rb16.In) (n : Nat) : (vs = [.ref p, .int (n : Nat)]) → (RO C H p dx lc lg s) → (IInv s) → (n ≤ 32) → (∀ H' : Hp, RO C H' p dx lc lg (Rb16.getEven n 0 s).2 → Keep [p, lc, lg] H H' → Q (.int ((Rb16.getEven n 0 s).1 : Nat)) H') → SpNEven C vs H Q
def spNEven (C : Addr) : Sp := fun vs H Q _ => SpNEven C vs H Q
inductive SpNTree (C : Addr) (vs : List V) (H : Hp) (Q : VK) : Prop where
  | mk (p dx lc lg : Addr) (s : Rb16.In) (c n : Nat) : (vs = [.ref p, .int (c : Nat), .int (n : Nat)]) → (RO C H p dx lc lg s) → (IInv s) → (n ≤ 12) → (c + (2 ^ n - 1) ≤ s.chances.length) → (∀ H' : Hp, RO C H' p dx lc lg (Rb16.getTree n c 1 s).2 → Keep [p, lc, lg] H H' → Q (.int (((Rb16.getTree n c 1 s).1 : Nat) - 2 ^ n)) H') → SpNTree C vs H Q
def spNTree (C : Addr) : Sp := fun vs H Q _ => SpNTree C vs H Q
inductive SpRInit (C : Addr) (vs : List V) (H : Hp) (Q : VK) : Prop where
  | mk (p dx lg : Addr) (k : Nat) (gs : List Nat) : (vs = [.ref p, .int (k : Int), .ref lg]) → (H p = some (.ins C dx [])) → (k ≤ 4096) → (H lg = some (il gs)) → (Bs gs) → (∀ (H' : Hp) (lc : Addr), H lc = none → RO C H' p dx lc lg (Rb16.opened gs k) → Keep [p] H H' → Q .non H') → SpRInit C vs H Q
def spRInit (C : Addr) : Sp := fun vs H Q _ => SpRInit C vs H Q

section
variable {P : Program} {w : World} {K : PySem.W.Frag} {mg : Str → Option Value} {base : Heap} {C cC fCA fNw fTk fNB : Addr} {mc : Value}
theorem scTk : FnScope ["self", "byte"] ["self"] (defScope sTake) := ⟨rfl, rfl, rfl, by decide +kernel, rfl, by decide +kernel, by decide +kernel⟩
theorem ok_take {f : Addr} (D : Def K "take" "Reader.take" sTake f ["self"]) (G : GsR mg) (T : Rr K C fCA fNw fTk fNB) : Fn P w K mg base 1 f ["self"] (spTake C) := by
  refine D.ok scTk (fun vs H Q E h => ?_) (fun cdv A outer s0 H vs Q E hr h => ?_)
  · obtain ⟨p, dx, lc, lg, ch, w, gs, tk, num, rfl, _⟩ := h
    rfl
  · obtain ⟨p, dx, lc, lg, ch, w, gs, tk, num, rfl, h3, hb, htk, k⟩ := h
    refine ⟨_, pss_cons (ps_set (i := 1) scTk.nd rfl (Or.inl rfl) pe_int)
      (pss_cons (ps_if (pt_cmpR oc_lt (pe_fld (pv 0) rfl) (pe_callB call_len_seq (by rfl) G.len PySem.boot_len (pa_cons (pe_fld (pv 0) rfl) pa_nil)) (nomark _))
        (pss_cons (ps_set (i := 1) scTk.nd rfl (Or.inl rfl) (pe_ix ix_list (pe_fld (pv 0) rfl) (pe_fld (pv 0) rfl) (fun _ _ => rfl))) (pss_one (ps_fldaug (pv 0) pe_int in_add))) pss_nil)
      (pss_one (ps_fld (pv 0) (pe_op op_add (pe_op op_mul (pe_op op_mod (pe_fld (pv 0) rfl) (pe_gint rfl G.a.least)) pe_int) (pv 1)) rfl))), ?_⟩
    refine seq_by (fun σ H' => ∃ v : Option V, H = H' ∧ σ = [some (.ref p), some (.int 0)]) (fun D' _ kD => kD _ _ ⟨none, rfl, rfl⟩) ?_
    rintro σ H' ⟨_, rfl, rfl⟩
    refine seq_by (fun σ H' => ∃ (tk' b : Nat), tk' ≤ gs.length ∧ gs.drop tk' = (gs.drop tk).drop 1 ∧ b = (gs.drop tk).headD 0 ∧ σ = [some (.ref p), some (.int (b : Nat))] ∧ R3 C H' p dx lc lg ch w gs tk' num ∧ Keep [p, lc, lg] H H') (fun D' _ kD => ?_) ?_
    · refine ⟨_, rfl, p, C, dx, _, _, rfl, h3.o, T.cod.cl, T.nT, rf_t .., _, rfl, p, C, dx, _, _, rfl, h3.o, T.cod.cl, T.nG, rf_g .., _, _, rfl, .inl (SqL.of h3.g), _, _, rfl, rfl, ?_⟩
      by_cases hlt : tk < gs.length
      · refine .inl ⟨(show (tk : Int) < (((nV gs).length : Nat) : Int) by rw [nV_len]; omega), _, rfl, itT rfl ?_⟩
        have hg : gs[tk]? = some gs[tk] := List.getElem?_eq_getElem hlt
        refine ⟨_, rfl, p, C, dx, _, _, rfl, h3.o, T.cod.cl, T.nG, rf_g .., _, rfl, p, C, dx, _, _, rfl, h3.o, T.cod.cl, T.nT, rf_t .., lg, _, _, _, rfl, rfl, SqL.of h3.g, atI_nat (nV_at hg), ?_⟩
        refine ⟨_, rfl, p, C, dx, _, _, rfl, h3.o, T.cod.cl, T.nT, rf_t .., _, _, rfl, rfl, _, _, h3.o, (by show 5 < 1000; decide), ?_⟩
        refine kD _ _ ⟨tk + 1, gs[tk], hlt, ?_, ?_, rfl, h3.setP (rf_setT lc w lg tk num (tk + 1) (z := (tk : Int) + 1) (by omega)), (Keep.refl _ _).upd (by simp)⟩
        · rw [List.drop_drop]
        · rw [drop_head, List.getD_eq_getElem?_getD, hg]
          rfl
      · refine .inr ⟨(show ¬ (tk : Int) < (((nV gs).length : Nat) : Int) by rw [nV_len]; omega), _, rfl, itF rfl ?_⟩
        have ed : gs.drop tk = [] := List.drop_of_length_le (by omega)
        exact kD _ _ ⟨tk, 0, htk, by rw [ed]; rfl, by rw [ed]; rfl, rfl, h3, Keep.refl _ _⟩
    · rintro σ H' ⟨tk', b, h1, h2, hbe, rfl, h4, k4⟩
      have hb2 : b < 256 := by rw [hbe]; exact headD_lt hb
      refine ⟨_, rfl, p, C, dx, _, _, rfl, h4.o, T.cod.cl, T.nN, rf_n .., _, _, rfl, rfl, (by show (0 : Int) < 16777216; decide), _, _, rfl, rfl, .inr ⟨by decide, by decide⟩, _, rfl, _, _, rfl, rfl, _, rfl, p, C, dx, _, rfl, h4.o, T.cod.cl, T.nN, (by show 5 < 1000; decide), ?_⟩
      refine k _ tk' h1 h2 (h4.setP (rf_setN lc w lg tk' num _ ?_)) (k4.upd (by simp))
      rw [← hbe, ← take_far hb2]
      show (num : Int) % 16777216 * 256 + (b : Nat) = _
      omega
theorem scUn : FnScope ["self"] ["self"] (defScope sUnt) := ⟨rfl, rfl, rfl, by decide +kernel, rfl, by decide +kernel, by decide +kernel⟩
theorem ok_unt {f : Addr} (D : Def K "untaken" "Reader.untaken" sUnt f ["self"]) (G : GsR mg) (T : Rr K C fCA fNw fTk fNB) : Fn P w K mg base 1 f ["self"] (spUnt C) := by
  refine D.ok scUn (fun vs H Q E h => ?_) (fun cdv A outer s0 H vs Q E hr h => ?_)
  · obtain ⟨p, dx, lc, lg, s, rfl, _⟩ := h
    rfl
  · obtain ⟨p, dx, lc, lg, s, rfl, ⟨gs, tk, h3, er, htk⟩, k⟩ := h
    refine ⟨_, pss_one (ps_ret (pe_op op_sub (pe_callB call_len_seq (by rfl) G.len PySem.boot_len (pa_cons (pe_fld (pv 0) rfl) pa_nil)) (pe_fld (pv 0) rfl))), ?_⟩
    refine ⟨_, rfl, p, C, dx, _, _, rfl, h3.o, T.cod.cl, T.nG, rf_g .., _, _, rfl, .inl (SqL.of h3.g), _, rfl, p, C, dx, _, _, rfl, h3.o, T.cod.cl, T.nT, rf_t .., _, _, rfl, rfl, ?_⟩
    refine qI (Q := Q) ?_ k
    rw [er, List.length_drop, nV_len]
    omega
theorem scRI : FnScope ["self", "k", "given", "turn"] ["self", "k", "given"] (defScope sRInit) := ⟨rfl, rfl, rfl, by decide +kernel, rfl, by decide +kernel, by decide +kernel⟩
theorem ok_rinit {f fI : Addr} (D : Def K "__init__" "Reader.__init__" sRInit f ["self", "k", "given"]) (G : GsR mg) (T : Rr K C fCA fNw fTk fNB) (mC : mg "Coder" = some (.ref cC)) (MC : CMeth K cC "__init__" fI mc) (FI : Fn P w K mg base 1 fI ["self", "k"] (spCInit K fCA fNw))
    (FT : Fn P w K mg base 1 fTk ["self"] (spTake C)) : Fn P w K mg base 2 f ["self", "k", "given"] (spRInit C) := by
  refine D.ok scRI (fun vs H Q E h => ?_) (fun cdv A outer s H vs Q E hr h => ?_)
  · obtain ⟨p, dx, lg, k, gs, rfl, _⟩ := h
    rfl
  · obtain ⟨p, dx, lg, k, gs, rfl, hp, hk, hlg, hbs, kk⟩ := h
    refine ⟨_, pss_cons (ps_expr (pe_cmethN rfl mC MC FI hr (pa_cons (pv 0) (pa_cons (pv 1) pa_nil)))) (pss_cons (ps_fld (pv 0) (pv 2) rfl) (pss_cons (ps_fld (pv 0) pe_int rfl) (pss_cons (ps_fld (pv 0) pe_int rfl)
      (pss_one (ps_for PassesOwn.never rfl (pi_range1 rfl G.range (pa_cons (pe_gint rfl G.fb) pa_nil)) (pg_name (i := 3) scRI.nd rfl (Or.inl rfl)) (pss_one (ps_expr (pe_methN0 (pv 0) T.cod.cl T.mTk FT hr)))))))), ?_⟩
    refine ⟨_, rfl, _, rfl, C, p, dx, k, rfl, hp, T.cod, hk, fun H1 lc nlc h1 h2 k1 => ?_⟩
    have npg : p ≠ lg := ne_of hp hlg (by intro z; cases z)
    have ncp : lc ≠ p := fun z => by rw [z, hp] at nlc; cases nlc
    have ncg : lc ≠ lg := fun z => by rw [z, hlg] at nlc; cases nlc
    have hg1 : H1 lg = some (il gs) := k1 _ _ hlg (by simpa using Ne.symm npg)
    refine ⟨_, rfl, _, rfl, p, C, dx, _, rfl, h1, T.cod.cl, T.nG, (by show 2 < 1000; decide), ?_⟩
    refine ⟨_, rfl, p, C, dx, _, rfl, upd_same, T.cod.cl, T.nT, (by show 3 < 1000; decide), ?_⟩
    refine ⟨_, rfl, p, C, dx, _, rfl, upd_same, T.cod.cl, T.nN, (by show 4 < 1000; decide), ?_⟩
    refine ⟨4, rfl, by decide, by decide, for_range (n := 4) (fun i σ H' => ∃ (v : Option V) (tk : Nat), σ = [some (.ref p), some (.int (k : Int)), some (.ref lg), v] ∧ tk ≤ gs.length ∧ gs.drop tk = gs.drop i ∧ R3 C H' p dx lc lg (List.replicate k 1024) 4294967295 gs tk (fb gs i) ∧ Keep [p, lc, lg] H1 H') ?_ ?_ ?_⟩
    · refine ⟨none, 0, rfl, Nat.zero_le _, rfl, ⟨Eq.trans upd_same rfl, ?_, ?_, ncg⟩, (((Keep.refl [p, lc, lg] H1).upd (by simp)).upd (by simp)).upd (by simp)⟩
      · rw [upd_ne ncp, upd_ne ncp, upd_ne ncp]; exact h2
      · rw [upd_ne (Ne.symm npg), upd_ne (Ne.symm npg), upd_ne (Ne.symm npg)]; exact hg1
    · rintro i σ H' hi ⟨v, tk, rfl, htk, hd, h4, k4⟩
      refine ⟨_, rfl, p, dx, _, rfl, h4.o, rf_no .., p, dx, lc, lg, _, _, gs, tk, _, rfl, h4, (fun b hb => hbs b (List.mem_of_mem_drop hb)), htk, fun H5 tk' h5 h6 h7 k7 => ?_⟩
      refine ⟨_, tk', rfl, h5, by rw [h6, hd, List.drop_drop], ?_, k4.trans k7⟩
      rw [hd, drop_head] at h7
      have hlt := fb_lt hbs (i + 1)
      have e : (256 * fb gs i + gs.getD i 0) % 2 ^ 32 = fb gs (i + 1) := by
        rw [← fb_succ]
        refine Nat.mod_eq_of_lt (Nat.lt_of_lt_of_le hlt ?_)
        calc 256 ^ (i + 1) ≤ 256 ^ 4 := Nat.pow_le_pow_right (by decide) (by omega)
          _ ≤ 2 ^ 32 := by decide
      rw [e] at h7
      exact h7
    · rintro σ H' ⟨v, tk, rfl, htk, hd, h4, k4⟩
      refine kk H' lc nlc ⟨gs, tk, h4, hd.symm, htk⟩ ?_
      intro b o e hb
      have hb : b ≠ p := by simpa using hb
      by_cases hbg : b = lg
      · rw [hbg] at e ⊢
        rw [hlg] at e
        cases e
        exact h4.g
      · have hbc : b ≠ lc := fun z => by rw [z, nlc] at e; cases e
        exact k4 b o (k1 b o e (by simpa using hb)) (by simp only [List.mem_cons, List.not_mem_nil, or_false, not_or]; exact ⟨hb, hbc, hbg⟩)
end
end Cb

end
section
set_option Elab.async false
set_option linter.all false
set_option maxRecDepth 100000
set_option maxHeartbeats 2000000
namespace Cb
open PySem PySem.Spec PyProof.Rows L2
section
variable {P : Program} {w : World} {K : PySem.W.Frag} {mg : Str → Option Value} {base : Heap} {C cC fCA fNw fTk fNB : Addr} {mc : Value}
theorem scNB : FnScope ["self", "c", "part", "bit"] ["self", "c"] (defScope sNBit) := ⟨rfl, rfl, rfl, by decide +kernel, rfl, by decide +kernel, by decide +kernel⟩
theorem ok_nbit {f fP : Addr} (D : Def K "next_bit" "Reader.next_bit" sNBit f ["self", "c"]) (G : GsR mg) (T : Rr K C fCA fNw fTk fNB) (mP : mg "part_of" = some (.ref fP)) (FP : Fn P w K mg base 1 fP ["width", "chance"] spPart)
    (FC : Fn P w K mg base 1 fCA ["self", "c"] (spChAt K fCA fNw)) (FN : Fn P w K mg base 3 fNw ["self", "c", "bit"] (spNarrow K fCA fNw)) (FT : Fn P w K mg base 1 fTk ["self"] (spTake C)) : Fn P w K mg base 4 f ["self", "c"] (spNBit C) := by
  refine D.ok scNB (fun vs H Q E h => ?_) (fun cdv A outer s0 H vs Q E hr h => ?_)
  · obtain ⟨p, dx, lc, lg, s, c, o, rfl, _⟩ := h
    rfl
  · obtain ⟨p, dx, lc, lg, s, c, o, rfl, ⟨gs, tk, h3, er, htk⟩, inv, e, k⟩ := h
    have hr1 : Room 1 _ := hr.mono (by decide)
    have ho := chOf_ok inv.ch e
    obtain ⟨bt, hbt⟩ : ∃ bt, bt = bitI s o := ⟨_, rfl⟩
    obtain ⟨nw, hN⟩ : ∃ nw, nw = narrowI s c o := ⟨_, rfl⟩
    obtain ⟨gw, hG⟩ : ∃ gw, gw = shiftI nw := ⟨_, rfl⟩
    have es : stepIn s c = (bt, gw) := by rw [hG, hN, hbt]; exact stepIn_eq inv e
    have gi : IInv gw := by rw [hG, hN]; exact (stepIn_inv inv e).1
    have gA : nw.width < 16777216 → gw = shift1 nw := fun q => by rw [hG]; unfold shiftI; rw [if_pos q]
    have gB : ¬ nw.width < 16777216 → gw = nw := fun q => by rw [hG]; unfold shiftI; rw [if_neg q]
    have nfar : nw.far = s.far - (if bt = 0 then 0 else partN s.width o) := by rw [hN, hbt]; rfl
    have nrs : nw.rest = s.rest := by rw [hN]; rfl
    have nwd : widthN s.width o bt = nw.width := by rw [hN, hbt]; rfl
    have nch : setCh s.chances c o bt = nw.chances := by rw [hN, hbt]; rfl
    have hb0 : s.far < partN s.width o → bt = 0 := fun q => by rw [hbt]; unfold bitI; rw [if_pos q]
    have hb1 : ¬ s.far < partN s.width o → bt = 1 := fun q => by rw [hbt]; unfold bitI; rw [if_neg q]
    have gw1 := gi.w.1
    clear hG hN hbt
    rw [es] at k
    have k : ∀ H' : Hp, RO C H' p dx lc lg gw → Keep [p, lc, lg] H H' → Q (.int (bt : Nat)) H' := k
    refine ⟨_, pss_cons (ps_set (i := 2) scNB.nd rfl (Or.inl rfl) (pe_callN FP hr1 rfl mP (pa_cons (pe_fld (pv 0) rfl) (pa_cons (pe_methN (pv 0) T.cod.cl T.cod.mCh FC hr1 (pa_cons (pv 1) pa_nil)) pa_nil))))
      (pss_cons (ps_set (i := 3) scNB.nd rfl (Or.inl rfl) pe_int)
      (pss_cons (ps_if (pt_cmpR oc_ge (pe_fld (pv 0) rfl) (pv 2) (nomark _)) (pss_cons (ps_set (i := 3) scNB.nd rfl (Or.inl rfl) pe_int) (pss_one (ps_fldaug (pv 0) (pv 2) in_sub))) pss_nil)
      (pss_cons (ps_expr (pe_methN (pv 0) T.cod.cl T.cod.mN FN hr (pa_cons (pv 1) (pa_cons (pv 3) pa_nil))))
      (pss_cons (ps_while PassesOwn.never (pt_cmpR oc_lt (pe_fld (pv 0) rfl) (pe_gint rfl G.a.least) (nomark _)) (pss_cons (ps_fld (pv 0) (pe_op op_mul (pe_fld (pv 0) rfl) pe_int) rfl) (pss_one (ps_expr (pe_methN0 (pv 0) T.cod.cl T.mTk FT hr1)))))
      (pss_one (ps_ret (pv 3))))))), ?_⟩
    refine seq_by (fun σ H' => H = H' ∧ σ = [some (.ref p), some (oN c), some (.int (partN s.width o : Nat)), none]) (fun D' _ kD => ?_) ?_
    · refine ⟨_, rfl, p, C, dx, _, _, rfl, h3.o, T.cod.cl, T.cod.nW, rf_w .., _, rfl, p, dx, _, rfl, h3.o, rf_no .., _, rfl, C, p, dx, _, lc, _, _, c, o, rfl, T.cod, h3.cat, e, ?_⟩
      refine ⟨s.width, o, rfl, inv.w.2, ?_⟩
      exact kD _ _ ⟨rfl, rfl⟩
    rintro σ H' ⟨rfl, rfl⟩
    refine seq_by (fun σ H' => H = H' ∧ σ = [some (.ref p), some (oN c), some (.int (partN s.width o : Nat)), some (.int 0)]) (fun D' _ kD => ?_) ?_
    · exact kD _ _ ⟨rfl, rfl⟩
    rintro σ H' ⟨rfl, rfl⟩
    refine seq_by (fun σ H' => σ = [some (.ref p), some (oN c), some (.int (partN s.width o : Nat)), some (.int (bt : Nat))] ∧ R3 C H' p dx lc lg s.chances s.width gs tk nw.far ∧ Keep [p, lc, lg] H H') (fun D' _ kD => ?_) ?_
    · refine ⟨_, rfl, p, C, dx, _, _, rfl, h3.o, T.cod.cl, T.nN, rf_n .., _, rfl, _, _, rfl, rfl, ?_⟩
      rcases Nat.lt_or_ge s.far (partN s.width o) with hq | hq
      · obtain rfl : bt = 0 := hb0 hq
        refine .inr ⟨(show ¬ ((partN s.width o : Nat) : Int) ≤ (s.far : Int) by omega), _, rfl, itF rfl ?_⟩
        refine kD _ _ ⟨rfl, ?_, Keep.refl _ _⟩
        rw [nfar, if_pos rfl]
        exact h3
      · obtain rfl : bt = 1 := hb1 (by omega)
        refine .inl ⟨(show ((partN s.width o : Nat) : Int) ≤ (s.far : Int) by omega), _, rfl, itT rfl ?_⟩
        refine ⟨_, rfl, p, C, dx, _, _, rfl, h3.o, T.cod.cl, T.nN, rf_n .., _, rfl, _, _, rfl, rfl, _, _, h3.o, (by show 5 < 1000; decide), ?_⟩
        refine kD _ _ ⟨rfl, h3.setP (rf_setN lc s.width lg tk s.far nw.far ?_), (Keep.refl _ _).upd (by simp)⟩
        rw [nfar, if_neg (by decide)]
        omega
    · rintro σ H1 ⟨rfl, h4, k1⟩
      refine seq_by (fun σ H' => σ = [some (.ref p), some (oN c), some (.int (partN s.width o : Nat)), some (.int (bt : Nat))] ∧ R3 C H' p dx lc lg nw.chances nw.width gs tk nw.far ∧ Keep [p, lc, lg] H H') (fun D' _ kD => ?_) ?_
      · refine ⟨_, rfl, p, dx, _, rfl, h4.o, rf_no .., _, rfl, _, rfl, C, p, dx, _, lc, _, _, c, o, bt, rfl, T.cod, h4.cat, e, ho, inv.w.2, fun H2 a1 a2 a3 => ?_⟩
        have h5 := h4.after a1 a2 a3
        rw [nwd, nch] at h5
        exact kD _ _ ⟨rfl, h5, k1.trans (a3.mono (by simp))⟩
      rintro σ H2 ⟨rfl, h5, k2⟩
      refine seq_by (fun σ H' => σ = [some (.ref p), some (oN c), some (.int (partN s.width o : Nat)), some (.int (bt : Nat))] ∧ RO C H' p dx lc lg gw ∧ Keep [p, lc, lg] H H') (fun D' _ kD => ?_) ?_
      · refine ⟨fun m σ H' => σ = [some (.ref p), some (oN c), some (.int (partN s.width o : Nat)), some (.int (bt : Nat))] ∧ Keep [p, lc, lg] H H' ∧ ((m = 1 ∧ R3 C H' p dx lc lg nw.chances nw.width gs tk nw.far) ∨ (m = 0 ∧ RO C H' p dx lc lg gw)), ⟨1, rfl, k2, .inl ⟨rfl, h5⟩⟩, ?_⟩
        rintro m σ H' ⟨rfl, k3, ⟨rfl, h6⟩ | ⟨rfl, gs2, tk2, h6, er2, htk2⟩⟩
        · refine ⟨_, rfl, p, C, dx, _, _, rfl, h6.o, T.cod.cl, T.cod.nW, rf_w .., _, _, rfl, rfl, ?_⟩
          rcases Nat.lt_or_ge nw.width 16777216 with hw | hw
          · refine .inl ⟨(show ((nw.width : Nat) : Int) < 16777216 by omega), _, rfl, itT rfl ?_⟩
            refine ⟨fun σ' H'' => σ' = [some (.ref p), some (oN c), some (.int (partN s.width o : Nat)), some (.int (bt : Nat))] ∧ Keep [p, lc, lg] H H'' ∧ RO C H'' p dx lc lg gw, fun σ' H'' ⟨q1, q2, q3⟩ => ⟨0, by omega, q1, q2, .inr ⟨rfl, q3⟩⟩, ?_⟩
            refine ⟨_, rfl, p, C, dx, _, _, rfl, h6.o, T.cod.cl, T.cod.nW, rf_w .., _, _, rfl, rfl, .inr ⟨by decide, by decide⟩, _, rfl, p, C, dx, _, rfl, h6.o, T.cod.cl, T.cod.nW, (by show 5 < 1000; decide), ?_⟩
            have h7 := h6.setP (w' := 256 * nw.width) (tk' := tk) (num' := nw.far) (rf_setW lc nw.width lg tk nw.far (256 * nw.width) (z := ((nw.width : Nat) : Int) * 256) (by omega))
            have k7 := k3.upd (x := p) (o := .ins C dx (putF "width" (.int (((nw.width : Nat) : Int) * 256)) (rf lc nw.width lg tk nw.far))) (by simp)
            refine ⟨_, rfl, p, dx, _, rfl, h7.o, rf_no .., p, dx, lc, lg, _, _, gs, tk, _, rfl, h7, (by rw [← er]; exact inv.bs), htk, fun H8 tk' h8 h9 h10 k10 => ?_⟩
            refine ⟨rfl, k7.trans k10, ?_⟩
            rw [gA hw]
            refine ⟨gs, tk', ?_, ?_, h8⟩
            · rw [← er, ← nrs] at h10
              exact h10
            · show nw.rest.drop 1 = _
              rw [h9, ← er, nrs]
          · refine .inr ⟨(show ¬ ((nw.width : Nat) : Int) < 16777216 by omega), _, rfl, itF rfl ?_⟩
            refine kD _ _ ⟨rfl, ?_, k3⟩
            rw [gB (by omega)]
            exact ⟨gs, tk, h6, nrs.trans er, htk⟩
        · refine ⟨_, rfl, p, C, dx, _, _, rfl, h6.o, T.cod.cl, T.cod.nW, rf_w .., _, _, rfl, rfl, ?_⟩
          refine .inr ⟨(show ¬ ((gw.width : Nat) : Int) < 16777216 by omega), _, rfl, itF rfl ?_⟩
          exact kD _ _ ⟨rfl, ⟨gs2, tk2, h6, er2, htk2⟩, k3⟩
      · rintro σ H' ⟨rfl, h6, k3⟩
        refine ⟨_, rfl, ?_⟩
        exact k H' h6 k3
theorem scNE : FnScope ["self", "n", "x", "turn"] ["self", "n"] (defScope sNEven) := ⟨rfl, rfl, rfl, by decide +kernel, rfl, by decide +kernel, by decide +kernel⟩
theorem ok_neven {f : Addr} (D : Def K "next_even" "Reader.next_even" sNEven f ["self", "n"]) (G : GsR mg) (T : Rr K C fCA fNw fTk fNB) (FB : Fn P w K mg base 4 fNB ["self", "c"] (spNBit C)) : Fn P w K mg base 5 f ["self", "n"] (spNEven C) := by
  refine D.ok scNE (fun vs H Q E h => ?_) (fun cdv A outer s0 H vs Q E hr h => ?_)
  · obtain ⟨p, dx, lc, lg, s, n, rfl, _⟩ := h
    rfl
  · obtain ⟨p, dx, lc, lg, s, n, rfl, ro, inv, hn, k⟩ := h
    refine ⟨_, pss_cons (ps_set (i := 2) scNE.nd rfl (Or.inl rfl) pe_int)
      (pss_cons (ps_for PassesOwn.never rfl (pi_range1 rfl G.range (pa_cons (pv 1) pa_nil)) (pg_name (i := 3) scNE.nd rfl (Or.inl rfl))
        (pss_one (ps_set (i := 2) scNE.nd rfl (Or.inl rfl) (pe_op op_add (pe_op op_mul (pv 2) pe_int) (pe_methN (pv 0) T.cod.cl T.mNB FB hr (pa_cons pe_non pa_nil))))))
      (pss_one (ps_ret (pv 2)))), ?_⟩
    refine ⟨_, rfl, (n : Int), rfl, by omega, by omega, ?_⟩
    rw [show ((n : Int)).toNat = n from Int.toNat_natCast n]
    refine for_range (n := n) (fun i σ H' => ∃ (v : Option V) (x : Nat) (si : Rb16.In), σ = [some (.ref p), some (.int (n : Nat)), some (.int (x : Nat)), v] ∧ Rb16.getEven (n - i) x si = Rb16.getEven n 0 s ∧ RO C H' p dx lc lg si ∧ IInv si ∧ Keep [p, lc, lg] H H')
      ⟨none, 0, s, rfl, rfl, ro, inv, Keep.refl _ _⟩ ?_ ?_
    · rintro i σ H' hi ⟨v, x, si, rfl, eg, ro1, inv1, k1⟩
      obtain ⟨gs, tk, h3, er, htk⟩ := id ro1
      refine ⟨_, rfl, _, _, rfl, rfl, .inr ⟨by decide, by decide⟩, _, rfl, p, dx, _, rfl, h3.o, rf_no .., p, dx, lc, lg, si, none, none, rfl, ro1, inv1, rfl, fun H2 ro2 k2 => ?_⟩
      have e2 := stepIn_eq (c := none) (o := none) inv1 rfl
      have i2 := (stepIn_inv (c := none) (o := none) inv1 rfl).1
      refine ⟨_, _, rfl, rfl, some (.int (0 + (i : Nat))), 2 * x + (stepIn si none).1, (stepIn si none).2, ?_, ?_, ro2, ?_, k1.trans k2⟩
      · show [some (V.ref p), some (V.int (n : Nat)), some (V.int ((x : Nat) * 2 + ((stepIn si none).1 : Nat))), some (.int (0 + (i : Nat)))] = _
        rw [show (((x : Nat) : Int) * 2 + (((stepIn si none).1 : Nat) : Int)) = ((2 * x + (stepIn si none).1 : Nat) : Int) by omega]
      · rw [← eg, show n - i = (n - (i + 1)) + 1 by omega]
        rfl
      · rw [e2]; exact i2
    · rintro σ H' ⟨v, x, si, rfl, eg, ro1, inv1, k1⟩
      rw [Nat.sub_self] at eg
      have eg : (x, si) = Rb16.getEven n 0 s := eg
      rw [← eg] at k
      refine ⟨_, rfl, ?_⟩
      exact k H' ro1 k1
theorem scNT : FnScope ["self", "c", "n", "m", "turn"] ["self", "c", "n"] (defScope sNTree) := ⟨rfl, rfl, rfl, by decide +kernel, rfl, by decide +kernel, by decide +kernel⟩
theorem ok_ntree {f : Addr} (D : Def K "next_tree" "Reader.next_tree" sNTree f ["self", "c", "n"]) (G : GsR mg) (T : Rr K C fCA fNw fTk fNB) (FB : Fn P w K mg base 4 fNB ["self", "c"] (spNBit C)) : Fn P w K mg base 5 f ["self", "c", "n"] (spNTree C) := by
  refine D.ok scNT (fun vs H Q E h => ?_) (fun cdv A outer s0 H vs Q E hr h => ?_)
  · obtain ⟨p, dx, lc, lg, s, c, n, rfl, _⟩ := h
    rfl
  · obtain ⟨p, dx, lc, lg, s, c, n, rfl, ro, inv, hn, hfit, k⟩ := h
    refine ⟨_, pss_cons (ps_set (i := 3) scNT.nd rfl (Or.inl rfl) pe_int)
      (pss_cons (ps_for PassesOwn.never rfl (pi_range1 rfl G.range (pa_cons (pv 2) pa_nil)) (pg_name (i := 4) scNT.nd rfl (Or.inl rfl))
        (pss_one (ps_set (i := 3) scNT.nd rfl (Or.inl rfl) (pe_op op_add (pe_op op_mul (pv 3) pe_int) (pe_methN (pv 0) T.cod.cl T.mNB FB hr (pa_cons (pe_op op_sub (pe_op op_add (pv 1) (pv 3)) pe_int) pa_nil))))))
      (pss_one (ps_ret (pe_op op_sub (pv 3) (pe_op op_shl pe_int (pv 2)))))), ?_⟩
    refine ⟨_, rfl, (n : Int), rfl, by omega, by omega, ?_⟩
    rw [show ((n : Int)).toNat = n from Int.toNat_natCast n]
    have h1n : 1 ≤ 2 ^ n := Nat.one_le_two_pow
    refine for_range (n := n) (fun i σ H' => ∃ (v : Option V) (m : Nat) (si : Rb16.In), i ≤ n ∧ σ = [some (.ref p), some (.int (c : Nat)), some (.int (n : Nat)), some (.int (m : Nat)), v] ∧ Rb16.getTree (n - i) c m si = Rb16.getTree n c 1 s ∧ 1 ≤ m ∧
      (m + 1) * 2 ^ (n - i) + 2 * c ≤ 2 * si.chances.length + 2 ∧ RO C H' p dx lc lg si ∧ IInv si ∧ Keep [p, lc, lg] H H')
      ⟨none, 1, s, Nat.zero_le _, rfl, rfl, Nat.le_refl _, by show 2 * 2 ^ n + 2 * c ≤ _; omega, ro, inv, Keep.refl _ _⟩ ?_ ?_
    · rintro i σ H' hi ⟨v, m, si, _, rfl, eg, hm, hf, ro1, inv1, k1⟩
      obtain ⟨gs, tk, h3, er, htk⟩ := id ro1
      obtain ⟨j, hj⟩ : ∃ j, n - i = j + 1 := ⟨n - i - 1, by omega⟩
      have hp2 : (m + 1) * 2 ^ (n - i) = 2 * (m + 1) * 2 ^ j := by rw [hj, Nat.pow_succ, Nat.mul_comm (2 ^ j) 2, ← Nat.mul_assoc, Nat.mul_comm (m + 1) 2]
      have h2j : 1 ≤ 2 ^ j := Nat.one_le_two_pow
      rw [hp2] at hf
      have hlt : c + (m - 1) < si.chances.length := by
        have : 2 * (m + 1) * 1 ≤ 2 * (m + 1) * 2 ^ j := Nat.mul_le_mul_left _ h2j
        omega
      obtain ⟨u, _, ev⟩ := chOf_lt hlt
      refine ⟨_, rfl, _, _, rfl, rfl, .inr ⟨by decide, by decide⟩, _, rfl, p, dx, _, rfl, h3.o, rf_no .., _, rfl, _, rfl, _, _, rfl, rfl, _, _, rfl, rfl, p, dx, lc, lg, si, some (c + (m - 1)), some u, ?_, ro1, inv1, ev, fun H2 ro2 k2 => ?_⟩
      · show [V.ref p, V.int ((c : Nat) + (m : Nat) - 1)] = [V.ref p, V.int ((c + (m - 1) : Nat) : Int)]
        rw [show (((c : Nat) : Int) + (m : Nat) - 1) = ((c + (m - 1) : Nat) : Int) by omega]
      have e2 := stepIn_eq inv1 ev
      obtain ⟨i2, l2⟩ := stepIn_inv inv1 ev
      have hb := bitI_le si (some u)
      have eb : (stepIn si (some (c + (m - 1)))).1 = bitI si (some u) := by rw [e2]
      have el : (stepIn si (some (c + (m - 1)))).2.chances.length = si.chances.length := by rw [e2]; exact l2
      refine ⟨_, _, rfl, rfl, some (.int (0 + (i : Nat))), 2 * m + (stepIn si (some (c + (m - 1)))).1, (stepIn si (some (c + (m - 1)))).2, by omega, ?_, ?_, by omega, ?_, ro2, ?_, k1.trans k2⟩
      · show [some (V.ref p), some (V.int (c : Nat)), some (V.int (n : Nat)), some (V.int ((m : Nat) * 2 + ((stepIn si (some (c + (m - 1)))).1 : Nat))), some (.int (0 + (i : Nat)))] = _
        rw [show (((m : Nat) : Int) * 2 + (((stepIn si (some (c + (m - 1)))).1 : Nat) : Int)) = ((2 * m + (stepIn si (some (c + (m - 1)))).1 : Nat) : Int) by omega]
      · rw [← eg, hj, show n - (i + 1) = j by omega]
        rfl
      · rw [el, show n - (i + 1) = j by omega, eb]
        have : (2 * m + bitI si (some u) + 1) * 2 ^ j ≤ (2 * (m + 1)) * 2 ^ j := Nat.mul_le_mul_right _ (by omega)
        omega
      · rw [e2]; exact i2
    · rintro σ H' ⟨v, m, si, _, rfl, eg, hm, hf, ro1, inv1, k1⟩
      rw [Nat.sub_self] at eg
      have eg : (m, si) = Rb16.getTree n c 1 s := eg
      rw [← eg] at k
      refine ⟨_, rfl, _, rfl, _, _, rfl, rfl, ⟨by omega, by omega, by decide⟩, _, _, rfl, rfl, ?_⟩
      refine qI (Q := Q) ?_ (k H' ro1 k1)
      show ((m : Nat) : Int) - 1 * 2 ^ ((n : Int)).toNat = ((m : Nat) : Int) - 2 ^ n
      rw [Int.toNat_natCast, Int.one_mul]
end
end Cb

end
section
set_option Elab.async false
set_option linter.all false
set_option maxRecDepth 100000
set_option maxHeartbeats 2000000
namespace Cb
open PySem PySem.Spec PyProof.Rows L2

/-! ### the desk -/
/-- the addresses that the desk's defs speak of -/
structure Ad where
  (cW cR cD fCA fNw fLB fTS fSk fCy fGr fTl fWt fTk fNB fNE fNT fUn fWs fDT : Addr)
structure TyOk (K : PySem.W.Frag) (C : Addr) : Prop where
  ha : PySem.W.findIn K (.ref C) "__class__" = some (some (.builtin "object.__class__"))
  hn : PySem.W.specialIn K (.builtin "object.__class__") "__get__" = some (some (.builtin "getset_descriptor.__get__"))
  htk : PySem.W.takesIn K (.builtin "object.__class__") = some true
  hm : PySem.W.mroIn K C (.type "object") = some true
structure Dk (K : PySem.W.Frag) (A : Ad) : Prop where
  cl : Cls K A.cD
  nC : NoAttr K A.cD "coder"
  mWs : Meth K A.cD "writes" A.fWs
  mDT : Meth K A.cD "tell" A.fDT
  wr : Wr K A.cW A.fCA A.fNw A.fLB A.fTS A.fSk A.fCy A.fGr
  mTl : Meth K A.cW "tell" A.fTl
  mWt : Meth K A.cW "written" A.fWt
  rr : Rr K A.cR A.fCA A.fNw A.fTk A.fNB
  mNE : Meth K A.cR "next_even" A.fNE
  mNT : Meth K A.cR "next_tree" A.fNT
  mUn : Meth K A.cR "untaken" A.fUn
  tyW : TyOk K A.cW
  tyR : TyOk K A.cR
  kitW : PySem.W.kitOne K (.ref A.cW) (.ref A.cW) = some true
  kitR : PySem.W.kitOne K (.ref A.cR) (.ref A.cW) = some false
structure GsD (mg : Str → Option Value) (A : Ad) : Prop where
  done : IntG mg "DONE" 0
  noroom : IntG mg "NO_ROOM" (-1)
  refused : IntG mg "REFUSED" (-2)
  mch : IntG mg "MOST_CHANCES" 4096
  mgiv : IntG mg "MOST_GIVEN" 20000
  mev : IntG mg "MOST_EVEN_BITS" 32
  men : IntG mg "MOST_EVEN_NUMBER" 4294967295
  mtr : IntG mg "MOST_TREE_BITS" 12
  opc : IntG mg "OPEN_CALL" 5
  len : mg "len" = none
  isi : mg "isinstance" = none
  all : mg "all" = none
  cW : mg "Writer" = some (.ref A.cW)
  cR : mg "Reader" = some (.ref A.cR)
  cD : mg "Desk" = some (.ref A.cD)
abbrev sDInit : Stmt := inClass (top 30) 0
abbrev sWs : Stmt := inClass (top 30) 1
abbrev sDT : Stmt := inClass (top 30) 2
abbrev sICC : Stmt := top 31
abbrev sIC : Stmt := top 32
abbrev sIEC : Stmt := top 33
abbrev sIT : Stmt := top 34
def df (p : Addr) : List (Str × V) := [("coder", .ref p)]
theorem df_c (p : Addr) : (df p).lookup ("coder" : Str) = some (.ref p) := rfl
theorem df_no (p : Addr) {m : Str} (h1 : (m == "coder") = false := by decide +kernel) : (df p).lookup m = none := by
  unfold df
  simp only [List.lookup, h1]
theorem df_set (p q : Addr) : putF "coder" (.ref q) (df p) = df q := rfl
/-- the desk at d, its object, and where they stand -/
inductive DeskW (A : Ad) (H : Hp) (d : Addr) (s : Rb16.Out) (fp : List Addr) : Prop where
  | mk (dd p dx lc lh : Addr) : fp = [d, p, lc, lh] → H d = some (.ins A.cD dd (df p)) → WO A.cW H p dx lc lh s → OInv s → DeskW A H d s fp
inductive DeskR (A : Ad) (H : Hp) (d : Addr) (s : Rb16.In) (fp : List Addr) : Prop where
  | mk (dd p dx lc lg : Addr) : fp = [d, p, lc, lg] → H d = some (.ins A.cD dd (df p)) → RO A.cR H p dx lc lg s → IInv s → DeskR A H d s fp
def DeskAt (A : Ad) (H : Hp) (d : Addr) (S : Rb16.State) (fp : List Addr) : Prop := match S with
  | .writing s => DeskW A H d s fp
  | .reading s => DeskR A H d s fp
def isW : Rb16.State → Bool
  | .writing _ => true
  | .reading _ => false
theorem DeskAt.tracked {A : Ad} {H : Hp} {d : Addr} {S : Rb16.State} {fp : List Addr} (D : DeskAt A H d S fp) : ∀ b ∈ fp, ∃ o, H b = some o := by
  intro b hb
  cases S with
  | writing s =>
    obtain ⟨dd, p, dx, lc, lh, rfl, h1, ⟨hi, lo, h2, _⟩, _⟩ := D
    simp only [List.mem_cons, List.not_mem_nil, or_false] at hb
    rcases hb with rfl | rfl | rfl | rfl
    · exact ⟨_, h1⟩
    · exact ⟨_, h2.o⟩
    · exact ⟨_, h2.c⟩
    · exact ⟨_, h2.h⟩
  | reading s =>
    obtain ⟨dd, p, dx, lc, lg, rfl, h1, ⟨gs, tk, h2, _⟩, _⟩ := D
    simp only [List.mem_cons, List.not_mem_nil, or_false] at hb
    rcases hb with rfl | rfl | rfl | rfl
    · exact ⟨_, h1⟩
    · exact ⟨_, h2.o⟩
    · exact ⟨_, h2.c⟩
    · exact ⟨_, h2.g⟩
theorem WO.same {C : Addr} {H H' : Hp} {p dx lc lh : Addr} {s : Rb16.Out} (w : WO C H p dx lc lh s) (k : ∀ b ∈ [p, lc, lh], ∀ o, H b = some o → H' b = some o) : WO C H' p dx lc lh s := by
  obtain ⟨hi, lo, h, r⟩ := w
  exact ⟨hi, lo, ⟨k _ (by simp) _ h.o, k _ (by simp) _ h.c, k _ (by simp) _ h.h, h.ne⟩, r⟩
theorem RO.same {C : Addr} {H H' : Hp} {p dx lc lg : Addr} {s : Rb16.In} (w : RO C H p dx lc lg s) (k : ∀ b ∈ [p, lc, lg], ∀ o, H b = some o → H' b = some o) : RO C H' p dx lc lg s := by
  obtain ⟨gs, tk, h, r1, r2⟩ := w
  exact ⟨gs, tk, ⟨k _ (by simp) _ h.o, k _ (by simp) _ h.c, k _ (by simp) _ h.g, h.ne⟩, r1, r2⟩
theorem DeskAt.same {A : Ad} {H H' : Hp} {d : Addr} {S : Rb16.State} {fp : List Addr} (D : DeskAt A H d S fp) (k : ∀ b ∈ fp, ∀ o, H b = some o → H' b = some o) : DeskAt A H' d S fp := by
  cases S with
  | writing s =>
    obtain ⟨dd, p, dx, lc, lh, rfl, h1, h2, h3⟩ := D
    exact ⟨dd, p, dx, lc, lh, rfl, k _ (by simp) _ h1, h2.same fun b hb o e => k b (by simp only [List.mem_cons] at hb ⊢; exact .inr hb) o e, h3⟩
  | reading s =>
    obtain ⟨dd, p, dx, lc, lg, rfl, h1, h2, h3⟩ := D
    exact ⟨dd, p, dx, lc, lg, rfl, k _ (by simp) _ h1, h2.same fun b hb o e => k b (by simp only [List.mem_cons] at hb ⊢; exact .inr hb) o e, h3⟩
theorem DeskAt.keep {A : Ad} {H H' : Hp} {d : Addr} {S : Rb16.State} {fp : List Addr} (D : DeskAt A H d S fp) (k : Keep [] H H') : DeskAt A H' d S fp := D.same fun b _ o e => k b o e (by simp)
/-- what the desk's defs read of it -/
inductive DView (K : PySem.W.Frag) (A : Ad) (H : Hp) (d : Addr) (S : Rb16.State) : Prop where
  | mk (dd p C dx : Addr) (fs : List (Str × V)) (lc : Addr) (w : Nat) : H d = some (.ins A.cD dd (df p)) → Cod K C A.fCA A.fNw → CAt H C p dx fs lc S.chances w → TyOk K C → PySem.W.kitOne K (.ref C) (.ref A.cW) = some (isW S) → DView K A H d S
theorem DeskAt.view {K : PySem.W.Frag} {A : Ad} {H : Hp} {d : Addr} {S : Rb16.State} {fp : List Addr} (T : Dk K A) (D : DeskAt A H d S fp) : DView K A H d S := by
  cases S with
  | writing s =>
    obtain ⟨dd, p, dx, lc, lh, rfl, h1, ⟨hi, lo, h2, _⟩, _⟩ := D
    exact ⟨dd, p, A.cW, dx, _, lc, _, h1, T.wr.cod, h2.cat, T.tyW, T.kitW⟩
  | reading s =>
    obtain ⟨dd, p, dx, lc, lg, rfl, h1, ⟨gs, tk, h2, _⟩, _⟩ := D
    exact ⟨dd, p, A.cR, dx, _, lc, _, h1, T.rr.cod, h2.cat, T.tyR, T.kitR⟩
theorem DeskAt.obj {A : Ad} {H : Hp} {d : Addr} {S : Rb16.State} {fp : List Addr} (D : DeskAt A H d S fp) : ∃ dd p, H d = some (.ins A.cD dd (df p)) := by
  cases S with
  | writing s => obtain ⟨dd, p, dx, lc, lh, rfl, h1, _⟩ := D; exact ⟨dd, p, h1⟩
  | reading s => obtain ⟨dd, p, dx, lc, lh, rfl, h1, _⟩ := D; exact ⟨dd, p, h1⟩
theorem DeskAt.len {A : Ad} {H : Hp} {d : Addr} {S : Rb16.State} {fp : List Addr} (D : DeskAt A H d S fp) : 1 ≤ S.chances.length ∧ S.chances.length ≤ 4096 := by
  cases S with
  | writing s => obtain ⟨dd, p, dx, lc, lh, rfl, h1, _, i⟩ := D; exact ⟨i.k1, i.k2⟩
  | reading s => obtain ⟨dd, p, dx, lc, lh, rfl, h1, _, i⟩ := D; exact ⟨i.k1, i.k2⟩

def hasCh (S : Rb16.State) (c : Int) : Bool := decide (0 ≤ c) && decide (c.toNat < S.chances.length)
def hasTree (S : Rb16.State) (c n : Int) : Bool := Rb16.within n 1 12 && Rb16.fitsTree S.chances.length c n
inductive SpICC (vs : List V) (H : Hp) (Q : VK) : Prop where
  | mk (k : Int) : (vs = [.int k]) → (Q (.bl (Rb16.within k 1 4096)) H) → SpICC  vs H Q
def spICC : Sp := fun vs H Q _ => SpICC  vs H Q
inductive SpIEC (vs : List V) (H : Hp) (Q : VK) : Prop where
  | mk (n : Int) : (vs = [.int n]) → (Q (.bl (Rb16.within n 0 32)) H) → SpIEC  vs H Q
def spIEC : Sp := fun vs H Q _ => SpIEC  vs H Q
inductive SpIC (A : Ad) (vs : List V) (H : Hp) (Q : VK) : Prop where
  | mk (d : Addr) (S : Rb16.State) (fp : List Addr) (c : Int) : (vs = [.ref d, .int c]) → (DeskAt A H d S fp) → (Q (.bl (hasCh S c)) H) → SpIC A vs H Q
def spIC (A : Ad) : Sp := fun vs H Q _ => SpIC A vs H Q
inductive SpIT (A : Ad) (vs : List V) (H : Hp) (Q : VK) : Prop where
  | mk (d : Addr) (S : Rb16.State) (fp : List Addr) (c n : Int) : (vs = [.ref d, .int c, .int n]) → (DeskAt A H d S fp) → (Q (.bl (hasTree S c n)) H) → SpIT A vs H Q
def spIT (A : Ad) : Sp := fun vs H Q _ => SpIT A vs H Q
inductive SpWs (A : Ad) (vs : List V) (H : Hp) (Q : VK) : Prop where
  | mk (d : Addr) (S : Rb16.State) (fp : List Addr) : (vs = [.ref d]) → (DeskAt A H d S fp) → (Q (.bl (isW S)) H) → SpWs A vs H Q
def spWs (A : Ad) : Sp := fun vs H Q _ => SpWs A vs H Q
inductive SpDInit (A : Ad) (vs : List V) (H : Hp) (Q : VK) : Prop where
  | mk (d dd : Addr) : (vs = [.ref d]) → (H d = some (.ins A.cD dd [])) → (∀ (H' : Hp) (fp : List Addr), DeskAt A H' d Rb16Neutral.start fp → (∀ b ∈ fp, b = d ∨ H b = none) → Keep [d] H H' → Q .non H') → SpDInit A vs H Q
def spDInit (A : Ad) : Sp := fun vs H Q _ => SpDInit A vs H Q
inductive SpDT (A : Ad) (vs : List V) (H : Hp) (Q : VK) : Prop where
  | mk (d ls : Addr) (s : Rb16.Out) (fp : List Addr) (as : List Addr) (st : List (Option Nat × Nat)) : (vs = [.ref d, .ref ls]) → (DeskAt A H d (.writing s) fp) → (H ls = some (.lst (as.map V.ref))) → (ls ∉ fp) → (TupsAt H as st) → (StOk s.chances.length st) → (Once st) → ((∀ q ∈ st, q.2 ≤ 1)) → (∀ (H' : Hp) (r : Addr) (H1 : Hp), DeskAt A H1 d (Rb16.wrote s (steps s st)).2 fp → Keep fp H H1 → H1 r = none → H' = upd H1 r (.lst [.int (Rb16.wrote s (steps s st)).1.v]) → Q (.ref r) H') → SpDT A vs H Q
def spDT (A : Ad) : Sp := fun vs H Q _ => SpDT A vs H Q

section
variable {P : Program} {w : World} {K : PySem.W.Frag} {mg : Str → Option Value} {base : Heap} {A : Ad}
theorem scICC : FnScope ["k"] ["k"] (defScope sICC) := ⟨rfl, rfl, rfl, by decide +kernel, rfl, by decide +kernel, by decide +kernel⟩
theorem ok_icc {f : Addr} (D : Def K "is_chance_count" "is_chance_count" sICC f ["k"]) (G : GsD mg A) : Fn P w K mg base 1 f ["k"] spICC := by
  refine D.ok scICC (fun vs H Q E h => ?_) (fun cdv A' outer s0 H vs Q E hr h => ?_)
  · obtain ⟨k, rfl, _⟩ := h
    rfl
  · obtain ⟨k, rfl, q⟩ := h
    refine ⟨_, pss_one (ps_ret (pe_chain oc_le oc_le pe_int (pv 0) (pe_gint rfl G.mch))), ?_⟩
    unfold Rb16.within at q
    refine ⟨_, rfl, _, _, rfl, rfl, ?_⟩
    by_cases h1 : (1 : Int) ≤ k
    · refine .inl ⟨h1, _, rfl, itT rfl ?_⟩
      refine ⟨_, _, rfl, rfl, ?_⟩
      by_cases h2 : k ≤ 4096
      · refine .inl ⟨h2, ?_⟩
        rw [decide_eq_true h1, decide_eq_true h2] at q
        exact q
      · refine .inr ⟨h2, ?_⟩
        rw [decide_eq_true h1, decide_eq_false h2] at q
        exact q
    · refine .inr ⟨h1, _, rfl, itF rfl ?_⟩
      rw [decide_eq_false h1] at q
      exact q
theorem scIEC : FnScope ["n"] ["n"] (defScope sIEC) := ⟨rfl, rfl, rfl, by decide +kernel, rfl, by decide +kernel, by decide +kernel⟩
theorem ok_iec {f : Addr} (D : Def K "is_even_count" "is_even_count" sIEC f ["n"]) (G : GsD mg A) : Fn P w K mg base 1 f ["n"] spIEC := by
  refine D.ok scIEC (fun vs H Q E h => ?_) (fun cdv A' outer s0 H vs Q E hr h => ?_)
  · obtain ⟨k, rfl, _⟩ := h
    rfl
  · obtain ⟨k, rfl, q⟩ := h
    refine ⟨_, pss_one (ps_ret (pe_chain oc_le oc_le pe_int (pv 0) (pe_gint rfl G.mev))), ?_⟩
    unfold Rb16.within at q
    refine ⟨_, rfl, _, _, rfl, rfl, ?_⟩
    by_cases h1 : (0 : Int) ≤ k
    · refine .inl ⟨h1, _, rfl, itT rfl ?_⟩
      refine ⟨_, _, rfl, rfl, ?_⟩
      by_cases h2 : k ≤ 32
      · refine .inl ⟨h2, ?_⟩
        rw [decide_eq_true h1, decide_eq_true h2] at q
        exact q
      · refine .inr ⟨h2, ?_⟩
        rw [decide_eq_true h1, decide_eq_false h2] at q
        exact q
    · refine .inr ⟨h1, _, rfl, itF rfl ?_⟩
      rw [decide_eq_false h1] at q
      exact q
theorem scIC : FnScope ["desk", "c"] ["desk", "c"] (defScope sIC) := ⟨rfl, rfl, rfl, by decide +kernel, rfl, by decide +kernel, by decide +kernel⟩
theorem ok_ic {f : Addr} (D : Def K "is_chance" "is_chance" sIC f ["desk", "c"]) (G : GsD mg A) (T : Dk K A) : Fn P w K mg base 1 f ["desk", "c"] (spIC A) := by
  refine D.ok scIC (fun vs H Q E h => ?_) (fun cdv A' outer s0 H vs Q E hr h => ?_)
  · obtain ⟨d, S, fp, c, rfl, _⟩ := h
    rfl
  · obtain ⟨d, S, fp, c, rfl, dk, q⟩ := h
    obtain ⟨dd, p, C, dx, fs, lc, wd, hd, cod, ca, _, _⟩ := dk.view T
    refine ⟨_, pss_one (ps_ret (pe_chain oc_le oc_lt pe_int (pv 1) (pe_callB call_len_seq (by rfl) G.len PySem.boot_len (pa_cons (pe_fld (pe_fld (pv 0) rfl) rfl) pa_nil)))), ?_⟩
    unfold hasCh at q
    refine ⟨_, rfl, _, _, rfl, rfl, ?_⟩
    by_cases h1 : (0 : Int) ≤ c
    · refine .inl ⟨h1, _, rfl, itT rfl ?_⟩
      refine ⟨_, rfl, d, A.cD, dd, _, _, rfl, hd, T.cl, T.nC, df_c p, p, C, dx, fs, _, rfl, ca.ob, cod.cl, cod.nCh, ca.fc, lc, _, rfl, .inl (SqL.of ca.lst), _, _, rfl, rfl, ?_⟩
      by_cases h2 : c.toNat < S.chances.length
      · refine .inl ⟨(show c < (((nV S.chances).length : Nat) : Int) by rw [nV_len]; omega), ?_⟩
        rw [decide_eq_true h1, decide_eq_true h2] at q
        exact q
      · refine .inr ⟨(show ¬ c < (((nV S.chances).length : Nat) : Int) by rw [nV_len]; omega), ?_⟩
        rw [decide_eq_true h1, decide_eq_false h2] at q
        exact q
    · refine .inr ⟨h1, _, rfl, itF rfl ?_⟩
      rw [decide_eq_false h1] at q
      exact q
theorem scIT : FnScope ["desk", "c", "n"] ["desk", "c", "n"] (defScope sIT) := ⟨rfl, rfl, rfl, by decide +kernel, rfl, by decide +kernel, by decide +kernel⟩
theorem ok_it {f : Addr} (D : Def K "is_tree" "is_tree" sIT f ["desk", "c", "n"]) (G : GsD mg A) (T : Dk K A) : Fn P w K mg base 1 f ["desk", "c", "n"] (spIT A) := by
  refine D.ok scIT (fun vs H Q E h => ?_) (fun cdv A' outer s0 H vs Q E hr h => ?_)
  · obtain ⟨d, S, fp, c, n, rfl, _⟩ := h
    rfl
  · obtain ⟨d, S, fp, c, n, rfl, dk, q⟩ := h
    obtain ⟨dd, p, C, dx, fs, lc, wd, hd, cod, ca, _, _⟩ := dk.view T
    refine ⟨_, pss_cons (ps_if ((pw_or (pt_cmpR oc_lt (pv 1) pe_int (nomark _)) (pw_or1 (pt_not (pt_chain oc_le oc_le pe_int (pv 2) (pe_gint (by rfl) G.mtr))))) _) (pss_one (ps_ret pe_bl)) pss_nil)
      (pss_one (ps_ret (pe_cmpR oc_le (pe_op op_sub (pe_op op_add (pv 1) (pe_op op_shl pe_int (pv 2))) pe_int) (pe_callB call_len_seq (by rfl) G.len PySem.boot_len (pa_cons (pe_fld (pe_fld (pv 0) rfl) rfl) pa_nil)) (nomark _)))), ?_⟩
    unfold hasTree Rb16.within Rb16.fitsTree at q
    refine ⟨_, rfl, _, _, rfl, rfl, ?_⟩
    by_cases h0 : c < 0
    · refine .inl ⟨h0, _, rfl, itT rfl ?_⟩
      refine itT rfl ?_
      rw [show decide ((0 : Int) ≤ c) = false from decide_eq_false (by omega), Bool.false_and, Bool.and_false] at q
      exact q
    · refine .inr ⟨h0, _, rfl, itF rfl ?_⟩
      rw [show decide ((0 : Int) ≤ c) = true from decide_eq_true (by omega), Bool.true_and] at q
      refine ⟨_, rfl, _, _, rfl, rfl, ?_⟩
      by_cases h1 : (1 : Int) ≤ n
      · refine .inl ⟨h1, _, rfl, itT rfl ?_⟩
        refine ⟨_, _, rfl, rfl, ?_⟩
        rw [decide_eq_true h1, Bool.true_and] at q
        by_cases h2 : n ≤ 12
        · refine .inl ⟨h2, _, rfl, itF rfl ?_⟩
          rw [decide_eq_true h2, Bool.true_and] at q
          obtain ⟨m, rfl⟩ : ∃ m : Nat, n = m := ⟨n.toNat, by omega⟩
          refine ⟨_, rfl, _, rfl, _, _, rfl, rfl, ⟨by omega, by omega, by decide⟩, _, _, rfl, rfl, _, _, rfl, rfl, ?_⟩
          refine ⟨_, rfl, d, A.cD, dd, _, _, rfl, hd, T.cl, T.nC, df_c p, p, C, dx, fs, _, rfl, ca.ob, cod.cl, cod.nCh, ca.fc, lc, _, rfl, .inl (SqL.of ca.lst), _, _, rfl, rfl, ?_⟩
          have hp : (1 : Nat) ≤ 2 ^ m := Nat.one_le_two_pow
          have ep : (1 : Int) * 2 ^ ((m : Int)).toNat = ((2 ^ m : Nat) : Int) := by rw [Int.toNat_natCast, Int.one_mul]; norm_cast
          rw [Int.toNat_natCast] at q
          by_cases h3 : c.toNat + (2 ^ m - 1) ≤ S.chances.length
          · refine .inl ⟨(show c + 1 * 2 ^ ((m : Int)).toNat - 1 ≤ (((nV S.chances).length : Nat) : Int) by rw [nV_len, ep]; omega), ?_⟩
            rw [decide_eq_true h3] at q
            exact q
          · refine .inr ⟨(show ¬ c + 1 * 2 ^ ((m : Int)).toNat - 1 ≤ (((nV S.chances).length : Nat) : Int) by rw [nV_len, ep]; omega), ?_⟩
            rw [decide_eq_false h3] at q
            exact q
        · refine .inr ⟨h2, _, rfl, itT rfl ?_⟩
          rw [decide_eq_false h2, Bool.false_and] at q
          exact q
      · refine .inr ⟨h1, _, rfl, itF rfl ?_⟩
        refine ⟨_, rfl, itT rfl ?_⟩
        rw [decide_eq_false h1, Bool.false_and, Bool.false_and] at q
        exact q
theorem scWs : FnScope ["self"] ["self"] (defScope sWs) := ⟨rfl, rfl, rfl, by decide +kernel, rfl, by decide +kernel, by decide +kernel⟩
theorem ok_ws {f : Addr} (D : Def K "writes" "Desk.writes" sWs f ["self"]) (G : GsD mg A) (T : Dk K A) : Fn P w K mg base 1 f ["self"] (spWs A) := by
  refine D.ok scWs (fun vs H Q E h => ?_) (fun cdv A' outer s0 H vs Q E hr h => ?_)
  · obtain ⟨d, S, fp, rfl, _⟩ := h
    rfl
  · obtain ⟨d, S, fp, rfl, dk, q⟩ := h
    obtain ⟨dd, p, C, dx, fs, lc, wd, hd, cod, ca, ty, kt⟩ := dk.view T
    refine ⟨_, pss_one (ps_ret (pe_callB call_isi (by rfl) G.isi PyProof.Rows.boot_isinstance (pa_cons (pe_fld (pv 0) rfl) (pa_cons (pe_glob (v := .ref A.cW) rfl G.cW rfl) pa_nil)))), ?_⟩
    refine ⟨_, rfl, d, A.cD, dd, _, _, rfl, hd, T.cl, T.nC, df_c p, _, _, .ref C, isW S, rfl, TyOf.ins ca.ob cod.cl ty.ha ty.hn ty.htk ty.hm, kt, ?_⟩
    exact q
end
end Cb

end
section
set_option Elab.async false
set_option linter.all false
set_option maxRecDepth 100000
set_option maxHeartbeats 2000000
namespace Cb
open PySem PySem.Spec PyProof.Rows L2

/-! ### a new object behind the desk -/
theorem sz1 : 1 ≤ sizeLine := by rw [sizeLine_eq]; decide
theorem sz2 : 2 ≤ sizeLine := by rw [sizeLine_eq]; decide
theorem Keep.made {H H1 : Hp} {x dx C : Addr} (nx : H x = none) (nd : H dx = none) (k : Keep [x] (L2.upd (L2.upd H dx (.own x)) x (.ins C dx [])) H1) : Keep [] H H1 := fun b o e _ =>
  k b o (by rw [upd_ne (ne_of_none e nx), upd_ne (ne_of_none e nd)]; exact e) (by simpa using ne_of_none e nx)
theorem free_made {H : Hp} {x dx l : Addr} {o1 o2 : HO} (h : upd (upd H dx o1) x o2 l = none) : H l = none := by
  by_cases e : l = x
  · subst e; rw [upd_same] at h; cases h
  · rw [upd_ne e] at h
    by_cases e2 : l = dx
    · subst e2; rw [upd_same] at h; cases h
    · rw [upd_ne e2] at h; exact h
theorem desk_ne {A : Ad} {H : Hp} {C d dd p dx lc lg : Addr} {fs : List (Str × V)} {xs ys : List V} (hd : H d = some (.ins A.cD dd (df p))) (h1 : H p = some (.ins C dx fs)) (hl : 2 ≤ fs.length) (h2 : H lc = some (.lst xs)) (h3 : H lg = some (.lst ys)) : d ∉ [p, lc, lg] := by
  simp only [List.mem_cons, List.not_mem_nil, or_false, not_or]
  refine ⟨fun z => ?_, ne_of hd h2 (by intro z; cases z), ne_of hd h3 (by intro z; cases z)⟩
  subst z
  have e2 := hd.symm.trans h1
  injection e2 with e2
  injection e2 with _ _ e4
  subst e4
  exact absurd hl (by show ¬ 2 ≤ 1; decide)
theorem chok_new (k : Nat) : ChOk (List.replicate k 1024) := fun p hp => by
  have := List.eq_of_mem_replicate hp
  omega
theorem wide_eq : Rb16.WIDE = 4294967295 := by decide
theorem new_out {k : Nat} (h1 : 1 ≤ k) (h2 : k ≤ 4096) : OInv ⟨0, 0, Rb16.WIDE, List.replicate k 1024⟩ := by
  refine ⟨⟨by show 16777216 ≤ Rb16.WIDE; decide, by show Rb16.WIDE < 4294967296; decide⟩, by show 0 + Rb16.WIDE ≤ 256 ^ (0 + 4); decide, chok_new k, ?_, ?_, by show 0 + 4 ≤ 1048576; decide⟩
  · show 1 ≤ (List.replicate k 1024).length
    rw [List.length_replicate]; exact h1
  · show (List.replicate k 1024).length ≤ 4096
    rw [List.length_replicate]; exact h2
theorem new_rep (k : Nat) : WRep ⟨0, 0, Rb16.WIDE, List.replicate k 1024⟩ [] 0 := ⟨rfl, rfl, by decide, fun b hb => by simp at hb⟩
theorem new_in {gs : List Nat} {k : Nat} (h1 : 1 ≤ k) (h2 : k ≤ 4096) (hb : Bs gs) : IInv (Rb16.opened gs k) := by
  refine ⟨⟨by show 16777216 ≤ Rb16.WIDE; decide, by show Rb16.WIDE < 4294967296; decide⟩, ?_, chok_new k, ?_, ?_, fun b h => hb b (List.mem_of_mem_drop h)⟩
  · exact fb_lt hb 4
  · show 1 ≤ (List.replicate k 1024).length
    rw [List.length_replicate]; exact h1
  · show (List.replicate k 1024).length ≤ 4096
    rw [List.length_replicate]; exact h2
theorem put_writer {A : Ad} {H H1 : Hp} {d dd x dx lc lh : Addr} {fs fs' : List (Str × V)} {k : Nat} (hd : H d = some (.ins A.cD dd fs)) (nx : H x = none) (nl : H lc = none) (nh : H lh = none) (kp : Keep [] H H1)
    (w3 : W3 A.cW H1 x dx lc lh (List.replicate k 1024) 4294967295 [] 0) (h1 : 1 ≤ k) (h2 : k ≤ 4096) (e : fs' = df x) :
    DeskAt A (upd H1 d (.ins A.cD dd fs')) d (.writing ⟨0, 0, Rb16.WIDE, List.replicate k 1024⟩) [d, x, lc, lh] ∧ Keep [d] H (upd H1 d (.ins A.cD dd fs')) := by
  subst e
  have q : ∀ b ∈ [x, lc, lh], ∀ o, H1 b = some o → upd H1 d (.ins A.cD dd (df x)) b = some o := fun b hb o eo => by
    rw [upd_ne]
    · exact eo
    · intro z
      subst z
      simp only [List.mem_cons, List.not_mem_nil, or_false] at hb
      rcases hb with rfl | rfl | rfl
      · rw [nx] at hd; cases hd
      · rw [nl] at hd; cases hd
      · rw [nh] at hd; cases hd
  refine ⟨⟨dd, x, dx, lc, lh, rfl, upd_same, WO.same (s := ⟨0, 0, Rb16.WIDE, List.replicate k 1024⟩) ⟨[], 0, ?_, new_rep k⟩ q, new_out h1 h2⟩, (kp.mono (by simp)).upd (by simp)⟩
  show W3 A.cW H1 x dx lc lh (List.replicate k 1024) Rb16.WIDE [] 0
  rw [wide_eq]
  exact w3
theorem put_reader {A : Ad} {H H1 : Hp} {d dd x dx lc lg : Addr} {fs fs' : List (Str × V)} {k : Nat} {gs : List Nat} (hd : H d = some (.ins A.cD dd fs)) (nx : H x = none) (nl : H lc = none) (ng : d ≠ lg) (kp : Keep [] H H1)
    (w3 : RO A.cR H1 x dx lc lg (Rb16.opened gs k)) (hb : Bs gs) (h1 : 1 ≤ k) (h2 : k ≤ 4096) (e : fs' = df x) :
    DeskAt A (upd H1 d (.ins A.cD dd fs')) d (.reading (Rb16.opened gs k)) [d, x, lc, lg] ∧ Keep [d] H (upd H1 d (.ins A.cD dd fs')) := by
  subst e
  have q : ∀ b ∈ [x, lc, lg], ∀ o, H1 b = some o → upd H1 d (.ins A.cD dd (df x)) b = some o := fun b hb o eo => by
    rw [upd_ne]
    · exact eo
    · intro z
      subst z
      simp only [List.mem_cons, List.not_mem_nil, or_false] at hb
      rcases hb with rfl | rfl | rfl
      · rw [nx] at hd; cases hd
      · rw [nl] at hd; cases hd
      · exact ng rfl
  exact ⟨⟨dd, x, dx, lc, lg, rfl, upd_same, w3.same q, new_in h1 h2 hb⟩, (kp.mono (by simp)).upd (by simp)⟩

section
variable {P : Program} {w : World} {K : PySem.W.Frag} {mg : Str → Option Value} {base : Heap} {A : Ad}
theorem scDI : FnScope ["self"] ["self"] (defScope sDInit) := ⟨rfl, rfl, rfl, by decide +kernel, rfl, by decide +kernel, by decide +kernel⟩
theorem ok_dinit {f fWI : Addr} (D : Def K "__init__" "Desk.__init__" sDInit f ["self"]) (G : GsD mg A) (T : Dk K A) (M : Mk K A.cW fWI) (FW : Fn P w K mg base 2 fWI ["self", "k"] (spWInit A.cW)) : Fn P w K mg base 4 f ["self"] (spDInit A) := by
  refine D.ok scDI (fun vs H Q E h => ?_) (fun cdv A' outer s0 H vs Q E hr h => ?_)
  · obtain ⟨d, dd, rfl, _⟩ := h
    rfl
  · obtain ⟨d, dd, rfl, hd, k⟩ := h
    refine ⟨_, pss_one (ps_fld (pv 0) (pe_makeN M FW hr rfl G.cW (pa_cons pe_int pa_nil)) rfl), ?_⟩
    intro x dx nx nd ne
    refine ⟨x, dx, 1, rfl, upd_same, (by decide), fun H1 lc lh n1 n2 w3 kp => ⟨rfl, ?_⟩⟩
    have kp := Keep.made nx nd kp
    have n1 := free_made n1
    have n2 := free_made n2
    refine ⟨_, rfl, d, A.cD, dd, _, rfl, kp _ _ hd (by simp), T.cl, T.nC, (by show 0 < 1000; decide), ?_⟩
    obtain ⟨h1, h2⟩ := put_writer (fs' := putF "coder" (.ref x) []) hd nx n1 n2 kp w3 (by decide) (by decide) rfl
    refine k _ _ h1 (fun b hb => ?_) h2
    simp only [List.mem_cons, List.not_mem_nil, or_false] at hb
    rcases hb with rfl | rfl | rfl | rfl
    · exact .inl rfl
    · exact .inr nx
    · exact .inr n1
    · exact .inr n2
theorem scDT : FnScope ["self", "steps"] ["self", "steps"] (defScope sDT) := ⟨rfl, rfl, rfl, by decide +kernel, rfl, by decide +kernel, by decide +kernel⟩
theorem steps_oinv {s : Rb16.Out} {st : List (Option Nat × Nat)} (i : OInv s) (h : StOk s.chances.length st) (hg : (steps s st).grown + 4 ≤ 1048576) : OInv (steps s st) := by
  obtain ⟨a, _, c⟩ := steps_inv i.to0 h
  exact ⟨a.w, a.num, a.ch, by rw [c]; exact i.k1, by rw [c]; exact i.k2, hg⟩
theorem ok_dtell {f : Addr} (D : Def K "tell" "Desk.tell" sDT f ["self", "steps"]) (G : GsD mg A) (T : Dk K A) (FT : Fn P w K mg base 5 A.fTl ["self", "steps"] (spTell A.cW)) : Fn P w K mg base 6 f ["self", "steps"] (spDT A) := by
  refine D.ok scDT (fun vs H Q E h => ?_) (fun cdv A' outer s0 H vs Q E hr h => ?_)
  · obtain ⟨d, ls, s, fp, as, st, rfl, _⟩ := h
    rfl
  · obtain ⟨d, ls, s, fp, as, st, rfl, dk, hls, nls, ht, hst, hon, hb, k⟩ := h
    obtain ⟨dd, p, dx, lc, lh, rfl, hd, w3, inv⟩ := id dk
    obtain ⟨hi, lo, h3, wr⟩ := id w3
    simp only [List.mem_cons, List.not_mem_nil, or_false, not_or] at nls
    refine ⟨_, pss_cons (ps_if (pt_val (pe_methN (pe_fld (pv 0) rfl) T.wr.cod.cl T.mTl FT hr (pa_cons (pv 1) pa_nil))) (pss_one (ps_ret (pe_lst (pa_cons (pe_gint rfl G.done) pa_nil)))) pss_nil)
      (pss_one (ps_ret (pe_lst (pa_cons (pe_gint rfl G.noroom) pa_nil)))), ?_⟩
    refine ⟨_, rfl, d, A.cD, dd, _, _, rfl, hd, T.cl, T.nC, df_c p, p, dx, _, rfl, h3.o, wf_no .., _, rfl, p, dx, lc, lh, ls, s, as, st, rfl, w3, inv, hls, nls.2.2.1, nls.2.2.2, ht, hst, hon, hb, ?_⟩
    by_cases hg : 1048576 < (steps s st).grown + 4
    · refine .inl ⟨hg, _, rfl, itF rfl ?_⟩
      refine ⟨sz1, fun r hr => ?_⟩
      have e : Rb16.wrote s (steps s st) = (Rb16.only (-1), .writing s) := if_pos hg
      rw [e] at k
      exact k _ r H dk (Keep.refl _ _) hr rfl
    · refine .inr ⟨by omega, fun H1 w1 k1 => ⟨_, rfl, itT rfl ?_⟩⟩
      refine ⟨sz1, fun r hr => ?_⟩
      have e : Rb16.wrote s (steps s st) = (Rb16.only 0, .writing (steps s st)) := if_neg hg
      rw [e] at k
      have ndp := desk_ne hd h3.o (by show 2 ≤ 4; decide) h3.c h3.h
      exact k _ r H1 ⟨dd, p, dx, lc, lh, rfl, k1 _ _ hd ndp, w1, steps_oinv inv hst (by omega)⟩ (k1.mono fun b hb => List.mem_cons_of_mem _ hb) hr rfl
end

/-! ### a call, its shape, what is answered -/
/-- a call's numbers by its place, as the document lets them be handed in -/
def Sh : Nat → List Int → Prop
  | 0, l => ∃ k : Int, l = [0, k]
  | 1, l => ∃ c b : Int, l = [1, c, b]
  | 2, l => ∃ x n : Int, l = [2, x, n] ∧ 0 ≤ x ∧ x ≤ 4294967295
  | 3, l => ∃ c n x : Int, l = [3, c, n, x]
  | 4, l => ∃ m : Int, l = [4, m]
  | 5, l => ∃ (k : Int) (gs : List Nat), l = 5 :: k :: (gs.length : Int) :: gs.map (fun (n : Nat) => (n : Int)) ∧ Bs gs ∧ gs.length ≤ 20000
  | 6, l => ∃ c : Int, l = [6, c]
  | 7, l => ∃ n : Int, l = [7, n]
  | 8, l => ∃ c n : Int, l = [8, c, n]
  | 9, l => ∃ c : Int, l = [9, c]
  | 10, l => l = [10]
  | _, _ => False
/-- the call with its row apart -/
def neut : List Int → List (List Int)
  | 5 :: k :: _ :: b => [[5, k], b]
  | l => [l]
def AwOut (A : Ad) (H : Hp) (d : Addr) (fp : List Addr) (Y : Rb16.State × List Int) (Q : VK) : Prop := ∀ (H' : Hp) (r : Addr) (fp' : List Addr), DeskAt A H' d Y.1 fp' → (∀ b ∈ fp', b ∈ fp ∨ H b = none) → H r = none → r ∉ fp' →
  H' r = some (.lst (Y.2.map V.int)) → Keep fp H H' → Q (.ref r) H'
/-- an answerer's promise -/
inductive SpAw (A : Ad) (p : Nat) (vs : List V) (H : Hp) (Q : VK) : Prop where
  | mk (d lc : Addr) (S : Rb16.State) (fp : List Addr) (l : List Int) : (vs = [.ref d, .ref lc]) → (DeskAt A H d S fp) → (H lc = some (.lst (l.map V.int))) → (Sh p l) → (AwOut A H d fp (Rb16Neutral.step S (neut l)) Q) → SpAw A p vs H Q
def spAw (A : Ad) (p : Nat) : Sp := fun vs H Q _ => SpAw A p vs H Q
theorem aw_new {A : Ad} {H H1 : Hp} {d r : Addr} {S1 : Rb16.State} {fp fp1 fq : List Addr} {l : List Int} {Q : VK} {Y : Rb16.State × List Int} (D1 : DeskAt A H1 d S1 fp1) (fresh : ∀ b ∈ fp1, b ∈ fp ∨ H b = none) (kp : Keep fq H H1)
    (s1 : ∀ b ∈ fq, b ∈ fp) (s2 : ∀ b ∈ fq, b ∈ fp1) (hr : H1 r = none) (eY : Y = (S1, l)) (k : AwOut A H d fp Y Q) : Q (.ref r) (upd H1 r (.lst (l.map V.int))) := by
  subst eY
  have tr : ∀ b ∈ fp1, b ≠ r := fun b hb z => by
    obtain ⟨o, e⟩ := D1.tracked b hb
    rw [z, hr] at e
    cases e
  refine k _ r fp1 (D1.same fun b hb o e => by rw [upd_ne (tr b hb)]; exact e) fresh ?_ (fun z => tr r z rfl) upd_same ?_
  · cases q : H r with
    | none => rfl
    | some o =>
      by_cases hm : r ∈ fq
      · exact absurd rfl (tr r (s2 r hm))
      · rw [kp r o q hm] at hr
        cases hr
  · exact (kp.mono s1).new hr
theorem aw_same {A : Ad} {H : Hp} {d r : Addr} {S : Rb16.State} {fp : List Addr} {l : List Int} {Q : VK} {Y : Rb16.State × List Int} (D : DeskAt A H d S fp) (hr : H r = none) (eY : Y = (S, l)) (k : AwOut A H d fp Y Q) : Q (.ref r) (upd H r (.lst (l.map V.int))) :=
  aw_new (fq := []) D (fun b hb => .inl hb) (Keep.refl _ _) (by simp) (by simp) hr eY k
theorem step_only {S S' : Rb16.State} {c : List (List Int)} {x : Rb16.Call} {v : Int} (e : Rb16Neutral.callOf c = some x) (e2 : Rb16.spec S x = (Rb16.only v, S')) : Rb16Neutral.step S c = (S', [v]) := by
  unfold Rb16Neutral.step
  rw [e]
  dsimp only
  rw [e2]
  show (S', v :: (if v < 0 then [] else [])) = _
  split <;> rfl
theorem step_more {S S' : Rb16.State} {c : List (List Int)} {x : Rb16.Call} {v : Int} {l : List Nat} (e : Rb16Neutral.callOf c = some x) (e2 : Rb16.spec S x = (⟨v, l⟩, S')) (hv : 0 ≤ v) : Rb16Neutral.step S c = (S', v :: l.map fun (n : Nat) => (n : Int)) := by
  unfold Rb16Neutral.step
  rw [e]
  dsimp only
  rw [e2]
  show (S', v :: (if v < 0 then [] else Rb16Neutral.ints l)) = _
  rw [if_neg (by omega)]
  rfl
theorem Keep.free {H H' : Hp} {r : Addr} (k : Keep [] H H') (h : H' r = none) : H r = none := by
  cases q : H r with
  | none => rfl
  | some o => rw [k r o q (by simp)] at h; cases h
/-- behind Desk.tell, called in a heap that only grew -/
theorem aw_tell {A : Ad} {H H2 H1 : Hp} {d r : Addr} {s : Rb16.Out} {fp : List Addr} {st : List (Option Nat × Nat)} {Q : VK} {Y : Rb16.State × List Int} (k2 : Keep [] H H2) (D1 : DeskAt A H1 d (Rb16.wrote s (steps s st)).2 fp) (k1 : Keep fp H2 H1) (hr : H1 r = none)
    (eY : Y = ((Rb16.wrote s (steps s st)).2, [(Rb16.wrote s (steps s st)).1.v])) (k : AwOut A H d fp Y Q) : Q (.ref r) (upd H1 r (.lst [.int (Rb16.wrote s (steps s st)).1.v])) :=
  aw_new (fq := fp) D1 (fun b hb => .inl hb) ((k2.mono (by simp)).trans k1) (fun _ h => h) (fun _ h => h) hr eY k
theorem wrote_only (s t : Rb16.Out) : (Rb16.wrote s t).1 = Rb16.only (Rb16.wrote s t).1.v := by
  unfold Rb16.wrote
  split <;> rfl
end Cb

end
section
set_option Elab.async false
set_option linter.all false
set_option maxRecDepth 100000
set_option maxHeartbeats 2000000
namespace Cb
open PySem PySem.Spec PyProof.Rows L2

abbrev sABegin : Stmt := top 35
abbrev sABit : Stmt := top 36
abbrev sAEven : Stmt := top 37
abbrev sATree : Stmt := top 38
abbrev sAFin : Stmt := top 39
abbrev sAOpen : Stmt := top 40
abbrev sAGet : Stmt := top 41
abbrev sAGE : Stmt := top 42
abbrev sAGT : Stmt := top 43
abbrev sACh : Stmt := top 44
abbrev sALeft : Stmt := top 45
theorem aw_ref {A : Ad} {H : Hp} {d r : Addr} {S : Rb16.State} {fp : List Addr} {Q : VK} {c : List (List Int)} {x : Rb16.Call} (D : DeskAt A H d S fp) (hr : H r = none) (e : Rb16Neutral.callOf c = some x) (e2 : Rb16.spec S x = (Rb16.refused, S))
    (k : AwOut A H d fp (Rb16Neutral.step S c) Q) : Q (.ref r) (upd H r (.lst [.int (-2)])) := aw_same (l := [-2]) D hr (step_only e e2) k
theorem within_nat {z lo hi : Int} (h0 : 0 ≤ lo) (h : Rb16.within z lo hi = true) : ∃ n : Nat, z = (n : Int) ∧ lo ≤ (n : Int) ∧ (n : Int) ≤ hi := by
  unfold Rb16.within at h
  rw [Bool.and_eq_true, decide_eq_true_eq, decide_eq_true_eq] at h
  exact ⟨z.toNat, by omega, by omega, by omega⟩
theorem within_of {z lo hi : Int} (h1 : lo ≤ z) (h2 : z ≤ hi) : Rb16.within z lo hi = true := by
  unfold Rb16.within
  rw [decide_eq_true h1, decide_eq_true h2]; rfl
theorem within_no {z lo hi : Int} (h : ¬ (lo ≤ z ∧ z ≤ hi)) : ¬ Rb16.within z lo hi = true := by
  unfold Rb16.within
  rw [Bool.and_eq_true, decide_eq_true_eq, decide_eq_true_eq]
  exact h
theorem hasCh_nat {S : Rb16.State} {c : Int} (h : hasCh S c = true) : ∃ n : Nat, c = (n : Int) ∧ n < S.chances.length := by
  unfold hasCh at h
  rw [Bool.and_eq_true, decide_eq_true_eq, decide_eq_true_eq] at h
  exact ⟨c.toNat, by omega, h.2⟩
theorem wrote_eq (s t : Rb16.Out) : Rb16.wrote s t = (Rb16.only (Rb16.wrote s t).1.v, (Rb16.wrote s t).2) := by
  unfold Rb16.wrote
  split <;> rfl
theorem DeskAt.off {A : Ad} {H : Hp} {d r : Addr} {S : Rb16.State} {fp : List Addr} (D : DeskAt A H d S fp) (h : H r = none) : r ∉ fp := fun z => by
  obtain ⟨o, e⟩ := D.tracked r z
  rw [h] at e
  cases e
theorem DeskAt.mem {A : Ad} {H : Hp} {d : Addr} {S : Rb16.State} {fp : List Addr} (D : DeskAt A H d S fp) : d ∈ fp := by
  cases S with
  | writing s => obtain ⟨dd, p, dx, lc, lh, rfl, _⟩ := D; simp
  | reading s => obtain ⟨dd, p, dx, lc, lh, rfl, _⟩ := D; simp

theorem tree_bits {c : Nat} : ∀ {l : List Nat} {m : Nat} {q : Option Nat × Nat}, (∀ b ∈ l, b ≤ 1) → q ∈ treeSteps c m l → q.2 ≤ 1
  | [], _, _, _, h => absurd h (by simp [treeSteps])
  | b :: l, m, q, hb, h => by
    have h : q = (some (c + (m - 1)), b) ∨ q ∈ treeSteps c (2 * m + b) l := List.mem_cons.mp h
    rcases h with e | e
    · subst e; exact hb b (List.mem_cons_self ..)
    · exact tree_bits (fun x hx => hb x (List.mem_cons_of_mem _ hx)) e

section
variable {P : Program} {w : World} {K : PySem.W.Frag} {mg : Str → Option Value} {base : Heap} {A : Ad}
theorem scBg : FnScope ["desk", "call", "k"] ["desk", "call"] (defScope sABegin) := ⟨rfl, rfl, rfl, by decide +kernel, rfl, by decide +kernel, by decide +kernel⟩
theorem ok_abegin {f fI fWI : Addr} (D : Def K "answer_begin" "answer_begin" sABegin f ["desk", "call"]) (G : GsD mg A) (T : Dk K A) (mI : mg "is_chance_count" = some (.ref fI)) (FI : Fn P w K mg base 1 fI ["k"] spICC) (M : Mk K A.cW fWI) (FW : Fn P w K mg base 2 fWI ["self", "k"] (spWInit A.cW)) :
    Fn P w K mg base 7 f ["desk", "call"] (spAw A 0) := by
  refine D.ok scBg (fun vs H Q E h => ?_) (fun cdv A' outer s0 H vs Q E hr h => ?_)
  · obtain ⟨d, lc, S, fp, l, rfl, _⟩ := h
    rfl
  · obtain ⟨d, lc, S, fp, l, rfl, dk, hl, sh, kk⟩ := h
    obtain ⟨k, rfl⟩ := sh
    obtain ⟨dd, p, hd⟩ := dk.obj
    have hr1 : Room 1 _ := hr.mono (by decide)
    have hr3 : Room 3 _ := hr.mono (by decide)
    refine ⟨_, pss_cons (ps_set (i := 2) scBg.nd rfl (Or.inl rfl) (pe_ix ix_list (pv 1) pe_int (fun _ _ => rfl)))
      (pss_cons (ps_if (pt_not (pt_val (pe_callN FI hr1 rfl mI (pa_cons (pv 2) pa_nil)))) (pss_one (ps_ret (pe_lst (pa_cons (pe_gint rfl G.refused) pa_nil)))) pss_nil)
      (pss_cons (ps_fld (pv 0) (pe_makeN M FW hr3 rfl G.cW (pa_cons (pv 2) pa_nil)) rfl) (pss_one (ps_ret (pe_lst (pa_cons (pe_gint rfl G.done) pa_nil)))))), ?_⟩
    refine ⟨_, rfl, lc, _, _, _, rfl, rfl, SqL.of hl, at_of (j := 1) rfl rfl, ?_⟩
    refine ⟨_, rfl, k, rfl, _, rfl, ?_⟩
    by_cases hw : Rb16.within k 1 4096 = true
    · refine itF (by rw [hw]; rfl) ?_
      obtain ⟨n, rfl, hn1, hn2⟩ := within_nat (by decide) hw
      refine ⟨_, rfl, fun x dx' nx nd ne => ?_⟩
      refine ⟨x, dx', n, rfl, upd_same, by omega, fun H1 lc' lh n1 n2 w3 kp => ⟨rfl, ?_⟩⟩
      have kp := Keep.made nx nd kp
      have n1 := free_made n1
      have n2 := free_made n2
      refine ⟨_, rfl, d, A.cD, dd, _, rfl, kp _ _ hd (by simp), T.cl, T.nC, (by show 1 < 1000; decide), ?_⟩
      obtain ⟨h1, h2⟩ := put_writer (fs' := putF "coder" (.ref x) (df p)) hd nx n1 n2 kp w3 (by omega) (by omega) rfl
      refine ⟨sz1, fun r hr => ?_⟩
      refine aw_new (l := [0]) (fq := [d]) h1 (fun b hb => ?_) h2 (fun b hb => ?_) (fun b hb => ?_) hr (step_only (x := .begin_ (n : Int)) rfl (if_pos hw)) kk
      · simp only [List.mem_cons, List.not_mem_nil, or_false] at hb
        rcases hb with rfl | rfl | rfl | rfl
        · exact .inl dk.mem
        · exact .inr nx
        · exact .inr n1
        · exact .inr n2
      · have : b = d := by simpa using hb
        subst this
        exact dk.mem
      · have : b = d := by simpa using hb
        subst this
        simp
    · refine itT (by rw [Bool.eq_false_iff.mpr hw]; rfl) ?_
      refine ⟨sz1, fun r hr => ?_⟩
      exact aw_ref dk hr (x := .begin_ k) rfl (if_neg hw) kk
theorem scBt : FnScope ["desk", "call", "c", "bit"] ["desk", "call"] (defScope sABit) := ⟨rfl, rfl, rfl, by decide +kernel, rfl, by decide +kernel, by decide +kernel⟩
theorem ok_abit {f fIC : Addr} (D : Def K "answer_bit" "answer_bit" sABit f ["desk", "call"]) (G : GsD mg A) (T : Dk K A) (FWs : Fn P w K mg base 1 A.fWs ["self"] (spWs A)) (mIC : mg "is_chance" = some (.ref fIC)) (FIC : Fn P w K mg base 1 fIC ["desk", "c"] (spIC A))
    (FDT : Fn P w K mg base 6 A.fDT ["self", "steps"] (spDT A)) : Fn P w K mg base 7 f ["desk", "call"] (spAw A 1) := by
  refine D.ok scBt (fun vs H Q E h => ?_) (fun cdv A' outer s0 H vs Q E hr h => ?_)
  · obtain ⟨d, lc, S, fp, l, rfl, _⟩ := h
    rfl
  · obtain ⟨d, lc, S, fp, l, rfl, dk, hl, sh, kk⟩ := h
    obtain ⟨c, b, rfl⟩ := sh
    obtain ⟨dd, p, hd⟩ := dk.obj
    have hr1 : Room 1 _ := hr.mono (by decide)
    refine ⟨_, pss_cons (ps_set (i := 2) scBt.nd rfl (Or.inl rfl) (pe_ix ix_list (pv 1) pe_int (fun _ _ => rfl))) (pss_cons (ps_set (i := 3) scBt.nd rfl (Or.inl rfl) (pe_ix ix_list (pv 1) pe_int (fun _ _ => rfl)))
      (pss_cons (ps_if ((pw_or (pt_not (pt_val (pe_methN0 (pv 0) T.cl T.mWs FWs hr1))) (pw_or (pt_not (pt_val (pe_callN FIC hr1 (by rfl) mIC (pa_cons (pv 0) (pa_cons (pv 2) pa_nil))))) (pw_or1 (pt_not (pt_chain oc_le oc_le pe_int (pv 3) pe_int))))) _)
        (pss_one (ps_ret (pe_lst (pa_cons (pe_gint rfl G.refused) pa_nil)))) pss_nil)
      (pss_one (ps_ret (pe_methN (pv 0) T.cl T.mDT FDT hr (pa_cons (pe_lst (pa_cons (pe_tup (pa_cons (pv 2) (pa_cons (pv 3) pa_nil))) pa_nil)) pa_nil)))))), ?_⟩
    refine ⟨_, rfl, lc, _, _, _, rfl, rfl, SqL.of hl, at_of (j := 1) rfl rfl, ?_⟩
    refine ⟨_, rfl, lc, _, _, _, rfl, rfl, SqL.of hl, at_of (j := 2) rfl rfl, ?_⟩
    refine ⟨_, rfl, d, dd, _, rfl, hd, df_no .., d, S, fp, rfl, dk, _, rfl, ?_⟩
    cases S with
    | reading s =>
      refine itT rfl (itT rfl ?_)
      refine ⟨sz1, fun r hr => ?_⟩
      exact aw_ref dk hr (x := .bit c b) rfl rfl kk
    | writing s =>
      refine itF rfl ?_
      refine ⟨_, rfl, _, rfl, d, _, fp, c, rfl, dk, _, rfl, ?_⟩
      by_cases hc : hasCh (.writing s) c = true
      · refine itF (by rw [hc]; rfl) ?_
        refine ⟨_, rfl, _, _, rfl, rfl, ?_⟩
        by_cases h1 : (0 : Int) ≤ b
        · refine .inl ⟨h1, _, rfl, itT rfl ?_⟩
          refine ⟨_, _, rfl, rfl, ?_⟩
          by_cases h2 : b ≤ 1
          · refine .inl ⟨h2, _, rfl, itF rfl ?_⟩
            obtain ⟨cn, rfl, hcn⟩ := hasCh_nat hc
            have hw := within_of h1 h2
            obtain ⟨bn, rfl⟩ : ∃ m : Nat, b = m := ⟨b.toNat, by omega⟩
            refine ⟨_, rfl, d, dd, _, rfl, hd, df_no .., _, rfl, _, rfl, sz2, fun t ht => ⟨sz1, fun ls hls => ?_⟩⟩
            have k1 : Keep [] H (upd H t (.tup [.int (cn : Int), .int (bn : Int)])) := (Keep.refl [] H).new ht
            have k2 := k1.new (o := .lst [.ref t]) hls
            refine ⟨d, ls, s, fp, [t], [(some cn, bn)], rfl, dk.keep k2, upd_same, (dk.keep k1).off hls, ?_, ?_, ?_, ?_, fun H' r H1 D1 k3 hr e => ?_⟩
            · exact ((TupsAt.nil H).snoc (c := some cn) (b := bn) ht).other fun xs z => by cases (hls.symm.trans z)
            · intro q hq i e
              have : q = (some cn, bn) := by simpa using hq
              subst this
              cases e
              exact hcn
            · unfold Once
              simp
            · intro q hq
              have : q = (some cn, bn) := by simpa using hq
              subst this
              show bn ≤ 1
              omega
            · subst e
              refine aw_tell k2 D1 k3 hr (step_only (x := .bit (cn : Int) (bn : Int)) rfl ?_) kk
              exact (if_pos (by rw [Bool.and_eq_true]; exact ⟨hc, hw⟩)).trans (wrote_eq s (steps s [(some cn, bn)]))
          · refine .inr ⟨h2, _, rfl, itT rfl ?_⟩
            refine ⟨sz1, fun r hr => ?_⟩
            exact aw_ref dk hr (x := .bit c b) rfl (if_neg (by rw [Bool.and_eq_true]; exact fun z => within_no (fun y => h2 y.2) z.2)) kk
        · refine .inr ⟨h1, _, rfl, itF rfl ?_⟩
          refine ⟨_, rfl, itT rfl ?_⟩
          refine ⟨sz1, fun r hr => ?_⟩
          exact aw_ref dk hr (x := .bit c b) rfl (if_neg (by rw [Bool.and_eq_true]; exact fun z => within_no (fun y => h1 y.1) z.2)) kk
      · refine itT (by rw [Bool.eq_false_iff.mpr hc]; rfl) (itT rfl ?_)
        refine ⟨sz1, fun r hr => ?_⟩
        exact aw_ref dk hr (x := .bit c b) rfl (if_neg (by rw [Bool.and_eq_true]; exact fun z => hc z.1)) kk
theorem scEv : FnScope ["desk", "call", "x", "n"] ["desk", "call"] (defScope sAEven) := ⟨rfl, rfl, rfl, by decide +kernel, rfl, by decide +kernel, by decide +kernel⟩
theorem ok_aeven {f fIE fES : Addr} (D : Def K "answer_even" "answer_even" sAEven f ["desk", "call"]) (G : GsD mg A) (T : Dk K A) (FWs : Fn P w K mg base 1 A.fWs ["self"] (spWs A)) (mIE : mg "is_even_count" = some (.ref fIE)) (FIE : Fn P w K mg base 1 fIE ["n"] spIEC)
    (mES : mg "even_steps" = some (.ref fES)) (FES : Fn P w K mg base 1 fES ["x", "n"] spESteps) (FDT : Fn P w K mg base 6 A.fDT ["self", "steps"] (spDT A)) : Fn P w K mg base 7 f ["desk", "call"] (spAw A 2) := by
  refine D.ok scEv (fun vs H Q E h => ?_) (fun cdv A' outer s0 H vs Q E hr h => ?_)
  · obtain ⟨d, lc, S, fp, l, rfl, _⟩ := h
    rfl
  · obtain ⟨d, lc, S, fp, l, rfl, dk, hl, sh, kk⟩ := h
    obtain ⟨x, n, rfl, hx0, hx1⟩ := sh
    obtain ⟨dd, p, hd⟩ := dk.obj
    have hr1 : Room 1 _ := hr.mono (by decide)
    refine ⟨_, pss_cons (ps_set (i := 2) scEv.nd rfl (Or.inl rfl) (pe_ix ix_list (pv 1) pe_int (fun _ _ => rfl))) (pss_cons (ps_set (i := 3) scEv.nd rfl (Or.inl rfl) (pe_ix ix_list (pv 1) pe_int (fun _ _ => rfl)))
      (pss_cons (ps_if ((pw_or (pt_not (pt_val (pe_methN0 (pv 0) T.cl T.mWs FWs hr1))) (pw_or (pt_not (pt_chain oc_le oc_le pe_int (pv 2) (pe_gint (by rfl) G.men))) (pw_or1 (pt_not (pt_val (pe_callN FIE hr1 (by rfl) mIE (pa_cons (pv 3) pa_nil))))))) _)
        (pss_one (ps_ret (pe_lst (pa_cons (pe_gint rfl G.refused) pa_nil)))) pss_nil)
      (pss_one (ps_ret (pe_methN (pv 0) T.cl T.mDT FDT hr (pa_cons (pe_callN FES hr1 rfl mES (pa_cons (pv 2) (pa_cons (pv 3) pa_nil))) pa_nil)))))), ?_⟩
    refine ⟨_, rfl, lc, _, _, _, rfl, rfl, SqL.of hl, at_of (j := 1) rfl rfl, ?_⟩
    refine ⟨_, rfl, lc, _, _, _, rfl, rfl, SqL.of hl, at_of (j := 2) rfl rfl, ?_⟩
    refine ⟨_, rfl, d, dd, _, rfl, hd, df_no .., d, S, fp, rfl, dk, _, rfl, ?_⟩
    cases S with
    | reading s =>
      refine itT rfl (itT rfl ?_)
      refine ⟨sz1, fun r hr => ?_⟩
      exact aw_ref dk hr (x := .even x.toNat n) rfl rfl kk
    | writing s =>
      refine itF rfl ?_
      refine ⟨_, rfl, _, _, rfl, rfl, .inl ⟨hx0, _, rfl, itT rfl ?_⟩⟩
      refine ⟨_, _, rfl, rfl, .inl ⟨hx1, _, rfl, itF rfl ?_⟩⟩
      refine ⟨_, rfl, n, rfl, _, rfl, ?_⟩
      by_cases hw : Rb16.within n 0 32 = true
      · refine itF (by rw [hw]; rfl) ?_
        obtain ⟨m, rfl, hm1, hm2⟩ := within_nat (by decide) hw
        obtain ⟨xn, rfl⟩ : ∃ m : Nat, x = m := ⟨x.toNat, by omega⟩
        refine ⟨_, rfl, d, dd, _, rfl, hd, df_no .., _, rfl, _, rfl, xn, m, rfl, by omega, fun H2 ls as nls h2 ht k2 => ?_⟩
        refine ⟨d, ls, s, fp, as, _, rfl, dk.keep k2, h2, dk.off nls, ht, (even_ok _ _).1, (even_ok 0 _).2, fun q hq => ?_, fun H' r H1 D1 k3 hr e => ?_⟩
        · obtain ⟨b, hb, e⟩ := List.mem_map.mp hq
          subst e
          exact bits_le hb
        · subst e
          refine aw_tell k2 D1 k3 hr (step_only (x := .even ((xn : Int)).toNat (m : Int)) rfl ?_) kk
          refine (if_pos hw).trans ?_
          show Rb16.wrote s (Rb16.putEven s m xn) = _
          rw [putEven_steps]
          exact wrote_eq _ _
      · refine itT (by rw [Bool.eq_false_iff.mpr hw]; rfl) ?_
        refine ⟨sz1, fun r hr => ?_⟩
        exact aw_ref dk hr (x := .even x.toNat n) rfl (if_neg hw) kk
theorem scTr : FnScope ["desk", "call", "c", "n", "x"] ["desk", "call"] (defScope sATree) := ⟨rfl, rfl, rfl, by decide +kernel, rfl, by decide +kernel, by decide +kernel⟩
theorem tree_and {a b c : Bool} : (a && (b && c)) = ((a && b) && c) := by cases a <;> rfl
theorem hasTree_nat {S : Rb16.State} {c n : Int} (h : hasTree S c n = true) : ∃ cn m : Nat, c = (cn : Int) ∧ n = (m : Int) ∧ 1 ≤ m ∧ m ≤ 12 ∧ cn + (2 ^ m - 1) ≤ S.chances.length := by
  unfold hasTree Rb16.fitsTree at h
  rw [Bool.and_eq_true, Bool.and_eq_true, decide_eq_true_eq, decide_eq_true_eq] at h
  obtain ⟨m, rfl, h1, h2⟩ := within_nat (by decide) h.1
  refine ⟨c.toNat, m, by omega, rfl, by omega, by omega, ?_⟩
  have := h.2.2
  rw [Int.toNat_natCast] at this
  exact this
theorem ok_atree {f fIT fTS : Addr} (D : Def K "answer_tree" "answer_tree" sATree f ["desk", "call"]) (G : GsD mg A) (T : Dk K A) (FWs : Fn P w K mg base 1 A.fWs ["self"] (spWs A)) (mIT : mg "is_tree" = some (.ref fIT)) (FIT : Fn P w K mg base 1 fIT ["desk", "c", "n"] (spIT A))
    (mTS : mg "tree_steps" = some (.ref fTS)) (FTS : Fn P w K mg base 1 fTS ["c", "n", "x"] spTSteps) (FDT : Fn P w K mg base 6 A.fDT ["self", "steps"] (spDT A)) : Fn P w K mg base 7 f ["desk", "call"] (spAw A 3) := by
  refine D.ok scTr (fun vs H Q E h => ?_) (fun cdv A' outer s0 H vs Q E hr h => ?_)
  · obtain ⟨d, lc, S, fp, l, rfl, _⟩ := h
    rfl
  · obtain ⟨d, lc, S, fp, l, rfl, dk, hl, sh, kk⟩ := h
    obtain ⟨c, n, x, rfl⟩ := sh
    obtain ⟨dd, p, hd⟩ := dk.obj
    have hr1 : Room 1 _ := hr.mono (by decide)
    refine ⟨_, pss_cons (ps_set (i := 2) scTr.nd rfl (Or.inl rfl) (pe_ix ix_list (pv 1) pe_int (fun _ _ => rfl))) (pss_cons (ps_set (i := 3) scTr.nd rfl (Or.inl rfl) (pe_ix ix_list (pv 1) pe_int (fun _ _ => rfl))) (pss_cons (ps_set (i := 4) scTr.nd rfl (Or.inl rfl) (pe_ix ix_list (pv 1) pe_int (fun _ _ => rfl)))
      (pss_cons (ps_if ((pw_or (pt_not (pt_val (pe_methN0 (pv 0) T.cl T.mWs FWs hr1))) (pw_or (pt_not (pt_val (pe_callN FIT hr1 (by rfl) mIT (pa_cons (pv 0) (pa_cons (pv 2) (pa_cons (pv 3) pa_nil)))))) (pw_or1 (pt_not (pt_chain oc_le oc_lt pe_int (pv 4) (pe_op op_shl pe_int (pv 3))))))) _)
        (pss_one (ps_ret (pe_lst (pa_cons (pe_gint rfl G.refused) pa_nil)))) pss_nil)
      (pss_one (ps_ret (pe_methN (pv 0) T.cl T.mDT FDT hr (pa_cons (pe_callN FTS hr1 rfl mTS (pa_cons (pv 2) (pa_cons (pv 3) (pa_cons (pv 4) pa_nil)))) pa_nil))))))), ?_⟩
    refine ⟨_, rfl, lc, _, _, _, rfl, rfl, SqL.of hl, at_of (j := 1) rfl rfl, ?_⟩
    refine ⟨_, rfl, lc, _, _, _, rfl, rfl, SqL.of hl, at_of (j := 2) rfl rfl, ?_⟩
    refine ⟨_, rfl, lc, _, _, _, rfl, rfl, SqL.of hl, at_of (j := 3) rfl rfl, ?_⟩
    refine ⟨_, rfl, d, dd, _, rfl, hd, df_no .., d, S, fp, rfl, dk, _, rfl, ?_⟩
    cases S with
    | reading s =>
      refine itT rfl (itT rfl ?_)
      refine ⟨sz1, fun r hr => ?_⟩
      exact aw_ref dk hr (x := .tree c n x) rfl rfl kk
    | writing s =>
      refine itF rfl ?_
      refine ⟨_, rfl, _, rfl, _, rfl, d, _, fp, c, n, rfl, dk, _, rfl, ?_⟩
      by_cases hc : hasTree (.writing s) c n = true
      · refine itF (by rw [hc]; rfl) ?_
        obtain ⟨cn, m, rfl, rfl, hm1, hm2, hm3⟩ := hasTree_nat hc
        have hm3 : cn + (2 ^ m - 1) ≤ s.chances.length := hm3
        have hp : (1 : Nat) ≤ 2 ^ m := Nat.one_le_two_pow
        have ep : (1 : Int) * 2 ^ ((m : Int)).toNat = ((2 ^ m : Nat) : Int) := by rw [Int.toNat_natCast, Int.one_mul]; norm_cast
        refine ⟨_, rfl, _, _, rfl, rfl, ?_⟩
        by_cases h1 : (0 : Int) ≤ x
        · refine .inl ⟨h1, _, rfl, itT rfl ?_⟩
          refine ⟨_, rfl, _, _, rfl, rfl, ⟨by omega, by omega, by decide⟩, _, _, rfl, rfl, ?_⟩
          obtain ⟨xn, rfl⟩ : ∃ m : Nat, x = m := ⟨x.toNat, by omega⟩
          by_cases h2 : xn < 2 ^ m
          · refine .inl ⟨(show (xn : Int) < 1 * 2 ^ ((m : Int)).toNat by rw [ep]; omega), _, rfl, itF rfl ?_⟩
            obtain ⟨t1, t2⟩ := tree_ok (v := xn) hm1 hm3
            refine ⟨_, rfl, d, dd, _, rfl, hd, df_no .., _, rfl, _, rfl, _, rfl, cn, m, xn, rfl, hm2, fun H2 ls as nls h2' ht k2 => ?_⟩
            refine ⟨d, ls, s, fp, as, _, rfl, dk.keep k2, h2', dk.off nls, ht, t1, t2, fun q hq => ?_, fun H' r H1 D1 k3 hr e => ?_⟩
            · exact tree_bits (fun b hb => bits_le hb) hq
            · subst e
              refine aw_tell k2 D1 k3 hr (step_only (x := .tree (cn : Int) (m : Int) (xn : Int)) rfl ?_) kk
              refine (if_pos ?_).trans ?_
              · rw [tree_and, Bool.and_eq_true]
                refine ⟨hc, ?_⟩
                rw [Bool.and_eq_true]
                exact ⟨decide_eq_true h1, decide_eq_true (show ((xn : Int)).toNat < 2 ^ ((m : Int)).toNat from h2)⟩
              · show Rb16.wrote s (Rb16.putTree s cn 1 (Rb16.bitsOf m xn)) = _
                rw [putTree_steps]
                exact wrote_eq _ _
          · refine .inr ⟨(show ¬ (xn : Int) < 1 * 2 ^ ((m : Int)).toNat by rw [ep]; omega), _, rfl, itT rfl ?_⟩
            refine ⟨sz1, fun r hr => ?_⟩
            refine aw_ref dk hr (x := .tree (cn : Int) (m : Int) (xn : Int)) rfl (if_neg ?_) kk
            rw [tree_and, Bool.and_eq_true, Bool.and_eq_true (decide _)]
            exact fun z => h2 (of_decide_eq_true z.2.2)
        · refine .inr ⟨h1, _, rfl, itF rfl ?_⟩
          refine ⟨_, rfl, itT rfl ?_⟩
          refine ⟨sz1, fun r hr => ?_⟩
          refine aw_ref dk hr (x := .tree (cn : Int) (m : Int) x) rfl (if_neg ?_) kk
          rw [tree_and, Bool.and_eq_true, Bool.and_eq_true (decide _)]
          exact fun z => h1 (of_decide_eq_true z.2.1)
      · refine itT (by rw [Bool.eq_false_iff.mpr hc]; rfl) (itT rfl ?_)
        refine ⟨sz1, fun r hr => ?_⟩
        refine aw_ref dk hr (x := .tree c n x) rfl (if_neg ?_) kk
        rw [tree_and, Bool.and_eq_true]
        exact fun z => hc z.1
end
end Cb

end
section
set_option Elab.async false
set_option linter.all false
set_option maxRecDepth 100000
set_option maxHeartbeats 2000000
namespace Cb
open PySem PySem.Spec PyProof.Rows L2

theorem nats_ints (gs : List Nat) : Rb16Neutral.nats (gs.map fun (n : Nat) => (n : Int)) = gs := by
  unfold Rb16Neutral.nats
  rw [List.map_map]
  conv => rhs; rw [← List.map_id gs]
  refine List.map_congr_left fun n _ => ?_
  show ((n : Int)).toNat = n
  exact Int.toNat_natCast n
theorem cut_open (k : Int) (gs : List Nat) : cutV ((5 :: k :: (gs.length : Int) :: gs.map fun (n : Nat) => (n : Int)).map V.int) (some 3) none = nV gs := by
  unfold cutV
  have e : HT.sIx ((5 :: k :: (gs.length : Int) :: gs.map fun (n : Nat) => (n : Int)).map V.int).length 0 (some 3) = 3 := by
    have := HT.sIx_nat ((5 :: k :: (gs.length : Int) :: gs.map fun (n : Nat) => (n : Int)).map V.int).length 0 3
    refine this.trans ?_
    simp only [List.length_map, List.length_cons]
    omega
  rw [e, HT.sIx_none]
  show ((gs.map fun (n : Nat) => (n : Int)).map V.int).take _ = _
  rw [List.take_of_length_le, List.map_map]
  · rfl
  · simp only [List.length_map, List.length_cons]
    omega

section
variable {P : Program} {w : World} {K : PySem.W.Frag} {mg : Str → Option Value} {base : Heap} {A : Ad}
theorem scFi : FnScope ["desk", "call", "most", "written"] ["desk", "call"] (defScope sAFin) := ⟨rfl, rfl, rfl, by decide +kernel, rfl, by decide +kernel, by decide +kernel⟩
theorem ok_afin {f : Addr} (D : Def K "answer_finish" "answer_finish" sAFin f ["desk", "call"]) (G : GsD mg A) (T : Dk K A) (FWs : Fn P w K mg base 1 A.fWs ["self"] (spWs A)) (FWt : Fn P w K mg base 1 A.fWt ["self"] (spWritten A.cW)) :
    Fn P w K mg base 7 f ["desk", "call"] (spAw A 4) := by
  refine D.ok scFi (fun vs H Q E h => ?_) (fun cdv A' outer s0 H vs Q E hr h => ?_)
  · obtain ⟨d, lc, S, fp, l, rfl, _⟩ := h
    rfl
  · obtain ⟨d, lc, S, fp, l, rfl, dk, hl, sh, kk⟩ := h
    obtain ⟨m, rfl⟩ := sh
    obtain ⟨dd, p, hd⟩ := dk.obj
    have hr1 : Room 1 _ := hr.mono (by decide)
    have hz := sizeLine_eq
    refine ⟨_, pss_cons (ps_set (i := 2) scFi.nd rfl (Or.inl rfl) (pe_ix ix_list (pv 1) pe_int (fun _ _ => rfl)))
      (pss_cons (ps_if (pt_not (pt_val (pe_methN0 (pv 0) T.cl T.mWs FWs hr1))) (pss_one (ps_ret (pe_lst (pa_cons (pe_gint rfl G.refused) pa_nil)))) pss_nil)
      (pss_cons (ps_set (i := 3) scFi.nd rfl (Or.inl rfl) (pe_methN0 (pe_fld (pv 0) rfl) T.wr.cod.cl T.mWt FWt hr1))
      (pss_cons (ps_if (pt_cmpR oc_lt (pv 2) (pe_callB call_len_seq (by rfl) G.len PySem.boot_len (pa_cons (pv 3) pa_nil)) (nomark _)) (pss_one (ps_ret (pe_lst (pa_cons (pe_gint rfl G.noroom) pa_nil)))) pss_nil)
      (pss_one (ps_ret (pe_op op_cat (pe_lst (pa_cons (pe_callB call_len_seq (by rfl) G.len PySem.boot_len (pa_cons (pv 3) pa_nil)) pa_nil)) (pv 3))))))), ?_⟩
    refine ⟨_, rfl, lc, _, _, _, rfl, rfl, SqL.of hl, at_of (j := 1) rfl rfl, ?_⟩
    refine ⟨_, rfl, d, dd, _, rfl, hd, df_no .., d, S, fp, rfl, dk, _, rfl, ?_⟩
    cases S with
    | reading s =>
      refine itT rfl ?_
      refine ⟨sz1, fun r hr => ?_⟩
      exact aw_ref dk hr (x := .finish m) rfl rfl kk
    | writing s =>
      refine itF rfl ?_
      obtain ⟨dd, p, dx, lc', lh, rfl, hd, w3, inv⟩ := id dk
      obtain ⟨hi, lo, h3, wr⟩ := id w3
      refine ⟨_, rfl, d, A.cD, dd, _, _, rfl, hd, T.cl, T.nC, df_c p, p, dx, _, rfl, h3.o, wf_no .., p, dx, lc', lh, s, rfl, w3, inv.most, fun H1 lw nlw hlw k1 => ?_⟩
      refine ⟨_, rfl, _, rfl, lw, _, rfl, .inl (SqL.of hlw), _, _, rfl, rfl, ?_⟩
      have hwl : (Rb16.written s).length ≤ 1048576 := by
        rw [written_rep wr, List.length_append]
        have := inv.most
        have := wr.grown
        show hi.length + 4 ≤ _
        omega
      by_cases hm : (Rb16.written s).length ≤ m
      · refine .inr ⟨(show ¬ m < (((nV (Rb16.written s)).length : Nat) : Int) by rw [nV_len]; omega), _, rfl, itF rfl ?_⟩
        refine ⟨_, rfl, lw, _, rfl, .inl (SqL.of hlw), sz1, fun l1 hl1 => ?_⟩
        have nl1 : lw ≠ l1 := ne_of_none hlw hl1
        refine ⟨_, rfl, l1, lw, _, _, rfl, rfl, upd_same, (by rw [upd_ne nl1]; exact hlw), ?_, fun r hr => ?_⟩
        · show 1 + (nV (Rb16.written s)).length ≤ sizeLine
          rw [nV_len]
          omega
        · have k2 : Keep [] H (upd H1 l1 (.lst [.int ((nV (Rb16.written s)).length : Nat)])) := k1.new hl1
          have e : ([V.int ((nV (Rb16.written s)).length : Nat)] : List V) ++ nV (Rb16.written s) = (((Rb16.written s).length : Int) :: (Rb16.written s).map fun (n : Nat) => (n : Int)).map V.int := by
            rw [List.map_cons, List.map_map, nV_len]
            rfl
          rw [e]
          refine aw_new (fq := []) (dk.keep k2) (fun b hb => .inl hb) k2 (by simp) (by simp) hr (step_more (S := .writing s) (x := .finish m) rfl (if_pos hm) (by omega)) kk
      · refine .inl ⟨(show m < (((nV (Rb16.written s)).length : Nat) : Int) by rw [nV_len]; omega), _, rfl, itT rfl ?_⟩
        refine ⟨sz1, fun r hr => ?_⟩
        exact aw_new (l := [-1]) (fq := []) (dk.keep k1) (fun b hb => .inl hb) k1 (by simp) (by simp) hr (step_only (S := .writing s) (x := .finish m) rfl (if_neg hm)) kk
theorem scOp : FnScope ["desk", "call", "k", "given", "byte"] ["desk", "call"] (defScope sAOpen) := ⟨rfl, rfl, rfl, by decide +kernel, rfl, by decide +kernel, by decide +kernel⟩
theorem rep_all (n : Nat) : (List.replicate n true).all id = true := by
  induction n with
  | zero => rfl
  | succ n ih => rw [List.replicate_succ, List.all_cons, ih]; rfl
theorem rep_snoc (n : Nat) : (List.replicate n true).map V.bl ++ [V.bl true] = (List.replicate (n + 1) true).map V.bl := by
  rw [List.replicate_succ', List.map_append]
  rfl
theorem ok_aopen {f fI fRI : Addr} (D : Def K "answer_open" "answer_open" sAOpen f ["desk", "call"]) (G : GsD mg A) (T : Dk K A) (mI : mg "is_chance_count" = some (.ref fI)) (FI : Fn P w K mg base 1 fI ["k"] spICC) (M : Mk K A.cR fRI) (FR : Fn P w K mg base 2 fRI ["self", "k", "given"] (spRInit A.cR)) :
    Fn P w K mg base 7 f ["desk", "call"] (spAw A 5) := by
  refine D.ok scOp (fun vs H Q E h => ?_) (fun cdv A' outer s0 H vs Q E hr h => ?_)
  · obtain ⟨d, lc, S, fp, l, rfl, _⟩ := h
    rfl
  · obtain ⟨d, lc, S, fp, l, rfl, dk, hl, sh, kk⟩ := h
    obtain ⟨k, gs, rfl, hbs, hlen⟩ := sh
    obtain ⟨dd, p, hd⟩ := dk.obj
    have hr1 : Room 1 _ := hr.mono (by decide)
    have hr3 : Room 3 _ := hr.mono (by decide)
    have hz := sizeLine_eq
    refine ⟨_, pss_cons (ps_set (i := 2) scOp.nd rfl (Or.inl rfl) (pe_ix ix_list (pv 1) pe_int (fun _ _ => rfl))) (pss_cons (ps_set (i := 3) scOp.nd rfl (Or.inl rfl) (pe_slice sl_list (pv 1) (po_some pe_int) po_none))
      (pss_cons (ps_if ((pw_or (pt_not (pt_val (pe_callN FI hr1 (by rfl) mI (pa_cons (pv 2) pa_nil)))) (pw_or1 (pt_cmpR oc_gt (pe_callB call_len_seq (by rfl) G.len PySem.boot_len (pa_cons (pv 3) pa_nil)) (pe_gint (by rfl) G.mgiv) (nomark _)))) _)
        (pss_one (ps_ret (pe_lst (pa_cons (pe_gint rfl G.refused) pa_nil)))) pss_nil)
      (pss_cons (ps_if (pt_not (pt_val (pe_callB (cr_all rfl) (by rfl) G.all PyProof.Rows.boot_all (pa_cons (pe_lc (own := [("byte", 4)]) rfl scOp.nd (pi_list (pv 3)) (blkOk_by (show blkC ["desk", "call", "k", "given", "byte"] (defScope sAOpen) _ _ = true by decide +kernel))
          (fun _ _ _ _ _ => pg_name (i := 4) scOp.nd rfl (Or.inl rfl)) (fun _ _ _ _ _ => pts_nil) (fun _ _ _ _ _ => pe_chain oc_le oc_le pe_int (pv 4) pe_int)) pa_nil))))
        (pss_one (ps_ret (pe_lst (pa_cons (pe_gint rfl G.refused) pa_nil)))) pss_nil)
      (pss_cons (ps_fld (pv 0) (pe_makeN M FR hr3 rfl G.cR (pa_cons (pv 2) (pa_cons (pv 3) pa_nil))) rfl) (pss_one (ps_ret (pe_lst (pa_cons (pe_gint rfl G.done) pa_nil)))))))), ?_⟩
    refine ⟨_, rfl, lc, _, _, _, rfl, rfl, SqL.of hl, at_of (j := 1) rfl rfl, ?_⟩
    refine ⟨_, rfl, 3, rfl, lc, _, rfl, SqL.of hl, fun lg nlg => ?_⟩
    rw [cut_open]
    have hlg : upd H lg (.lst (nV gs)) lg = some (il gs) := upd_same
    have kg : Keep [] H (upd H lg (.lst (nV gs))) := (Keep.refl [] H).new nlg
    generalize upd H lg (.lst (nV gs)) = Hg at hlg kg
    have ecall : Rb16Neutral.callOf (neut (5 :: k :: (gs.length : Int) :: gs.map fun (n : Nat) => (n : Int))) = some (.open_ gs (gs.length : Int) k) := by
      show some (Rb16.Call.open_ (Rb16Neutral.nats (gs.map fun (n : Nat) => (n : Int))) ((((gs.map fun (n : Nat) => (n : Int)).length : Nat) : Int)) k) = _
      rw [nats_ints, List.length_map]
    refine ⟨_, rfl, k, rfl, _, rfl, ?_⟩
    by_cases hw : Rb16.within k 1 4096 = true
    · refine itF (by rw [hw]; rfl) ?_
      obtain ⟨kn, rfl, hk1, hk2⟩ := within_nat (by decide) hw
      refine ⟨_, rfl, lg, _, rfl, .inl (SqL.of hlg), _, _, rfl, rfl, .inr ⟨(show ¬ (20000 : Int) < (((nV gs).length : Nat) : Int) by rw [nV_len]; omega), _, rfl, itF rfl ?_⟩⟩
      refine ⟨_, rfl, lg, rfl, ⟨_, SqL.of hlg⟩, fun Dl hD => ?_⟩
      have nD : lg ≠ Dl := ne_of_none hlg hD
      refine lc_list (K := K) (a := lg) (xs := nV gs) (fun i H' => H' lg = some (il gs) ∧ H' Dl = some (.lst ((List.replicate i true).map V.bl)) ∧ Keep [] Hg H') ⟨by rw [upd_ne nD]; exact hlg, upd_same, (Keep.refl [] Hg).new hD⟩ ?_ ?_ ?_
      · rintro i H' _ ⟨h, _⟩
        exact SqL.of h
      · rintro i x H' hx ⟨h1, h2, k2⟩
        obtain ⟨b, hb, rfl⟩ : ∃ b, gs[i]? = some b ∧ x = V.int (b : Int) := by
          rw [List.getElem?_map] at hx
          cases q : gs[i]? with
          | none => rw [q] at hx; cases hx
          | some b => rw [q] at hx; exact ⟨b, rfl, (Option.some.inj hx).symm⟩
        have hb2 := hbs b (List.mem_of_getElem? hb)
        have hi := (List.getElem?_eq_some_iff.mp hb).1
        refine ⟨rfl, ?_⟩
        refine ⟨_, rfl, _, _, rfl, rfl, .inl ⟨(show (0 : Int) ≤ (b : Int) by omega), _, rfl, itT rfl ?_⟩⟩
        refine ⟨_, _, rfl, rfl, .inl ⟨(show (b : Int) ≤ 255 by omega), ?_⟩⟩
        refine ⟨_, h2, (by rw [List.length_map, List.length_replicate]; omega), by rw [upd_ne nD]; exact h1, ?_, ?_⟩
        · rw [upd_same, rep_snoc]
        · intro c o e hc
          rw [upd_ne (ne_of_none e hD)]
          exact k2 c o e hc
      · rintro H2 ⟨h1, h2, k2⟩
        refine ⟨Dl, _, rfl, SqL.of h2, _, rfl, itF (by rw [rep_all]; rfl) ?_⟩
        refine ⟨_, rfl, _, rfl, fun x dx' nx nd ne => ?_⟩
        have k12 : Keep [] H H2 := kg.trans k2
        refine ⟨x, dx', lg, kn, gs, rfl, upd_same, by omega, (by rw [upd_ne (ne_of_none h1 nx), upd_ne (ne_of_none h1 nd)]; exact h1), hbs, fun H3 lc' n1 ro kp => ⟨rfl, ?_⟩⟩
        have kp := Keep.made nx nd kp
        have n1 := free_made n1
        have hd2 := k12 _ _ hd (by simp)
        refine ⟨_, rfl, d, A.cD, dd, _, rfl, kp _ _ hd2 (by simp), T.cl, T.nC, (by show 1 < 1000; decide), ?_⟩
        obtain ⟨q1, q2⟩ := put_reader (fs' := putF "coder" (.ref x) (df p)) hd2 nx n1 (ne_of hd2 h1 (by intro z; cases z)) kp ro hbs (by omega) (by omega) rfl
        refine ⟨sz1, fun r hr => ?_⟩
        refine aw_new (l := [0]) (fq := [d]) q1 (fun b hb => ?_) ((k12.mono (by simp)).trans q2) (fun b hb => ?_) (fun b hb => ?_) hr (step_only ecall (if_pos ?_)) kk
        · simp only [List.mem_cons, List.not_mem_nil, or_false] at hb
          rcases hb with rfl | rfl | rfl | rfl
          · exact .inl dk.mem
          · exact .inr (k12.free nx)
          · exact .inr (k12.free n1)
          · exact .inr nlg
        · have : b = d := by simpa using hb
          subst this
          exact dk.mem
        · have : b = d := by simpa using hb
          subst this
          simp
        · rw [hw, Bool.true_and]
          refine within_of (by omega) ?_
          show (gs.length : Int) ≤ ((1048576 : Nat) : Int)
          omega
    · refine itT (by rw [Bool.eq_false_iff.mpr hw]; rfl) (itT rfl ?_)
      refine ⟨sz1, fun r hr => ?_⟩
      refine aw_new (l := [-2]) (fq := []) (dk.keep kg) (fun b hb => .inl hb) kg (by simp) (by simp) hr (step_only ecall (if_neg ?_)) kk
      rw [Bool.and_eq_true]
      exact fun z => hw z.1
theorem scGe : FnScope ["desk", "call", "c"] ["desk", "call"] (defScope sAGet) := ⟨rfl, rfl, rfl, by decide +kernel, rfl, by decide +kernel, by decide +kernel⟩
theorem ok_aget {f fIC : Addr} (D : Def K "answer_get" "answer_get" sAGet f ["desk", "call"]) (G : GsD mg A) (T : Dk K A) (FWs : Fn P w K mg base 1 A.fWs ["self"] (spWs A)) (mIC : mg "is_chance" = some (.ref fIC)) (FIC : Fn P w K mg base 1 fIC ["desk", "c"] (spIC A))
    (FNB : Fn P w K mg base 4 A.fNB ["self", "c"] (spNBit A.cR)) : Fn P w K mg base 7 f ["desk", "call"] (spAw A 6) := by
  refine D.ok scGe (fun vs H Q E h => ?_) (fun cdv A' outer s0 H vs Q E hr h => ?_)
  · obtain ⟨d, lc, S, fp, l, rfl, _⟩ := h
    rfl
  · obtain ⟨d, lc, S, fp, l, rfl, dk, hl, sh, kk⟩ := h
    obtain ⟨c, rfl⟩ := sh
    obtain ⟨dd, p, hd⟩ := dk.obj
    have hr1 : Room 1 _ := hr.mono (by decide)
    have hr4 : Room 4 _ := hr.mono (by decide)
    refine ⟨_, pss_cons (ps_set (i := 2) scGe.nd rfl (Or.inl rfl) (pe_ix ix_list (pv 1) pe_int (fun _ _ => rfl)))
      (pss_cons (ps_if ((pw_or (pt_val (pe_methN0 (pv 0) T.cl T.mWs FWs hr1)) (pw_or1 (pt_not (pt_val (pe_callN FIC hr1 (by rfl) mIC (pa_cons (pv 0) (pa_cons (pv 2) pa_nil))))))) _) (pss_one (ps_ret (pe_lst (pa_cons (pe_gint rfl G.refused) pa_nil)))) pss_nil)
      (pss_one (ps_ret (pe_lst (pa_cons (pe_methN (pe_fld (pv 0) rfl) T.rr.cod.cl T.rr.mNB FNB hr4 (pa_cons (pv 2) pa_nil)) pa_nil))))), ?_⟩
    refine ⟨_, rfl, lc, _, _, _, rfl, rfl, SqL.of hl, at_of (j := 1) rfl rfl, ?_⟩
    refine ⟨_, rfl, d, dd, _, rfl, hd, df_no .., d, S, fp, rfl, dk, _, rfl, ?_⟩
    cases S with
    | writing s =>
      refine itT rfl (itT rfl ?_)
      refine ⟨sz1, fun r hr => ?_⟩
      exact aw_ref dk hr (x := .getBit c) rfl rfl kk
    | reading s =>
      refine itF rfl ?_
      refine ⟨_, rfl, _, rfl, d, _, fp, c, rfl, dk, _, rfl, ?_⟩
      by_cases hc : hasCh (.reading s) c = true
      · refine itF (by rw [hc]; rfl) ?_
        obtain ⟨cn, rfl, hcn⟩ := hasCh_nat hc
        have hcn : cn < s.chances.length := hcn
        obtain ⟨v, hv, eo⟩ := chOf_lt hcn
        obtain ⟨dd, p, dx, lc', lg, rfl, hd, ro, inv⟩ := id dk
        obtain ⟨gs, tk, h3, er, htk⟩ := id ro
        refine ⟨_, rfl, d, A.cD, dd, _, _, rfl, hd, T.cl, T.nC, df_c p, p, dx, _, rfl, h3.o, rf_no .., _, rfl, p, dx, lc', lg, s, some cn, _, rfl, ro, inv, eo, fun H1 r1 k1 => ?_⟩
        refine ⟨sz1, fun r hr => ?_⟩
        have inv2 : IInv (stepIn s (some cn)).2 := by rw [stepIn_eq inv eo]; exact (stepIn_inv inv eo).1
        refine aw_new (l := [((stepIn s (some cn)).1 : Int)]) (S1 := .reading (stepIn s (some cn)).2) (fq := [d, p, lc', lg]) ⟨dd, p, dx, lc', lg, rfl, k1 _ _ hd (desk_ne hd h3.o (by show 2 ≤ 5; decide) h3.c h3.g), r1, inv2⟩ (fun b hb => .inl hb)
          (k1.mono fun b hb => List.mem_cons_of_mem _ hb) (fun _ h => h) (fun _ h => h) hr (step_only (S := .reading s) (x := .getBit (cn : Int)) rfl (if_pos hc)) kk
      · refine itT (by rw [Bool.eq_false_iff.mpr hc]; rfl) ?_
        refine ⟨sz1, fun r hr => ?_⟩
        exact aw_ref dk hr (x := .getBit c) rfl (if_neg hc) kk
theorem scGE : FnScope ["desk", "call", "n"] ["desk", "call"] (defScope sAGE) := ⟨rfl, rfl, rfl, by decide +kernel, rfl, by decide +kernel, by decide +kernel⟩
theorem ok_agete {f fIE : Addr} (D : Def K "answer_get_even" "answer_get_even" sAGE f ["desk", "call"]) (G : GsD mg A) (T : Dk K A) (FWs : Fn P w K mg base 1 A.fWs ["self"] (spWs A)) (mIE : mg "is_even_count" = some (.ref fIE)) (FIE : Fn P w K mg base 1 fIE ["n"] spIEC)
    (FNE : Fn P w K mg base 5 A.fNE ["self", "n"] (spNEven A.cR)) : Fn P w K mg base 7 f ["desk", "call"] (spAw A 7) := by
  refine D.ok scGE (fun vs H Q E h => ?_) (fun cdv A' outer s0 H vs Q E hr h => ?_)
  · obtain ⟨d, lc, S, fp, l, rfl, _⟩ := h
    rfl
  · obtain ⟨d, lc, S, fp, l, rfl, dk, hl, sh, kk⟩ := h
    obtain ⟨n, rfl⟩ := sh
    obtain ⟨dd, p, hd⟩ := dk.obj
    have hr1 : Room 1 _ := hr.mono (by decide)
    have hr5 : Room 5 _ := hr.mono (by decide)
    refine ⟨_, pss_cons (ps_set (i := 2) scGE.nd rfl (Or.inl rfl) (pe_ix ix_list (pv 1) pe_int (fun _ _ => rfl)))
      (pss_cons (ps_if ((pw_or (pt_val (pe_methN0 (pv 0) T.cl T.mWs FWs hr1)) (pw_or1 (pt_not (pt_val (pe_callN FIE hr1 (by rfl) mIE (pa_cons (pv 2) pa_nil)))))) _) (pss_one (ps_ret (pe_lst (pa_cons (pe_gint rfl G.refused) pa_nil)))) pss_nil)
      (pss_one (ps_ret (pe_lst (pa_cons (pe_gint rfl G.done) (pa_cons (pe_methN (pe_fld (pv 0) rfl) T.rr.cod.cl T.mNE FNE hr5 (pa_cons (pv 2) pa_nil)) pa_nil)))))), ?_⟩
    refine ⟨_, rfl, lc, _, _, _, rfl, rfl, SqL.of hl, at_of (j := 1) rfl rfl, ?_⟩
    refine ⟨_, rfl, d, dd, _, rfl, hd, df_no .., d, S, fp, rfl, dk, _, rfl, ?_⟩
    cases S with
    | writing s =>
      refine itT rfl (itT rfl ?_)
      refine ⟨sz1, fun r hr => ?_⟩
      exact aw_ref dk hr (x := .getEven n) rfl rfl kk
    | reading s =>
      refine itF rfl ?_
      refine ⟨_, rfl, n, rfl, _, rfl, ?_⟩
      by_cases hw : Rb16.within n 0 32 = true
      · refine itF (by rw [hw]; rfl) ?_
        obtain ⟨m, rfl, hm1, hm2⟩ := within_nat (by decide) hw
        obtain ⟨dd, p, dx, lc', lg, rfl, hd, ro, inv⟩ := id dk
        obtain ⟨gs, tk, h3, er, htk⟩ := id ro
        refine ⟨_, rfl, d, A.cD, dd, _, _, rfl, hd, T.cl, T.nC, df_c p, p, dx, _, rfl, h3.o, rf_no .., _, rfl, p, dx, lc', lg, s, m, rfl, ro, inv, by omega, fun H1 r1 k1 => ?_⟩
        refine ⟨sz2, fun r hr => ?_⟩
        refine aw_new (l := [0, ((Rb16.getEven m 0 s).1 : Int)]) (S1 := .reading (Rb16.getEven m 0 s).2) (fq := [d, p, lc', lg]) ⟨dd, p, dx, lc', lg, rfl, k1 _ _ hd (desk_ne hd h3.o (by show 2 ≤ 5; decide) h3.c h3.g), r1, (even_inv m 0 s inv).1⟩ (fun b hb => .inl hb)
          (k1.mono fun b hb => List.mem_cons_of_mem _ hb) (fun _ h => h) (fun _ h => h) hr (step_more (S := .reading s) (v := 0) (l := [(Rb16.getEven m 0 s).1]) (x := .getEven (m : Int)) rfl (if_pos hw) (by decide)) kk
      · refine itT (by rw [Bool.eq_false_iff.mpr hw]; rfl) ?_
        refine ⟨sz1, fun r hr => ?_⟩
        exact aw_ref dk hr (x := .getEven n) rfl (if_neg hw) kk
theorem scGT : FnScope ["desk", "call", "c", "n"] ["desk", "call"] (defScope sAGT) := ⟨rfl, rfl, rfl, by decide +kernel, rfl, by decide +kernel, by decide +kernel⟩
theorem ok_agett {f fIT : Addr} (D : Def K "answer_get_tree" "answer_get_tree" sAGT f ["desk", "call"]) (G : GsD mg A) (T : Dk K A) (FWs : Fn P w K mg base 1 A.fWs ["self"] (spWs A)) (mIT : mg "is_tree" = some (.ref fIT)) (FIT : Fn P w K mg base 1 fIT ["desk", "c", "n"] (spIT A))
    (FNT : Fn P w K mg base 5 A.fNT ["self", "c", "n"] (spNTree A.cR)) : Fn P w K mg base 7 f ["desk", "call"] (spAw A 8) := by
  refine D.ok scGT (fun vs H Q E h => ?_) (fun cdv A' outer s0 H vs Q E hr h => ?_)
  · obtain ⟨d, lc, S, fp, l, rfl, _⟩ := h
    rfl
  · obtain ⟨d, lc, S, fp, l, rfl, dk, hl, sh, kk⟩ := h
    obtain ⟨c, n, rfl⟩ := sh
    obtain ⟨dd, p, hd⟩ := dk.obj
    have hr1 : Room 1 _ := hr.mono (by decide)
    have hr5 : Room 5 _ := hr.mono (by decide)
    refine ⟨_, pss_cons (ps_set (i := 2) scGT.nd rfl (Or.inl rfl) (pe_ix ix_list (pv 1) pe_int (fun _ _ => rfl))) (pss_cons (ps_set (i := 3) scGT.nd rfl (Or.inl rfl) (pe_ix ix_list (pv 1) pe_int (fun _ _ => rfl)))
      (pss_cons (ps_if ((pw_or (pt_val (pe_methN0 (pv 0) T.cl T.mWs FWs hr1)) (pw_or1 (pt_not (pt_val (pe_callN FIT hr1 (by rfl) mIT (pa_cons (pv 0) (pa_cons (pv 2) (pa_cons (pv 3) pa_nil)))))))) _) (pss_one (ps_ret (pe_lst (pa_cons (pe_gint rfl G.refused) pa_nil)))) pss_nil)
      (pss_one (ps_ret (pe_lst (pa_cons (pe_methN (pe_fld (pv 0) rfl) T.rr.cod.cl T.mNT FNT hr5 (pa_cons (pv 2) (pa_cons (pv 3) pa_nil))) pa_nil)))))), ?_⟩
    refine ⟨_, rfl, lc, _, _, _, rfl, rfl, SqL.of hl, at_of (j := 1) rfl rfl, ?_⟩
    refine ⟨_, rfl, lc, _, _, _, rfl, rfl, SqL.of hl, at_of (j := 2) rfl rfl, ?_⟩
    refine ⟨_, rfl, d, dd, _, rfl, hd, df_no .., d, S, fp, rfl, dk, _, rfl, ?_⟩
    cases S with
    | writing s =>
      refine itT rfl (itT rfl ?_)
      refine ⟨sz1, fun r hr => ?_⟩
      exact aw_ref dk hr (x := .getTree c n) rfl rfl kk
    | reading s =>
      refine itF rfl ?_
      refine ⟨_, rfl, _, rfl, _, rfl, d, _, fp, c, n, rfl, dk, _, rfl, ?_⟩
      by_cases hc : hasTree (.reading s) c n = true
      · refine itF (by rw [hc]; rfl) ?_
        obtain ⟨cn, m, rfl, rfl, hm1, hm2, hm3⟩ := hasTree_nat hc
        have hm3 : cn + (2 ^ m - 1) ≤ s.chances.length := hm3
        have hp : (1 : Nat) ≤ 2 ^ m := Nat.one_le_two_pow
        obtain ⟨dd, p, dx, lc', lg, rfl, hd, ro, inv⟩ := id dk
        obtain ⟨gs, tk, h3, er, htk⟩ := id ro
        refine ⟨_, rfl, d, A.cD, dd, _, _, rfl, hd, T.cl, T.nC, df_c p, p, dx, _, rfl, h3.o, rf_no .., _, rfl, _, rfl, p, dx, lc', lg, s, cn, m, rfl, ro, inv, hm2, hm3, fun H1 r1 k1 => ?_⟩
        refine ⟨sz1, fun r hr => ?_⟩
        refine aw_new (l := [((Rb16.getTree m cn 1 s).1 : Int) - 2 ^ m]) (S1 := .reading (Rb16.getTree m cn 1 s).2) (fq := [d, p, lc', lg]) ⟨dd, p, dx, lc', lg, rfl, k1 _ _ hd (desk_ne hd h3.o (by show 2 ≤ 5; decide) h3.c h3.g), r1, (tree_inv m cn 1 s inv (Nat.le_refl _) (by omega)).1⟩ (fun b hb => .inl hb)
          (k1.mono fun b hb => List.mem_cons_of_mem _ hb) (fun _ h => h) (fun _ h => h) hr (step_only (S := .reading s) (x := .getTree (cn : Int) (m : Int)) rfl (if_pos hc)) kk
      · refine itT (by rw [Bool.eq_false_iff.mpr hc]; rfl) ?_
        refine ⟨sz1, fun r hr => ?_⟩
        exact aw_ref dk hr (x := .getTree c n) rfl (if_neg hc) kk
theorem scCh : FnScope ["desk", "call", "c"] ["desk", "call"] (defScope sACh) := ⟨rfl, rfl, rfl, by decide +kernel, rfl, by decide +kernel, by decide +kernel⟩
theorem ok_achance {f fIC : Addr} (D : Def K "answer_chance" "answer_chance" sACh f ["desk", "call"]) (G : GsD mg A) (T : Dk K A) (mIC : mg "is_chance" = some (.ref fIC)) (FIC : Fn P w K mg base 1 fIC ["desk", "c"] (spIC A)) : Fn P w K mg base 7 f ["desk", "call"] (spAw A 9) := by
  refine D.ok scCh (fun vs H Q E h => ?_) (fun cdv A' outer s0 H vs Q E hr h => ?_)
  · obtain ⟨d, lc, S, fp, l, rfl, _⟩ := h
    rfl
  · obtain ⟨d, lc, S, fp, l, rfl, dk, hl, sh, kk⟩ := h
    obtain ⟨c, rfl⟩ := sh
    obtain ⟨dd, p, C, dx, fs, lq, wd, hd, cod, ca, _, _⟩ := dk.view T
    have hr1 : Room 1 _ := hr.mono (by decide)
    refine ⟨_, pss_cons (ps_set (i := 2) scCh.nd rfl (Or.inl rfl) (pe_ix ix_list (pv 1) pe_int (fun _ _ => rfl)))
      (pss_cons (ps_if (pt_not (pt_val (pe_callN FIC hr1 rfl mIC (pa_cons (pv 0) (pa_cons (pv 2) pa_nil))))) (pss_one (ps_ret (pe_lst (pa_cons (pe_gint rfl G.refused) pa_nil)))) pss_nil)
      (pss_one (ps_ret (pe_lst (pa_cons (pe_ix ix_list (pe_fld (pe_fld (pv 0) rfl) rfl) (pv 2) (fun _ _ => rfl)) pa_nil))))), ?_⟩
    refine ⟨_, rfl, lc, _, _, _, rfl, rfl, SqL.of hl, at_of (j := 1) rfl rfl, ?_⟩
    refine ⟨_, rfl, _, rfl, d, _, fp, c, rfl, dk, _, rfl, ?_⟩
    by_cases hc : hasCh S c = true
    · refine itF (by rw [hc]; rfl) ?_
      obtain ⟨cn, rfl, hcn⟩ := hasCh_nat hc
      have hv : S.chances[cn]? = some S.chances[cn] := List.getElem?_eq_getElem hcn
      refine ⟨_, rfl, d, A.cD, dd, _, _, rfl, hd, T.cl, T.nC, df_c p, p, C, dx, fs, _, rfl, ca.ob, cod.cl, cod.nCh, ca.fc, _, rfl, lq, _, _, _, rfl, rfl, SqL.of ca.lst, atI_nat (nV_at hv), sz1, fun r hr => ?_⟩
      refine aw_same (l := [((S.chances[cn] : Nat) : Int)]) dk hr (step_only (x := .chance (cn : Int)) rfl ?_) kk
      show ((if (decide ((0 : Int) ≤ (cn : Int)) && decide (((cn : Int)).toNat < S.chances.length)) = true then Rb16.only ((S.chances.getD ((cn : Int)).toNat 0 : Nat) : Int) else Rb16.refused), S) = _
      have hc' : (decide ((0 : Int) ≤ (cn : Int)) && decide (((cn : Int)).toNat < S.chances.length)) = true := hc
      rw [if_pos hc', Int.toNat_natCast, List.getD_eq_getElem?_getD, hv]
      rfl
    · refine itT (by rw [Bool.eq_false_iff.mpr hc]; rfl) ?_
      refine ⟨sz1, fun r hr => ?_⟩
      refine aw_ref dk hr (x := .chance c) rfl ?_ kk
      show ((if (decide ((0 : Int) ≤ c) && decide (c.toNat < S.chances.length)) = true then Rb16.only ((S.chances.getD c.toNat 0 : Nat) : Int) else Rb16.refused), S) = _
      have hc' : ¬ (decide ((0 : Int) ≤ c) && decide (c.toNat < S.chances.length)) = true := hc
      rw [if_neg hc']
theorem scLf : FnScope ["desk", "call"] ["desk", "call"] (defScope sALeft) := ⟨rfl, rfl, rfl, by decide +kernel, rfl, by decide +kernel, by decide +kernel⟩
theorem ok_aleft {f : Addr} (D : Def K "answer_left" "answer_left" sALeft f ["desk", "call"]) (G : GsD mg A) (T : Dk K A) (FWs : Fn P w K mg base 1 A.fWs ["self"] (spWs A)) (FUn : Fn P w K mg base 1 A.fUn ["self"] (spUnt A.cR)) : Fn P w K mg base 7 f ["desk", "call"] (spAw A 10) := by
  refine D.ok scLf (fun vs H Q E h => ?_) (fun cdv A' outer s0 H vs Q E hr h => ?_)
  · obtain ⟨d, lc, S, fp, l, rfl, _⟩ := h
    rfl
  · obtain ⟨d, lc, S, fp, l, rfl, dk, hl, sh, kk⟩ := h
    have sh : l = [10] := sh
    subst sh
    obtain ⟨dd, p, hd⟩ := dk.obj
    have hr1 : Room 1 _ := hr.mono (by decide)
    refine ⟨_, pss_cons (ps_if (pt_val (pe_methN0 (pv 0) T.cl T.mWs FWs hr1)) (pss_one (ps_ret (pe_lst (pa_cons (pe_gint rfl G.refused) pa_nil)))) pss_nil)
      (pss_one (ps_ret (pe_lst (pa_cons (pe_methN0 (pe_fld (pv 0) rfl) T.rr.cod.cl T.mUn FUn hr1) pa_nil)))), ?_⟩
    refine ⟨_, rfl, d, dd, _, rfl, hd, df_no .., d, S, fp, rfl, dk, _, rfl, ?_⟩
    cases S with
    | writing s =>
      refine itT rfl ?_
      refine ⟨sz1, fun r hr => ?_⟩
      exact aw_ref dk hr (x := .left) rfl rfl kk
    | reading s =>
      refine itF rfl ?_
      obtain ⟨dd, p, dx, lc', lg, rfl, hd, ro, inv⟩ := id dk
      obtain ⟨gs, tk, h3, er, htk⟩ := id ro
      refine ⟨_, rfl, d, A.cD, dd, _, _, rfl, hd, T.cl, T.nC, df_c p, p, dx, _, rfl, h3.o, rf_no .., p, dx, lc', lg, s, rfl, ro, sz1, fun r hr => ?_⟩
      exact aw_same (l := [((s.rest.length : Nat) : Int)]) dk hr (step_only (x := .left) rfl rfl) kk
end
end Cb

end
section
set_option Elab.async false
set_option linter.all false
set_option maxRecDepth 100000
set_option maxHeartbeats 2000000
namespace Cb
open PySem PySem.Spec PyProof.Rows L2

/-! ### the calls in their list -/
theorem calls_cons {f : Nat} {p : Int} {r : List Int} {cs : List (List (List Int))} (h : PyFlat.calls PyRb16.shape f (p :: r) = some cs) : ∃ f' c t cs', PyFlat.call PyRb16.shape (p :: r) = some (c, t) ∧ PyFlat.calls PyRb16.shape f' t = some cs' ∧ cs = c :: cs' := by
  cases f with
  | zero => cases h
  | succ f =>
    rw [PyFlat.calls] at h
    cases q : PyFlat.call PyRb16.shape (p :: r) with
    | none => rw [q] at h; cases h
    | some x =>
      obtain ⟨c, t⟩ := x
      rw [q] at h
      dsimp only at h
      cases q2 : PyFlat.calls PyRb16.shape f t with
      | none => rw [q2] at h; cases h
      | some cs' =>
        rw [q2] at h
        exact ⟨f, c, t, cs', rfl, q2, (Option.some.inj h).symm⟩
theorem calls_nil {f : Nat} {cs : List (List (List Int))} (h : PyFlat.calls PyRb16.shape f [] = some cs) : cs = [] := by
  cases f <;> exact (Option.some.inj h).symm
theorem call_plain {p : Int} {r : List Int} {n : Nat} {c : List (List Int)} {t : List Int} (hs : PyRb16.shape p = some (n, 0)) (h : PyFlat.call PyRb16.shape (p :: r) = some (c, t)) : n ≤ r.length ∧ c = [p :: r.take n] ∧ t = r.drop n := by
  rw [PyFlat.call, hs] at h
  dsimp only at h
  by_cases hn : r.length < n
  · rw [if_pos hn] at h; cases h
  · rw [if_neg hn] at h
    have h : some ([p :: r.take n], r.drop n) = some (c, t) := h
    cases h
    exact ⟨by omega, rfl, rfl⟩
theorem call_row {r : List Int} {c : List (List Int)} {t : List Int} (h : PyFlat.call PyRb16.shape (5 :: r) = some (c, t)) : ∃ k m s, r = k :: m :: s ∧ 0 ≤ m ∧ m.toNat ≤ s.length ∧ c = [[5, k], s.take m.toNat] ∧ t = s.drop m.toNat := by
  rw [PyFlat.call, show PyRb16.shape 5 = some (1, 1) from rfl] at h
  dsimp only at h
  cases r with
  | nil => rw [if_pos (by decide)] at h; cases h
  | cons k r =>
    rw [if_neg (by simp)] at h
    cases r with
    | nil => cases h
    | cons m s =>
      have h : (match (match (if 0 ≤ m ∧ m.toNat ≤ s.length then some (s.take m.toNat, s.drop m.toNat) else none : Option (List Int × List Int)) with
        | none => none
        | some (x, s) => some ([x], s) : Option (List (List Int) × List Int)) with
        | none => none
        | some (xs, t) => some ([5, k] :: xs, t)) = some (c, t) := h
      by_cases hm : 0 ≤ m ∧ m.toNat ≤ s.length
      · rw [if_pos hm] at h
        cases h
        exact ⟨k, m, s, rfl, hm.1, hm.2, rfl, rfl⟩
      · rw [if_neg hm] at h
        cases h
theorem nat8 {z : Int} (h : Rb16Neutral.natural z 8 = true) : 0 ≤ z ∧ z < 256 := by
  unfold Rb16Neutral.natural at h
  rw [Bool.and_eq_true, decide_eq_true_eq, decide_eq_true_eq] at h
  exact h
theorem nat32 {z : Int} (h : Rb16Neutral.natural z 32 = true) : 0 ≤ z ∧ z < 4294967296 := by
  unfold Rb16Neutral.natural at h
  rw [Bool.and_eq_true, decide_eq_true_eq, decide_eq_true_eq] at h
  exact h
theorem ints_of : ∀ {b : List Int}, (b.all fun (z : Int) => Rb16Neutral.natural z 8) = true → ∃ gs : List Nat, b = gs.map (fun (n : Nat) => (n : Int)) ∧ Bs gs
  | [], _ => ⟨[], rfl, fun x hx => by simp at hx⟩
  | z :: b, h => by
    rw [List.all_cons, Bool.and_eq_true] at h
    obtain ⟨gs, e, hb⟩ := ints_of h.2
    have hz := nat8 h.1
    refine ⟨z.toNat :: gs, ?_, ?_⟩
    · rw [List.map_cons, ← e]
      have : ((z.toNat : Nat) : Int) = z := by omega
      rw [this]
    · intro x hx
      rcases List.mem_cons.mp hx with q | q
      · omega
      · exact hb x q
theorem shape_lt {p : Int} {x : Nat × Nat} (h : PyRb16.shape p = some x) : p = 0 ∨ p = 1 ∨ p = 2 ∨ p = 3 ∨ p = 4 ∨ p = 5 ∨ p = 6 ∨ p = 7 ∨ p = 8 ∨ p = 9 ∨ p = 10 := by
  unfold PyRb16.shape at h
  by_cases h0 : p = 0; · exact .inl h0
  by_cases h1 : p = 1; · exact .inr (.inl h1)
  by_cases h2 : p = 2; · exact .inr (.inr (.inl h2))
  by_cases h3 : p = 3; · exact .inr (.inr (.inr (.inl h3)))
  by_cases h4 : p = 4; · exact .inr (.inr (.inr (.inr (.inl h4))))
  by_cases h5 : p = 5; · exact .inr (.inr (.inr (.inr (.inr (.inl h5)))))
  by_cases h6 : p = 6; · exact .inr (.inr (.inr (.inr (.inr (.inr (.inl h6))))))
  by_cases h7 : p = 7; · exact .inr (.inr (.inr (.inr (.inr (.inr (.inr (.inl h7)))))))
  by_cases h8 : p = 8; · exact .inr (.inr (.inr (.inr (.inr (.inr (.inr (.inr (.inl h8))))))))
  by_cases h9 : p = 9; · exact .inr (.inr (.inr (.inr (.inr (.inr (.inr (.inr (.inr (.inl h9)))))))))
  by_cases h10 : p = 10; · exact .inr (.inr (.inr (.inr (.inr (.inr (.inr (.inr (.inr (.inr h10)))))))))
  rw [if_neg h0, if_neg h1, if_neg h2, if_neg h3, if_neg h4, if_neg h5, if_neg h6, if_neg h7, if_neg h8, if_neg h9, if_neg h10] at h
  cases h
theorem cons1 {r : List Int} (h : 1 ≤ r.length) : ∃ a s, r = a :: s := by
  cases r with
  | nil => cases h
  | cons a s => exact ⟨a, s, rfl⟩
theorem cons2 {r : List Int} (h : 2 ≤ r.length) : ∃ a b s, r = a :: b :: s := by
  obtain ⟨a, s, rfl⟩ := cons1 (r := r) (by omega)
  obtain ⟨b, s, rfl⟩ := cons1 (r := s) (by simpa using h)
  exact ⟨a, b, s, rfl⟩
theorem cons3 {r : List Int} (h : 3 ≤ r.length) : ∃ a b c s, r = a :: b :: c :: s := by
  obtain ⟨a, b, s, rfl⟩ := cons2 (r := r) (by omega)
  obtain ⟨c, s, rfl⟩ := cons1 (r := s) (by simpa using h)
  exact ⟨a, b, c, s, rfl⟩
/-- a call at the head of a list: its shape, the rest -/
theorem call_split {l t : List Int} {c : List (List Int)} (h : PyFlat.call PyRb16.shape l = some (c, t)) (ha : Rb16Neutral.asked1 c = true) : ∃ p u, Sh p u ∧ l = u ++ t ∧ c = neut u := by
  cases l with
  | nil => cases h
  | cons p r =>
    have hp : ∃ x, PyRb16.shape p = some x := by
      cases q : PyRb16.shape p with
      | none => rw [PyFlat.call, q] at h; cases h
      | some x => exact ⟨x, rfl⟩
    obtain ⟨x, hx⟩ := hp
    rcases shape_lt hx with rfl | rfl | rfl | rfl | rfl | rfl | rfl | rfl | rfl | rfl | rfl
    · obtain ⟨hn, rfl, rfl⟩ := call_plain (n := 1) rfl h
      obtain ⟨a, s, rfl⟩ := cons1 hn
      exact ⟨0, _, ⟨a, rfl⟩, rfl, rfl⟩
    · obtain ⟨hn, rfl, rfl⟩ := call_plain (n := 2) rfl h
      obtain ⟨a, b, s, rfl⟩ := cons2 hn
      exact ⟨1, _, ⟨a, b, rfl⟩, rfl, rfl⟩
    · obtain ⟨hn, rfl, rfl⟩ := call_plain (n := 2) rfl h
      obtain ⟨a, b, s, rfl⟩ := cons2 hn
      have ha : (Rb16Neutral.natural a 32 && Rb16Neutral.whole b 32) = true := ha
      rw [Bool.and_eq_true] at ha
      have h32 := nat32 ha.1
      exact ⟨2, _, ⟨a, b, rfl, h32.1, by omega⟩, rfl, rfl⟩
    · obtain ⟨hn, rfl, rfl⟩ := call_plain (n := 3) rfl h
      obtain ⟨a, b, d, s, rfl⟩ := cons3 hn
      exact ⟨3, _, ⟨a, b, d, rfl⟩, rfl, rfl⟩
    · obtain ⟨hn, rfl, rfl⟩ := call_plain (n := 1) rfl h
      obtain ⟨a, s, rfl⟩ := cons1 hn
      exact ⟨4, _, ⟨a, rfl⟩, rfl, rfl⟩
    · obtain ⟨k, m, s, rfl, hm0, hms, rfl, rfl⟩ := call_row h
      have ha : (Rb16Neutral.whole k 32 && ((s.take m.toNat).all (fun (z : Int) => Rb16Neutral.natural z 8) && decide ((s.take m.toNat).length ≤ 20000))) = true := ha
      rw [Bool.and_eq_true, Bool.and_eq_true, decide_eq_true_eq] at ha
      obtain ⟨gs, e, hb⟩ := ints_of ha.2.1
      have hl : gs.length = m.toNat := by
        have := congrArg List.length e
        rw [List.length_take, List.length_map] at this
        omega
      have hl2 := ha.2.2
      rw [e, List.length_map] at hl2
      refine ⟨5, _, ⟨k, gs, rfl, hb, hl2⟩, ?_, ?_⟩
      · rw [← e, show ((gs.length : Nat) : Int) = m by omega]
        show 5 :: k :: m :: s = 5 :: k :: m :: (s.take m.toNat ++ s.drop m.toNat)
        rw [List.take_append_drop]
      · show [[5, k], s.take m.toNat] = [[5, k], gs.map (fun (n : Nat) => (n : Int))]
        rw [e]
    · obtain ⟨hn, rfl, rfl⟩ := call_plain (n := 1) rfl h
      obtain ⟨a, s, rfl⟩ := cons1 hn
      exact ⟨6, _, ⟨a, rfl⟩, rfl, rfl⟩
    · obtain ⟨hn, rfl, rfl⟩ := call_plain (n := 1) rfl h
      obtain ⟨a, s, rfl⟩ := cons1 hn
      exact ⟨7, _, ⟨a, rfl⟩, rfl, rfl⟩
    · obtain ⟨hn, rfl, rfl⟩ := call_plain (n := 2) rfl h
      obtain ⟨a, b, s, rfl⟩ := cons2 hn
      exact ⟨8, _, ⟨a, b, rfl⟩, rfl, rfl⟩
    · obtain ⟨hn, rfl, rfl⟩ := call_plain (n := 1) rfl h
      obtain ⟨a, s, rfl⟩ := cons1 hn
      exact ⟨9, _, ⟨a, rfl⟩, rfl, rfl⟩
    · obtain ⟨hn, rfl, rfl⟩ := call_plain (n := 0) rfl h
      exact ⟨10, [10], (rfl : ([10] : List Int) = [10]), rfl, rfl⟩
/-- the counts are put in already -/
theorem call_whole {l t : List Int} {c : List (List Int)} (h : PyFlat.call PyRb16.shape l = some (c, t)) : PyRb16.whole c = c := by
  cases l with
  | nil => cases h
  | cons p r =>
    have hp : ∃ x, PyRb16.shape p = some x := by
      cases q : PyRb16.shape p with
      | none => rw [PyFlat.call, q] at h; cases h
      | some x => exact ⟨x, rfl⟩
    obtain ⟨x, hx⟩ := hp
    rcases shape_lt hx with rfl | rfl | rfl | rfl | rfl | rfl | rfl | rfl | rfl | rfl | rfl
    · obtain ⟨hn, rfl, rfl⟩ := call_plain (n := 1) rfl h
      obtain ⟨a, s, rfl⟩ := cons1 hn
      rfl
    · obtain ⟨hn, rfl, rfl⟩ := call_plain (n := 2) rfl h
      obtain ⟨a, b, s, rfl⟩ := cons2 hn
      rfl
    · obtain ⟨hn, rfl, rfl⟩ := call_plain (n := 2) rfl h
      obtain ⟨a, b, s, rfl⟩ := cons2 hn
      rfl
    · obtain ⟨hn, rfl, rfl⟩ := call_plain (n := 3) rfl h
      obtain ⟨a, b, d, s, rfl⟩ := cons3 hn
      rfl
    · obtain ⟨hn, rfl, rfl⟩ := call_plain (n := 1) rfl h
      obtain ⟨a, s, rfl⟩ := cons1 hn
      rfl
    · obtain ⟨k, m, s, rfl, hm0, hms, rfl, rfl⟩ := call_row h
      rfl
    · obtain ⟨hn, rfl, rfl⟩ := call_plain (n := 1) rfl h
      obtain ⟨a, s, rfl⟩ := cons1 hn
      rfl
    · obtain ⟨hn, rfl, rfl⟩ := call_plain (n := 1) rfl h
      obtain ⟨a, s, rfl⟩ := cons1 hn
      rfl
    · obtain ⟨hn, rfl, rfl⟩ := call_plain (n := 2) rfl h
      obtain ⟨a, b, s, rfl⟩ := cons2 hn
      rfl
    · obtain ⟨hn, rfl, rfl⟩ := call_plain (n := 1) rfl h
      obtain ⟨a, s, rfl⟩ := cons1 hn
      rfl
    · obtain ⟨hn, rfl, rfl⟩ := call_plain (n := 0) rfl h
      rfl
theorem map_whole : ∀ {f : Nat} {l : List Int} {cs : List (List (List Int))}, PyFlat.calls PyRb16.shape f l = some cs → cs.map PyRb16.whole = cs
  | f, [], cs, h => by rw [calls_nil h]; rfl
  | 0, _ :: _, cs, h => by cases h
  | f + 1, p :: r, cs, h => by
    rw [PyFlat.calls] at h
    cases q : PyFlat.call PyRb16.shape (p :: r) with
    | none => rw [q] at h; cases h
    | some x =>
      obtain ⟨c, t⟩ := x
      rw [q] at h
      dsimp only at h
      cases q2 : PyFlat.calls PyRb16.shape f t with
      | none => rw [q2] at h; cases h
      | some cs' =>
        rw [q2] at h
        cases h
        rw [List.map_cons, call_whole q, map_whole q2]
def lens : List Int := [2, 3, 3, 4, 2, 3, 2, 2, 3, 2, 1]
theorem Sh_len {p : Nat} {u : List Int} (h : Sh p u) : ∃ n : Nat, u[0]? = some (p : Int) ∧ lens[p]? = some (n : Int) ∧ p < 11 ∧ ((¬ (p : Int) = 5 ∧ u.length = n) ∨ (p = 5 ∧ ∃ m : Nat, n = 3 ∧ u[2]? = some (m : Int) ∧ u.length = 3 + m)) := by
  match p, h with
  | 0, ⟨k, e⟩ => subst e; exact ⟨2, rfl, rfl, by decide, .inl ⟨by decide, rfl⟩⟩
  | 1, ⟨c, b, e⟩ => subst e; exact ⟨3, rfl, rfl, by decide, .inl ⟨by decide, rfl⟩⟩
  | 2, ⟨x, n, e, _⟩ => subst e; exact ⟨3, rfl, rfl, by decide, .inl ⟨by decide, rfl⟩⟩
  | 3, ⟨c, n, x, e⟩ => subst e; exact ⟨4, rfl, rfl, by decide, .inl ⟨by decide, rfl⟩⟩
  | 4, ⟨m, e⟩ => subst e; exact ⟨2, rfl, rfl, by decide, .inl ⟨by decide, rfl⟩⟩
  | 5, ⟨k, gs, e, _⟩ => subst e; exact ⟨3, rfl, rfl, by decide, .inr ⟨rfl, gs.length, rfl, rfl, by simp only [List.length_cons, List.length_map]; omega⟩⟩
  | 6, ⟨c, e⟩ => subst e; exact ⟨2, rfl, rfl, by decide, .inl ⟨by decide, rfl⟩⟩
  | 7, ⟨n, e⟩ => subst e; exact ⟨2, rfl, rfl, by decide, .inl ⟨by decide, rfl⟩⟩
  | 8, ⟨c, n, e⟩ => subst e; exact ⟨3, rfl, rfl, by decide, .inl ⟨by decide, rfl⟩⟩
  | 9, ⟨c, e⟩ => subst e; exact ⟨2, rfl, rfl, by decide, .inl ⟨by decide, rfl⟩⟩
  | 10, e => have e : u = [10] := e; subst e; exact ⟨1, rfl, rfl, by decide, .inl ⟨by decide, rfl⟩⟩
  | n + 11, e => exact (show False from e).elim
theorem mid_at {pre u t : List Int} {j : Nat} {v : Int} (h : u[j]? = some v) : ((pre ++ (u ++ t)).map V.int)[pre.length + j]? = some (.int v) := by
  have hj := (List.getElem?_eq_some_iff.mp h).1
  rw [List.getElem?_map, List.getElem?_append_right (by omega), show pre.length + j - pre.length = j by omega, List.getElem?_append_left hj, h]
  rfl
theorem cut_mid (pre u t : List Int) : cutV ((pre ++ (u ++ t)).map V.int) (some (pre.length : Int)) (some ((pre.length + u.length : Nat) : Int)) = u.map V.int := by
  unfold cutV
  rw [HT.sIx_nat, HT.sIx_nat]
  have hl : ((pre ++ (u ++ t)).map V.int).length = pre.length + (u.length + t.length) := by rw [List.length_map, List.length_append, List.length_append]
  rw [hl, show min pre.length (pre.length + (u.length + t.length)) = pre.length by omega, show min (pre.length + u.length) (pre.length + (u.length + t.length)) = pre.length + u.length by omega,
    show pre.length + u.length - pre.length = u.length by omega, List.map_append, List.map_append]
  rw [List.drop_append_of_le_length (by rw [List.length_map]; omega), List.drop_of_length_le (by rw [List.length_map]; omega), List.nil_append, List.take_append_of_le_length (by rw [List.length_map]; omega), List.take_of_length_le (by rw [List.length_map]; omega)]
theorem told_cons (a : List Int) (l : List (List Int)) : PyFlat.told (a :: l) = (a.length : Int) :: a ++ PyFlat.told l := rfl

abbrev sEnd : Stmt := top 47
abbrev sAns : Stmt := top 48
/-- the two tuples at the top -/
structure GsT (K : PySem.W.Frag) (mg : Str → Option Value) (tL tA : Addr) (fs : List Addr) : Prop where
  mL : mg "CALL_LENGTHS" = some (.ref tL)
  mA : mg "ANSWERERS" = some (.ref tA)
  sL : ∀ H, SqT K H tL (lens.map V.int)
  sA : ∀ H, SqT K H tA (fs.map V.ref)
inductive SpEnd (K : PySem.W.Frag) (vs : List V) (H : Hp) (Q : VK) : Prop where
  | mk (a : Addr) (pre u t : List Int) (p : Nat) : (vs = [.ref a, .int (pre.length : Nat)]) → (SqL K H a ((pre ++ (u ++ t)).map V.int)) → (Sh p u) → (Q (.int ((pre.length + u.length : Nat) : Int)) H) → SpEnd K vs H Q
def spEnd (K : PySem.W.Frag) : Sp := fun vs H Q _ => SpEnd K vs H Q
/-- THE PROMISE of answers -/
inductive SpAns (K : PySem.W.Frag) (vs : List V) (H : Hp) (Q : VK) : Prop where
  | mk (a : Addr) (ns : List Int) : (vs = [.ref a]) → (SqL K H a (ns.map V.int)) → (PyRb16.answers_asked ns = true) → (∀ (H' : Hp) (p : Addr), H' p = some (.lst ((PyRb16.answers ns).map V.int)) → Q (.ref p) H') → SpAns K vs H Q
def spAns (K : PySem.W.Frag) : Sp := fun vs H Q _ => SpAns K vs H Q

/-- what holds between two calls: the calls taken, the rest, the object, what was answered -/
inductive LInv (A : Ad) (ns : List Int) (H : Hp) (a d la : Addr) (pre rest : List Int) (σ : L2.St) (H' : Hp) : Prop where
  | mk (cs : List (List (List Int))) (f : Nat) (S : Rb16.State) (fp : List Addr) (acc : List Int) (v4 v5 : Option V) : (ns = pre ++ rest) → (σ = [some (.ref a), some (.ref d), some (.ref la), some (.int (pre.length : Nat)), v4, v5]) → (PyFlat.calls PyRb16.shape f rest = some cs) → ((∀ c ∈ cs, Rb16Neutral.asked1 c = true)) → (acc ++ PyFlat.told (PyFlat.played Rb16Neutral.step S cs) = PyRb16.answers ns) → (acc.length + cs.length + Rb16Neutral.total S cs ≤ 1000400) → (DeskAt A H' d S fp) → ((∀ b ∈ fp, H b = none)) → (la ∉ fp) → (H' la = some (.lst (acc.map V.int))) → (Keep [] H H') → LInv A ns H a d la pre rest σ H'

section
variable {P : Program} {w : World} {K : PySem.W.Frag} {mg : Str → Option Value} {base : Heap} {A : Ad} {tL tA : Addr} {fs : List Addr}
theorem scEn : FnScope ["calls", "start", "end"] ["calls", "start"] (defScope sEnd) := ⟨rfl, rfl, rfl, by decide +kernel, rfl, by decide +kernel, by decide +kernel⟩
theorem ok_end {f : Addr} (D : Def K "end_of_call" "end_of_call" sEnd f ["calls", "start"]) (G : GsD mg A) (GT : GsT K mg tL tA fs) : Fn P w K mg base 1 f ["calls", "start"] (spEnd K) := by
  refine D.ok scEn (fun vs H Q E h => ?_) (fun cdv A' outer s0 H vs Q E hr h => ?_)
  · obtain ⟨a, pre, u, t, p, rfl, _⟩ := h
    rfl
  · obtain ⟨a, pre, u, t, p, rfl, hS, sh, k⟩ := h
    refine ⟨_, pss_cons (ps_set (i := 2) scEn.nd rfl (Or.inl rfl) (pe_op op_add (pv 1) (pe_ix ix_tup (pe_glob (v := .ref tL) rfl GT.mL rfl) (pe_ix ix_list (pv 0) (pv 1) (fun _ _ => rfl)) (fun _ _ => rfl))))
      (pss_cons (ps_if (pt_cmp (pc_eqI (pe_ix ix_list (pv 0) (pv 1) (fun _ _ => rfl)) (pe_gint rfl G.opc))) (pss_one (ps_aug (i := 2) scEn.nd rfl (Or.inl rfl) (pe_ix ix_list (pv 0) (pe_op op_sub (pv 2) pe_int) (fun _ _ => rfl)) ip_add)) pss_nil)
      (pss_one (ps_ret (pv 2)))), ?_⟩
    obtain ⟨n, h0, hn, hp, hc⟩ := Sh_len sh
    have h0' := mid_at (pre := pre) (t := t) h0
    have hL : (lens.map V.int)[p]? = some (.int (n : Int)) := by rw [List.getElem?_map, hn]; rfl
    refine ⟨_, rfl, _, rfl, _, rfl, a, _, _, _, rfl, rfl, hS, at_of (j := pre.length + 0) rfl h0', tL, _, _, _, rfl, rfl, GT.sL _, at_of (j := p) rfl hL, _, _, rfl, rfl, ?_⟩
    refine ⟨_, rfl, _, rfl, a, _, _, _, rfl, rfl, hS, at_of (j := pre.length + 0) rfl h0', _, _, rfl, rfl, _, rfl, ?_⟩
    rcases hc with ⟨h5, hl⟩ | ⟨h5, m, rfl, hm, hl⟩
    · refine itN h5 ?_
      refine ⟨_, rfl, ?_⟩
      exact qI (Q := Q) (show (pre.length : Int) + (n : Int) = ((pre.length + u.length : Nat) : Int) by omega) k
    · refine itD (show (p : Int) = 5 by omega) ?_
      refine ⟨_, rfl, _, rfl, _, rfl, _, _, rfl, rfl, a, _, _, _, rfl, rfl, hS, at_of (j := pre.length + 2) (show (pre.length : Int) + ((3 : Nat) : Int) - 1 = ((pre.length + 2 : Nat) : Int) by omega) (mid_at hm), _, _, rfl, rfl, ?_⟩
      refine ⟨_, rfl, ?_⟩
      exact qI (Q := Q) (show (pre.length : Int) + ((3 : Nat) : Int) + (m : Int) = ((pre.length + u.length : Nat) : Int) by omega) k
theorem scAn : FnScope ["calls", "desk", "answered", "start", "end", "answer"] ["calls"] (defScope sAns) := ⟨rfl, rfl, rfl, by decide +kernel, rfl, by decide +kernel, by decide +kernel⟩
theorem ok_ans {f fDI fE : Addr} {fd : FuncData} (F : Fun K "answers" "answers" sAns f fd) (G : GsD mg A) (T : Dk K A) (GT : GsT K mg tL tA fs) (M : Mk K A.cD fDI) (FD : Fn P w K mg base 4 fDI ["self"] (spDInit A)) (mE : mg "end_of_call" = some (.ref fE)) (FE : Fn P w K mg base 1 fE ["calls", "start"] (spEnd K))
    (FA : ∀ p, p < 11 → ∃ g, fs[p]? = some g ∧ Fn P w K mg base 7 g ["desk", "call"] (spAw A p)) : FnOk P w K mg base CX0 8 f fd ["calls"] (spAns K) := by
  refine F.ok scAn (fun vs H Q E h => ?_) (fun cdv A' outer s0 H vs Q E hr h => ?_)
  · obtain ⟨a, ns, rfl, _⟩ := h
    rfl
  · obtain ⟨a, ns, rfl, hS, hask, k⟩ := h
    have hr1 : Room 1 _ := hr.mono (by decide)
    have hr5 : Room 5 _ := hr.mono (by decide)
    have hz := sizeLine_eq
    obtain ⟨cs0, hcs, hat, hask⟩ : ∃ cs, PyFlat.calls PyRb16.shape ns.length ns = some cs ∧ cs.length ≤ 400 ∧ Rb16Neutral.asked cs = true := by
      unfold PyRb16.answers_asked PyRb16.calls at hask
      cases q : PyFlat.calls PyRb16.shape ns.length ns with
      | none => rw [q] at hask; cases hask
      | some cs =>
        rw [q] at hask
        dsimp only at hask
        rw [map_whole q, Bool.and_eq_true] at hask
        exact ⟨cs, rfl, of_decide_eq_true hask.1, hask.2⟩
    have hans : PyRb16.answers ns = PyFlat.told (PyFlat.played Rb16Neutral.step Rb16Neutral.start cs0) := by
      unfold PyRb16.answers PyRb16.calls
      rw [hcs]
      dsimp only
      rw [map_whole hcs]
    unfold Rb16Neutral.asked at hask
    rw [Bool.and_eq_true, Bool.and_eq_true, Bool.and_eq_true, List.all_eq_true, decide_eq_true_eq, decide_eq_true_eq, decide_eq_true_eq] at hask
    obtain ⟨hall, _, _, htot⟩ := hask
    refine ⟨_, pss_cons (ps_set (i := 1) scAn.nd rfl (Or.inl rfl) (pe_makeN0 M FD hr5 rfl G.cD)) (pss_cons (ps_set (i := 2) scAn.nd rfl (Or.inl rfl) (pe_lst pa_nil)) (pss_cons (ps_set (i := 3) scAn.nd rfl (Or.inl rfl) pe_int)
      (pss_cons (ps_while PassesOwn.never (pt_cmpR oc_lt (pv 3) (pe_callB call_len_seq (by rfl) G.len PySem.boot_len (pa_cons (pv 0) pa_nil)) (nomark _))
        (pss_cons (ps_set (i := 4) scAn.nd rfl (Or.inl rfl) (pe_callN FE hr1 rfl mE (pa_cons (pv 0) (pa_cons (pv 3) pa_nil))))
        (pss_cons (ps_set (i := 5) scAn.nd rfl (Or.inl rfl) (pe_callV (pe_ix ix_tup (pe_glob (v := .ref tA) rfl GT.mA rfl) (pe_ix ix_list (pv 0) (pv 3) (fun _ _ => rfl)) (fun _ _ => rfl)) hr (pa_cons (pv 1) (pa_cons (pe_slice sl_list (pv 0) (po_some (pv 3)) (po_some (pv 4))) pa_nil))))
        (pss_cons (ps_expr (pe_bm PySem.F.plainAttrs_list PySem.F.slot_list_append PySem.F.type_list_append mt_append (pv 2) (pa_cons (pe_callB call_len_seq (by rfl) G.len PySem.boot_len (pa_cons (pv 5) pa_nil)) pa_nil)))
        (pss_cons (ps_expr (pe_bm PySem.F.plainAttrs_list PySem.F.slot_list_extend PySem.F.type_list_extend mt_extend (pv 2) (pa_cons (pv 5) pa_nil)))
        (pss_one (ps_set (i := 3) scAn.nd rfl (Or.inl rfl) (pv 4))))))))
      (pss_one (ps_ret (pv 2)))))), ?_⟩
    intro d dd nd ndd ned
    refine ⟨d, dd, rfl, upd_same, fun H1 fp0 D0 fr0 kp0 => ⟨rfl, ?_⟩⟩
    have k1 := Keep.made nd ndd kp0
    have fr : ∀ b ∈ fp0, H b = none := fun b hb => by
      rcases fr0 b hb with q | q
      · rw [q]; exact nd
      · exact free_made q
    refine ⟨(by show 0 ≤ sizeLine; omega), fun la hla => ?_⟩
    have k2 : Keep [] H (upd H1 la (.lst [])) := k1.new hla
    refine ⟨fun m σ H' => ∃ pre rest, m = rest.length ∧ LInv A ns H a d la pre rest σ H', ⟨ns.length, [], ns, rfl, cs0, ns.length, Rb16Neutral.start, fp0, [], none, none, rfl, rfl, hcs, hall, ?_, ?_, ?_, fr, D0.off hla, upd_same, k2⟩, ?_⟩
    · rw [hans]; rfl
    · simp only [List.length_nil]
      omega
    · exact D0.keep ((Keep.refl [] H1).new hla)
    rintro m σ H' ⟨pre, rest, rfl, cs, ff, S, fp, acc, v4, v5, ens, rfl, hf, hal, heq, hsz, dk, hfr, nla, hl, kp⟩
    have hS' : SqL K H' a (ns.map V.int) := Same.seq (fun b o e => kp b o e (by simp)) hS
    refine ⟨_, rfl, _, rfl, a, _, rfl, .inl hS', _, _, rfl, rfl, ?_⟩
    cases rest with
    | nil =>
      refine .inr ⟨(show ¬ ((pre.length : Nat) : Int) < (((ns.map V.int).length : Nat) : Int) by rw [List.length_map, ens, List.append_nil]; omega), _, rfl, itF rfl ?_⟩
      have e := calls_nil hf
      subst e
      have e2 : acc = PyRb16.answers ns := by
        rw [← heq]
        show acc = acc ++ []
        rw [List.append_nil]
      subst e2
      refine ⟨_, rfl, ?_⟩
      exact k H' la hl
    | cons q0 r0 =>
      refine .inl ⟨(show ((pre.length : Nat) : Int) < (((ns.map V.int).length : Nat) : Int) by rw [List.length_map, ens, List.length_append, List.length_cons]; omega), _, rfl, itT rfl ?_⟩
      obtain ⟨f', c, t, cs', hc, ht, rfl⟩ := calls_cons hf
      obtain ⟨p, u, sh, eu, en⟩ := call_split hc (hal c (List.mem_cons_self ..))
      rw [eu] at ens
      obtain ⟨n, h0, hn, hp11, hcase⟩ := Sh_len sh
      have hul : 1 ≤ u.length := by
        cases u with
        | nil => cases h0
        | cons _ _ => simp
      obtain ⟨g, hg, gd, FG, gB, gK⟩ := FA p hp11
      rw [ens] at hS'
      refine ⟨fun σ' H'' => ∃ pre rest, rest.length < (q0 :: r0).length ∧ LInv A ns H a d la pre rest σ' H'', fun σ' H'' ⟨pre, rest, h1, h2⟩ => ⟨rest.length, h1, pre, rest, rfl, h2⟩, ?_⟩
      refine ⟨_, rfl, _, rfl, a, pre, u, t, p, rfl, hS', sh, ?_⟩
      refine ⟨_, rfl, _, rfl, a, _, _, _, rfl, rfl, hS', at_of (j := pre.length + 0) rfl (mid_at h0), tA, _, _, _, rfl, rfl, GT.sA _, at_of (j := p) (v := .ref g) rfl (by rw [List.getElem?_map, hg]; rfl), g, gd, _, _, rfl, FG, gK, gB, ?_⟩
      refine ⟨_, rfl, _, rfl, _, rfl, _, rfl, _, rfl, _, rfl, a, _, rfl, hS', fun lq hlq => ?_⟩
      rw [cut_mid]
      have nlq : la ≠ lq := ne_of_none hl hlq
      have kq : Keep [] H' (upd H' lq (.lst (u.map V.int))) := (Keep.refl [] H').new hlq
      refine ⟨d, lq, S, fp, u, rfl, dk.keep kq, upd_same, sh, fun H3 r fp3 D3 fr3 nr nrf h3 k3 => ?_⟩
      have hla2 : upd H' lq (.lst (u.map V.int)) la = some (.lst (acc.map V.int)) := by rw [upd_ne nlq]; exact hl
      have hla3 := k3 _ _ hla2 nla
      have nrl : r ≠ la := fun z => by rw [z, hla2] at nr; cases nr
      have nla3 : la ∉ fp3 := fun z => by
        rcases fr3 la z with q | q
        · exact nla q
        · rw [hla2] at q; cases q
      have hstep : Rb16Neutral.step S c = Rb16Neutral.step S (neut u) := by rw [en]
      have hsz2 : acc.length + (cs'.length + 1) + ((Rb16Neutral.step S (neut u)).2.length + Rb16Neutral.total (Rb16Neutral.step S (neut u)).1 cs') ≤ 1000400 := by
        rw [← hstep]
        exact hsz
      refine ⟨_, rfl, .inl ⟨rfl, _, SqL.of hla3⟩, _, rfl, r, _, rfl, .inl (SqL.of h3), la, _, _, rfl, rfl, hla3, (by rw [List.length_map]; omega), ?_⟩
      refine ⟨_, rfl, .inl ⟨rfl, _, SqL.of upd_same⟩, _, rfl, la, r, _, _, rfl, rfl, upd_same, (by rw [upd_ne nrl]; exact h3), (by rw [List.length_append, List.length_map, List.length_map]; show acc.length + 1 + _ ≤ _; omega), ?_⟩
      refine ⟨_, rfl, ?_⟩
      have kp3 : Keep [] H H3 := fun b o e _ => k3 b o (kq b o (kp b o e (by simp)) (by simp)) fun z => by rw [hfr b z] at e; cases e
      have hlaH : H la = none := k1.free hla
      refine ⟨pre ++ u, t, ?_, cs', f', (Rb16Neutral.step S (neut u)).1, fp3, acc ++ (((Rb16Neutral.step S (neut u)).2.length : Int) :: (Rb16Neutral.step S (neut u)).2), some (.int ((pre.length + u.length : Nat) : Int)), some (.ref r), ?_, ?_, ht, fun c hc => hal c (List.mem_cons_of_mem _ hc), ?_, ?_, ?_, ?_, nla3, ?_, ?_⟩
      · rw [eu, List.length_append]; omega
      · rw [ens, List.append_assoc]
      · rw [List.length_append]
        rfl
      · rw [← heq, ← hstep, List.append_assoc]
        rfl
      · rw [List.length_append, List.length_cons]
        omega
      · exact D3.same fun b hb o e => by
          have : b ≠ la := fun z => nla3 (by rw [← z]; exact hb)
          rw [upd_ne this, upd_ne this]
          exact e
      · intro b hb
        rcases fr3 b hb with q | q
        · exact hfr b q
        · exact (kp.trans kq).free q
      · rw [upd_same, List.append_assoc, List.map_append, List.length_map]
        rfl
      · exact (kp3.off hlaH).off hlaH
end
end Cb

end
set_option Elab.async false
set_option linter.all false
set_option maxRecDepth 100000
set_option maxHeartbeats 2000000
namespace Cb
open PySem PySem.Spec PyProof.Rows L2
open PySem.W (Codec)

theorem def_mk {K : PySem.W.Frag} {x qual : Str} {st : Stmt} {f : Addr} {ps : List Str} {oc : Value} {od an : Option Addr} {osl : Array (Option Value)} {kV doc pm cdv ct : Value}
    (l : K.lookup f = some ⟨oc, od, .func (PySem.W.fnOf x qual (defArgs st) (defBody st) (defScope st) .none kV doc pm an cdv ct), osl⟩) (c : PySem.W.codeIn K cdv qual = true) (k : PySem.W.keepIn K (.ref f) = true)
    (h : ∀ (kV doc pm : Value) (an : Option Addr) (cdv ct : Value) (us : List Value), us.length = ps.length → bindArgs (PySem.W.fnOf x qual (defArgs st) (defBody st) (defScope st) .none kV doc pm an cdv ct) ⟨us, []⟩ = pure (ps.zip us)) : Def K x qual st f ps :=
  ⟨_, fun_mk l c k, (fun_mk l c k).binds h⟩
theorem bind1 {Q : Value → Value → Value → Option Addr → Value → Value → List Value → Prop} (h : ∀ a b c d e f x, Q a b c d e f [x]) (a b c : Value) (d : Option Addr) (e f : Value) : ∀ us : List Value, us.length = 1 → Q a b c d e f us
  | [x], _ => h a b c d e f x
theorem bind2 {Q : Value → Value → Value → Option Addr → Value → Value → List Value → Prop} (h : ∀ a b c d e f x y, Q a b c d e f [x, y]) (a b c : Value) (d : Option Addr) (e f : Value) : ∀ us : List Value, us.length = 2 → Q a b c d e f us
  | [x, y], _ => h a b c d e f x y
theorem bind3 {Q : Value → Value → Value → Option Addr → Value → Value → List Value → Prop} (h : ∀ a b c d e f x y z, Q a b c d e f [x, y, z]) (a b c : Value) (d : Option Addr) (e f : Value) : ∀ us : List Value, us.length = 3 → Q a b c d e f us
  | [x, y, z], _ => h a b c d e f x y z
theorem small_arr {n : Nat} (h : decide (n ≤ 1000) = true) : n ≤ sizeLine := by
  have := of_decide_eq_true h
  rw [sizeLine_eq]
  omega
theorem tup_mk {K : PySem.W.Frag} {a : Addr} {xs : List V} {od : Option Addr} {its : Array Value} {n : Nat} {sl : Array (Option Value)} (l : K.lookup a = some ⟨.type "tuple", od, .seq its n, sl⟩) (z : its.size ≤ sizeLine) (v : Vals xs its.toList) : ∀ H : Hp, SqT K H a xs :=
  fun _ => .inr ⟨_, its, n, l, rfl, rfl, z, v⟩
theorem kit_same {K : PySem.W.Frag} {c : Addr} : PySem.W.kitOne K (.ref c) (.ref c) = some true := by
  unfold PySem.W.kitOne
  rw [if_pos (beq_self_eq_true _)]
theorem kit_other {K : PySem.W.Frag} {b c : Addr} (h1 : PySem.W.isClsIn K c = true) (h2 : PySem.W.typeIn K (.ref c) = some (.type "type")) (h3 : PySem.W.subIn K (.ref b) (.ref c) = some false) (h4 : (Value.ref b == Value.ref c) = false) : PySem.W.kitOne K (.ref b) (.ref c) = some false := by
  unfold PySem.W.kitOne
  rw [h4, if_neg (by decide)]
  unfold PySem.W.kitCls
  dsimp only
  rw [if_pos, h3]
  rw [Bool.and_eq_true]
  exact ⟨h1, by rw [h2]; decide +kernel⟩
theorem all_mk {P : Program} {w : World} {K : PySem.W.Frag} {h : Heap} {mg : Str → Option Value} {fa cC cW cR cD tL tA f_ci f_ans f_part f_wb f_ln f_es f_tt f_icc f_ic f_iec f_it f_a0 f_a1 f_a2 f_a3 f_a4 f_a5 f_a6 f_a7 f_a8 f_a9 f_a10 f_en f_ca f_nw f_wi f_tl f_lb f_ts f_sk f_cy f_gr f_wt f_ri f_tk f_un f_nb f_ne f_nt f_di f_ws f_dt : Addr} {mc : Value} {t_SCALE t_FIRST_CHANCE t_FIRST_WIDTH t_LEAST_WIDTH t_FIRST_BYTES t_MOST_BYTES t_LOWEST_BYTES t_LOWEST_END t_DONE t_NO_ROOM t_REFUSED t_MOST_CHANCES t_MOST_GIVEN t_MOST_EVEN_BITS t_MOST_EVEN_NUMBER t_MOST_TREE_BITS t_OPEN_CALL : Tok}
    {oc kV dc pm cd ct : Value} {od an : Option Addr} {sl : Array (Option Value)} (X : K.In h) (G : h.Ns mainGlobals mg) (hfa : mg "answers" = some (.ref fa))
    (n_cC : PySem.W.nsIn K mainGlobals "Coder" = some (some (.ref cC)))
    (n_cR : PySem.W.nsIn K mainGlobals "Reader" = some (some (.ref cR)))
    (n_cW : PySem.W.nsIn K mainGlobals "Writer" = some (some (.ref cW)))
    (n_cD : PySem.W.nsIn K mainGlobals "Desk" = some (some (.ref cD)))
    (n_part : PySem.W.nsIn K mainGlobals "part_of" = some (some (.ref f_part)))
    (d_part : Def K "part_of" "part_of" sPart f_part ["width", "chance"])
    (n_wb : PySem.W.nsIn K mainGlobals "width_behind" = some (some (.ref f_wb)))
    (d_wb : Def K "width_behind" "width_behind" sWB f_wb ["width", "chance", "bit"])
    (n_ln : PySem.W.nsIn K mainGlobals "learned" = some (some (.ref f_ln)))
    (d_ln : Def K "learned" "learned" sLearned f_ln ["chance", "bit"])
    (n_es : PySem.W.nsIn K mainGlobals "even_steps" = some (some (.ref f_es)))
    (d_es : Def K "even_steps" "even_steps" sESteps f_es ["x", "n"])
    (n_tt : PySem.W.nsIn K mainGlobals "tree_steps" = some (some (.ref f_tt)))
    (d_tt : Def K "tree_steps" "tree_steps" sTSteps f_tt ["c", "n", "x"])
    (n_icc : PySem.W.nsIn K mainGlobals "is_chance_count" = some (some (.ref f_icc)))
    (d_icc : Def K "is_chance_count" "is_chance_count" sICC f_icc ["k"])
    (n_ic : PySem.W.nsIn K mainGlobals "is_chance" = some (some (.ref f_ic)))
    (d_ic : Def K "is_chance" "is_chance" sIC f_ic ["desk", "c"])
    (n_iec : PySem.W.nsIn K mainGlobals "is_even_count" = some (some (.ref f_iec)))
    (d_iec : Def K "is_even_count" "is_even_count" sIEC f_iec ["n"])
    (n_it : PySem.W.nsIn K mainGlobals "is_tree" = some (some (.ref f_it)))
    (d_it : Def K "is_tree" "is_tree" sIT f_it ["desk", "c", "n"])
    (n_a0 : PySem.W.nsIn K mainGlobals "answer_begin" = some (some (.ref f_a0)))
    (d_a0 : Def K "answer_begin" "answer_begin" sABegin f_a0 ["desk", "call"])
    (n_a1 : PySem.W.nsIn K mainGlobals "answer_bit" = some (some (.ref f_a1)))
    (d_a1 : Def K "answer_bit" "answer_bit" sABit f_a1 ["desk", "call"])
    (n_a2 : PySem.W.nsIn K mainGlobals "answer_even" = some (some (.ref f_a2)))
    (d_a2 : Def K "answer_even" "answer_even" sAEven f_a2 ["desk", "call"])
    (n_a3 : PySem.W.nsIn K mainGlobals "answer_tree" = some (some (.ref f_a3)))
    (d_a3 : Def K "answer_tree" "answer_tree" sATree f_a3 ["desk", "call"])
    (n_a4 : PySem.W.nsIn K mainGlobals "answer_finish" = some (some (.ref f_a4)))
    (d_a4 : Def K "answer_finish" "answer_finish" sAFin f_a4 ["desk", "call"])
    (n_a5 : PySem.W.nsIn K mainGlobals "answer_open" = some (some (.ref f_a5)))
    (d_a5 : Def K "answer_open" "answer_open" sAOpen f_a5 ["desk", "call"])
    (n_a6 : PySem.W.nsIn K mainGlobals "answer_get" = some (some (.ref f_a6)))
    (d_a6 : Def K "answer_get" "answer_get" sAGet f_a6 ["desk", "call"])
    (n_a7 : PySem.W.nsIn K mainGlobals "answer_get_even" = some (some (.ref f_a7)))
    (d_a7 : Def K "answer_get_even" "answer_get_even" sAGE f_a7 ["desk", "call"])
    (n_a8 : PySem.W.nsIn K mainGlobals "answer_get_tree" = some (some (.ref f_a8)))
    (d_a8 : Def K "answer_get_tree" "answer_get_tree" sAGT f_a8 ["desk", "call"])
    (n_a9 : PySem.W.nsIn K mainGlobals "answer_chance" = some (some (.ref f_a9)))
    (d_a9 : Def K "answer_chance" "answer_chance" sACh f_a9 ["desk", "call"])
    (n_a10 : PySem.W.nsIn K mainGlobals "answer_left" = some (some (.ref f_a10)))
    (d_a10 : Def K "answer_left" "answer_left" sALeft f_a10 ["desk", "call"])
    (n_en : PySem.W.nsIn K mainGlobals "end_of_call" = some (some (.ref f_en)))
    (d_en : Def K "end_of_call" "end_of_call" sEnd f_en ["calls", "start"])
    (m_ca : Meth K cW "chance_at" f_ca)
    (d_ca : Def K "chance_at" "Coder.chance_at" sChAt f_ca ["self", "c"])
    (m_nw : Meth K cW "narrow" f_nw)
    (d_nw : Def K "narrow" "Coder.narrow" sNarrow f_nw ["self", "c", "bit"])
    (m_wi : Meth K cW "__init__" f_wi)
    (d_wi : Def K "__init__" "Writer.__init__" sWInit f_wi ["self", "k"])
    (m_tl : Meth K cW "tell" f_tl)
    (d_tl : Def K "tell" "Writer.tell" sTell f_tl ["self", "steps"])
    (m_lb : Meth K cW "length_behind" f_lb)
    (d_lb : Def K "length_behind" "Writer.length_behind" sLB f_lb ["self", "steps"])
    (m_ts : Meth K cW "tell_step" f_ts)
    (d_ts : Def K "tell_step" "Writer.tell_step" sTStep f_ts ["self", "c", "bit"])
    (m_sk : Meth K cW "skip" f_sk)
    (d_sk : Def K "skip" "Writer.skip" sSkip f_sk ["self", "part"])
    (m_cy : Meth K cW "carry" f_cy)
    (d_cy : Def K "carry" "Writer.carry" sCarry f_cy ["self"])
    (m_gr : Meth K cW "grow" f_gr)
    (d_gr : Def K "grow" "Writer.grow" sGrow f_gr ["self"])
    (m_wt : Meth K cW "written" f_wt)
    (d_wt : Def K "written" "Writer.written" sWritten f_wt ["self"])
    (m_ri : Meth K cR "__init__" f_ri)
    (d_ri : Def K "__init__" "Reader.__init__" sRInit f_ri ["self", "k", "given"])
    (m_tk : Meth K cR "take" f_tk)
    (d_tk : Def K "take" "Reader.take" sTake f_tk ["self"])
    (m_un : Meth K cR "untaken" f_un)
    (d_un : Def K "untaken" "Reader.untaken" sUnt f_un ["self"])
    (m_nb : Meth K cR "next_bit" f_nb)
    (d_nb : Def K "next_bit" "Reader.next_bit" sNBit f_nb ["self", "c"])
    (m_ne : Meth K cR "next_even" f_ne)
    (d_ne : Def K "next_even" "Reader.next_even" sNEven f_ne ["self", "n"])
    (m_nt : Meth K cR "next_tree" f_nt)
    (d_nt : Def K "next_tree" "Reader.next_tree" sNTree f_nt ["self", "c", "n"])
    (m_di : Meth K cD "__init__" f_di)
    (d_di : Def K "__init__" "Desk.__init__" sDInit f_di ["self"])
    (m_ws : Meth K cD "writes" f_ws)
    (d_ws : Def K "writes" "Desk.writes" sWs f_ws ["self"])
    (m_dt : Meth K cD "tell" f_dt)
    (d_dt : Def K "tell" "Desk.tell" sDT f_dt ["self", "steps"])
    (mr_ca : Meth K cR "chance_at" f_ca)
    (mr_nw : Meth K cR "narrow" f_nw)
    (cm_t : PySem.W.typeIn K (.ref cC) = some mc)
    (cm_ci : CMeth K cC "__init__" f_ci mc)
    (d_ci : Def K "__init__" "Coder.__init__" sCInit f_ci ["self", "k"])
    (cl_W : Cls K cW)
    (mk_W : PySem.W.makesIn K cW = true)
    (kc_W : PySem.W.keepIn K (.ref cW) = true)
    (no_W_chances : PySem.W.findIn K (.ref cW) "chances" = some none)
    (no_W_width : PySem.W.findIn K (.ref cW) "width" = some none)
    (no_W_higher : PySem.W.findIn K (.ref cW) "higher" = some none)
    (no_W_lowest : PySem.W.findIn K (.ref cW) "lowest" = some none)
    (cl_R : Cls K cR)
    (mk_R : PySem.W.makesIn K cR = true)
    (kc_R : PySem.W.keepIn K (.ref cR) = true)
    (no_R_chances : PySem.W.findIn K (.ref cR) "chances" = some none)
    (no_R_width : PySem.W.findIn K (.ref cR) "width" = some none)
    (no_R_given : PySem.W.findIn K (.ref cR) "given" = some none)
    (no_R_taken : PySem.W.findIn K (.ref cR) "taken" = some none)
    (no_R_number : PySem.W.findIn K (.ref cR) "number" = some none)
    (cl_D : Cls K cD)
    (mk_D : PySem.W.makesIn K cD = true)
    (kc_D : PySem.W.keepIn K (.ref cD) = true)
    (no_D_coder : PySem.W.findIn K (.ref cD) "coder" = some none)
    (ty_W : TyOk K cW)
    (ty_R : TyOk K cR)
    (kt1 : PySem.W.isClsIn K cW = true)
    (kt2 : PySem.W.typeIn K (.ref cW) = some (.type "type"))
    (kt3 : PySem.W.subIn K (.ref cR) (.ref cW) = some false)
    (kt4 : (Value.ref cR == Value.ref cW) = false)
    (i_SCALE : PySem.W.nsIn K mainGlobals "SCALE" = some (some (.int (2048) t_SCALE)))
    (i_FIRST_CHANCE : PySem.W.nsIn K mainGlobals "FIRST_CHANCE" = some (some (.int (1024) t_FIRST_CHANCE)))
    (i_FIRST_WIDTH : PySem.W.nsIn K mainGlobals "FIRST_WIDTH" = some (some (.int (4294967295) t_FIRST_WIDTH)))
    (i_LEAST_WIDTH : PySem.W.nsIn K mainGlobals "LEAST_WIDTH" = some (some (.int (16777216) t_LEAST_WIDTH)))
    (i_FIRST_BYTES : PySem.W.nsIn K mainGlobals "FIRST_BYTES" = some (some (.int (4) t_FIRST_BYTES)))
    (i_MOST_BYTES : PySem.W.nsIn K mainGlobals "MOST_BYTES" = some (some (.int (1048576) t_MOST_BYTES)))
    (i_LOWEST_BYTES : PySem.W.nsIn K mainGlobals "LOWEST_BYTES" = some (some (.int (4) t_LOWEST_BYTES)))
    (i_LOWEST_END : PySem.W.nsIn K mainGlobals "LOWEST_END" = some (some (.int (4294967296) t_LOWEST_END)))
    (i_DONE : PySem.W.nsIn K mainGlobals "DONE" = some (some (.int (0) t_DONE)))
    (i_NO_ROOM : PySem.W.nsIn K mainGlobals "NO_ROOM" = some (some (.int (-1) t_NO_ROOM)))
    (i_REFUSED : PySem.W.nsIn K mainGlobals "REFUSED" = some (some (.int (-2) t_REFUSED)))
    (i_MOST_CHANCES : PySem.W.nsIn K mainGlobals "MOST_CHANCES" = some (some (.int (4096) t_MOST_CHANCES)))
    (i_MOST_GIVEN : PySem.W.nsIn K mainGlobals "MOST_GIVEN" = some (some (.int (20000) t_MOST_GIVEN)))
    (i_MOST_EVEN_BITS : PySem.W.nsIn K mainGlobals "MOST_EVEN_BITS" = some (some (.int (32) t_MOST_EVEN_BITS)))
    (i_MOST_EVEN_NUMBER : PySem.W.nsIn K mainGlobals "MOST_EVEN_NUMBER" = some (some (.int (4294967295) t_MOST_EVEN_NUMBER)))
    (i_MOST_TREE_BITS : PySem.W.nsIn K mainGlobals "MOST_TREE_BITS" = some (some (.int (12) t_MOST_TREE_BITS)))
    (i_OPEN_CALL : PySem.W.nsIn K mainGlobals "OPEN_CALL" = some (some (.int (5) t_OPEN_CALL)))
    (z_len : PySem.W.nsIn K mainGlobals "len" = some none)
    (z_range : PySem.W.nsIn K mainGlobals "range" = some none)
    (z_isinstance : PySem.W.nsIn K mainGlobals "isinstance" = some none)
    (z_all : PySem.W.nsIn K mainGlobals "all" = some none)
    (n_tL : PySem.W.nsIn K mainGlobals "CALL_LENGTHS" = some (some (.ref tL)))
    (n_tA : PySem.W.nsIn K mainGlobals "ANSWERERS" = some (some (.ref tA)))
    (s_tL : ∀ H : Hp, SqT K H tL (lens.map V.int))
    (s_tA : ∀ H : Hp, SqT K H tA (([f_a0, f_a1, f_a2, f_a3, f_a4, f_a5, f_a6, f_a7, f_a8, f_a9, f_a10] : List Addr).map V.ref))
    (n_ans : PySem.W.nsIn K mainGlobals "answers" = some (some (.ref f_ans)))
    (l_ans : K.lookup f_ans = some ⟨oc, od, .func (PySem.W.fnOf "answers" "answers" (defArgs sAns) (defBody sAns) (defScope sAns) .none kV dc pm an cd ct), sl⟩)
    (c_ans : PySem.W.codeIn K cd "answers" = true)
    (k_ans : PySem.W.keepIn K (.ref f_ans) = true)
    : ∃ fd : FuncData, (∀ (s : Shared) (us : List Value), us.length = (["calls"] : List Str).length → BindsTo s fd ⟨us, []⟩ ((["calls"] : List Str).zip us)) ∧ ∀ base : Heap, K.In base → base.Ns mainGlobals mg → FnOk P w K mg base CX0 8 fa fd ["calls"] (spAns K) := by
  have e := hfa.symm.trans (PySem.W.mg_of X G n_ans)
  cases e
  have I_SCALE : IntG mg "SCALE" (2048) := ⟨_, PySem.W.mg_of X G i_SCALE⟩
  have I_FIRST_CHANCE : IntG mg "FIRST_CHANCE" (1024) := ⟨_, PySem.W.mg_of X G i_FIRST_CHANCE⟩
  have I_FIRST_WIDTH : IntG mg "FIRST_WIDTH" (4294967295) := ⟨_, PySem.W.mg_of X G i_FIRST_WIDTH⟩
  have I_LEAST_WIDTH : IntG mg "LEAST_WIDTH" (16777216) := ⟨_, PySem.W.mg_of X G i_LEAST_WIDTH⟩
  have I_FIRST_BYTES : IntG mg "FIRST_BYTES" (4) := ⟨_, PySem.W.mg_of X G i_FIRST_BYTES⟩
  have I_MOST_BYTES : IntG mg "MOST_BYTES" (1048576) := ⟨_, PySem.W.mg_of X G i_MOST_BYTES⟩
  have I_LOWEST_BYTES : IntG mg "LOWEST_BYTES" (4) := ⟨_, PySem.W.mg_of X G i_LOWEST_BYTES⟩
  have I_LOWEST_END : IntG mg "LOWEST_END" (4294967296) := ⟨_, PySem.W.mg_of X G i_LOWEST_END⟩
  have I_DONE : IntG mg "DONE" (0) := ⟨_, PySem.W.mg_of X G i_DONE⟩
  have I_NO_ROOM : IntG mg "NO_ROOM" (-1) := ⟨_, PySem.W.mg_of X G i_NO_ROOM⟩
  have I_REFUSED : IntG mg "REFUSED" (-2) := ⟨_, PySem.W.mg_of X G i_REFUSED⟩
  have I_MOST_CHANCES : IntG mg "MOST_CHANCES" (4096) := ⟨_, PySem.W.mg_of X G i_MOST_CHANCES⟩
  have I_MOST_GIVEN : IntG mg "MOST_GIVEN" (20000) := ⟨_, PySem.W.mg_of X G i_MOST_GIVEN⟩
  have I_MOST_EVEN_BITS : IntG mg "MOST_EVEN_BITS" (32) := ⟨_, PySem.W.mg_of X G i_MOST_EVEN_BITS⟩
  have I_MOST_EVEN_NUMBER : IntG mg "MOST_EVEN_NUMBER" (4294967295) := ⟨_, PySem.W.mg_of X G i_MOST_EVEN_NUMBER⟩
  have I_MOST_TREE_BITS : IntG mg "MOST_TREE_BITS" (12) := ⟨_, PySem.W.mg_of X G i_MOST_TREE_BITS⟩
  have I_OPEN_CALL : IntG mg "OPEN_CALL" (5) := ⟨_, PySem.W.mg_of X G i_OPEN_CALL⟩
  have Z_len : mg "len" = none := PySem.W.mg_none_of X G z_len
  have Z_range : mg "range" = none := PySem.W.mg_none_of X G z_range
  have Z_isinstance : mg "isinstance" = none := PySem.W.mg_none_of X G z_isinstance
  have Z_all : mg "all" = none := PySem.W.mg_none_of X G z_all
  have g_part : mg "part_of" = some (.ref f_part) := PySem.W.mg_of X G n_part
  have g_wb : mg "width_behind" = some (.ref f_wb) := PySem.W.mg_of X G n_wb
  have g_ln : mg "learned" = some (.ref f_ln) := PySem.W.mg_of X G n_ln
  have g_es : mg "even_steps" = some (.ref f_es) := PySem.W.mg_of X G n_es
  have g_tt : mg "tree_steps" = some (.ref f_tt) := PySem.W.mg_of X G n_tt
  have g_icc : mg "is_chance_count" = some (.ref f_icc) := PySem.W.mg_of X G n_icc
  have g_ic : mg "is_chance" = some (.ref f_ic) := PySem.W.mg_of X G n_ic
  have g_iec : mg "is_even_count" = some (.ref f_iec) := PySem.W.mg_of X G n_iec
  have g_it : mg "is_tree" = some (.ref f_it) := PySem.W.mg_of X G n_it
  have g_a0 : mg "answer_begin" = some (.ref f_a0) := PySem.W.mg_of X G n_a0
  have g_a1 : mg "answer_bit" = some (.ref f_a1) := PySem.W.mg_of X G n_a1
  have g_a2 : mg "answer_even" = some (.ref f_a2) := PySem.W.mg_of X G n_a2
  have g_a3 : mg "answer_tree" = some (.ref f_a3) := PySem.W.mg_of X G n_a3
  have g_a4 : mg "answer_finish" = some (.ref f_a4) := PySem.W.mg_of X G n_a4
  have g_a5 : mg "answer_open" = some (.ref f_a5) := PySem.W.mg_of X G n_a5
  have g_a6 : mg "answer_get" = some (.ref f_a6) := PySem.W.mg_of X G n_a6
  have g_a7 : mg "answer_get_even" = some (.ref f_a7) := PySem.W.mg_of X G n_a7
  have g_a8 : mg "answer_get_tree" = some (.ref f_a8) := PySem.W.mg_of X G n_a8
  have g_a9 : mg "answer_chance" = some (.ref f_a9) := PySem.W.mg_of X G n_a9
  have g_a10 : mg "answer_left" = some (.ref f_a10) := PySem.W.mg_of X G n_a10
  have g_en : mg "end_of_call" = some (.ref f_en) := PySem.W.mg_of X G n_en
  have g_cC : mg "Coder" = some (.ref cC) := PySem.W.mg_of X G n_cC
  have g_cR : mg "Reader" = some (.ref cR) := PySem.W.mg_of X G n_cR
  have g_cW : mg "Writer" = some (.ref cW) := PySem.W.mg_of X G n_cW
  have g_cD : mg "Desk" = some (.ref cD) := PySem.W.mg_of X G n_cD
  have GA : GsA mg := ⟨I_SCALE, I_FIRST_CHANCE, I_FIRST_WIDTH, I_LEAST_WIDTH⟩
  have GW : GsW mg := ⟨GA, I_MOST_BYTES, I_LOWEST_BYTES, I_LOWEST_END, Z_range, Z_len⟩
  have GR : GsR mg := ⟨GA, I_FIRST_BYTES, Z_range, Z_len⟩
  have CW : Cod K cW f_ca f_nw := ⟨cl_W, no_W_chances, no_W_width, m_ca, m_nw⟩
  have CR : Cod K cR f_ca f_nw := ⟨cl_R, no_R_chances, no_R_width, mr_ca, mr_nw⟩
  have TW : Wr K cW f_ca f_nw f_lb f_ts f_sk f_cy f_gr := ⟨CW, no_W_higher, no_W_lowest, m_lb, m_ts, m_sk, m_cy, m_gr⟩
  have TR : Rr K cR f_ca f_nw f_tk f_nb := ⟨CR, no_R_given, no_R_taken, no_R_number, m_tk, m_nb⟩
  have MW : Mk K cW f_wi := ⟨mk_W, m_wi.at_, m_wi.fn, kc_W⟩
  have MR : Mk K cR f_ri := ⟨mk_R, m_ri.at_, m_ri.fn, kc_R⟩
  have MD : Mk K cD f_di := ⟨mk_D, m_di.at_, m_di.fn, kc_D⟩
  have TD : Dk K ⟨cW, cR, cD, f_ca, f_nw, f_lb, f_ts, f_sk, f_cy, f_gr, f_tl, f_wt, f_tk, f_nb, f_ne, f_nt, f_un, f_ws, f_dt⟩ := ⟨cl_D, no_D_coder, m_ws, m_dt, TW, m_tl, m_wt, TR, m_ne, m_nt, m_un, ty_W, ty_R, kit_same, kit_other kt1 kt2 kt3 kt4⟩
  have GD : GsD mg ⟨cW, cR, cD, f_ca, f_nw, f_lb, f_ts, f_sk, f_cy, f_gr, f_tl, f_wt, f_tk, f_nb, f_ne, f_nt, f_un, f_ws, f_dt⟩ := ⟨I_DONE, I_NO_ROOM, I_REFUSED, I_MOST_CHANCES, I_MOST_GIVEN, I_MOST_EVEN_BITS, I_MOST_EVEN_NUMBER, I_MOST_TREE_BITS, I_OPEN_CALL, Z_len, Z_isinstance, Z_all, g_cW, g_cR, g_cD⟩
  have GT : GsT K mg tL tA [f_a0, f_a1, f_a2, f_a3, f_a4, f_a5, f_a6, f_a7, f_a8, f_a9, f_a10] := ⟨PySem.W.mg_of X G n_tL, PySem.W.mg_of X G n_tA, s_tL, s_tA⟩
  refine ⟨PySem.W.fnOf "answers" "answers" (defArgs sAns) (defBody sAns) (defScope sAns) .none kV dc pm an cd ct, fun s us hu => match us, hu with | [_], _ => .of_eq rfl, fun base _ _ => ?_⟩
  have P1 : Fn P w K mg base 1 f_part _ _ := ok_part d_part GA
  have P2 : Fn P w K mg base 2 f_wb _ _ := ok_wb d_wb g_part P1
  have P3 : Fn P w K mg base 1 f_ln _ _ := ok_learned d_ln GA
  have C1 : Fn P w K mg base 1 f_ci _ (spCInit K f_ca f_nw) := ok_cinit d_ci GA
  have C2 : Fn P w K mg base 1 f_ca _ (spChAt K f_ca f_nw) := ok_chat d_ca
  have C3 : Fn P w K mg base 3 f_nw _ (spNarrow K f_ca f_nw) := ok_narrow d_nw g_wb g_ln C2 P2 P3
  have W1 := ok_carry (P := P) (w := w) (base := base) d_cy GW TW
  have W2 := ok_grow (P := P) (w := w) (base := base) d_gr GW TW
  have W3 := ok_skip (P := P) (w := w) (base := base) d_sk GW TW W1
  have W4 := ok_tstep (P := P) (w := w) (base := base) d_ts GW TW g_part P1 C2 C3 W3 W2
  have W5 := ok_lb (P := P) (w := w) (base := base) d_lb GW TW g_wb P2 C2
  have W6 := ok_tell (P := P) (w := w) (base := base) d_tl GW TW W5 W4
  have W7 := ok_winit (P := P) (w := w) (base := base) d_wi TW g_cC cm_ci C1
  have W8 := ok_esteps (P := P) (w := w) (K := K) (base := base) d_es GW
  have W9 := ok_tsteps (P := P) (w := w) (K := K) (base := base) d_tt GW
  have W10 := ok_written (P := P) (w := w) (base := base) d_wt GW TW
  have R1 := ok_take (P := P) (w := w) (base := base) d_tk GR TR
  have R2 := ok_unt (P := P) (w := w) (base := base) d_un GR TR
  have R3 := ok_rinit (P := P) (w := w) (base := base) d_ri GR TR g_cC cm_ci C1 R1
  have R4 := ok_nbit (P := P) (w := w) (base := base) d_nb GR TR g_part P1 C2 C3 R1
  have R5 := ok_neven (P := P) (w := w) (base := base) d_ne GR TR R4
  have R6 := ok_ntree (P := P) (w := w) (base := base) d_nt GR TR R4
  have D1 := ok_icc (P := P) (w := w) (K := K) (base := base) d_icc GD
  have D2 := ok_iec (P := P) (w := w) (K := K) (base := base) d_iec GD
  have D3 := ok_ic (P := P) (w := w) (base := base) d_ic GD TD
  have D4 := ok_it (P := P) (w := w) (base := base) d_it GD TD
  have D5 := ok_ws (P := P) (w := w) (base := base) d_ws GD TD
  have D6 := ok_dinit (P := P) (w := w) (base := base) d_di GD TD MW W7
  have D7 := ok_dtell (P := P) (w := w) (base := base) d_dt GD TD W6
  have A0 := ok_abegin (P := P) (w := w) (base := base) d_a0 GD TD g_icc D1 MW W7
  have A1 := ok_abit (P := P) (w := w) (base := base) d_a1 GD TD D5 g_ic D3 D7
  have A2 := ok_aeven (P := P) (w := w) (base := base) d_a2 GD TD D5 g_iec D2 g_es W8 D7
  have A3 := ok_atree (P := P) (w := w) (base := base) d_a3 GD TD D5 g_it D4 g_tt W9 D7
  have A4 := ok_afin (P := P) (w := w) (base := base) d_a4 GD TD D5 W10
  have A5 := ok_aopen (P := P) (w := w) (base := base) d_a5 GD TD g_icc D1 MR R3
  have A6 := ok_aget (P := P) (w := w) (base := base) d_a6 GD TD D5 g_ic D3 R4
  have A7 := ok_agete (P := P) (w := w) (base := base) d_a7 GD TD D5 g_iec D2 R5
  have A8 := ok_agett (P := P) (w := w) (base := base) d_a8 GD TD D5 g_it D4 R6
  have A9 := ok_achance (P := P) (w := w) (base := base) d_a9 GD TD g_ic D3
  have A10 := ok_aleft (P := P) (w := w) (base := base) d_a10 GD TD D5 R2
  have E1 := ok_end (P := P) (w := w) (base := base) d_en GD GT
  refine ok_ans (fun_mk l_ans c_ans k_ans) GD TD GT MD D6 g_en E1 fun p hp => ?_
  match p, hp with
  | 0, _ => exact ⟨_, rfl, A0⟩
  | 1, _ => exact ⟨_, rfl, A1⟩
  | 2, _ => exact ⟨_, rfl, A2⟩
  | 3, _ => exact ⟨_, rfl, A3⟩
  | 4, _ => exact ⟨_, rfl, A4⟩
  | 5, _ => exact ⟨_, rfl, A5⟩
  | 6, _ => exact ⟨_, rfl, A6⟩
  | 7, _ => exact ⟨_, rfl, A7⟩
  | 8, _ => exact ⟨_, rfl, A8⟩
  | 9, _ => exact ⟨_, rfl, A9⟩
  | 10, _ => exact ⟨_, rfl, A10⟩
end Cb
open PySem PySem.W PyProof.Rows
set_option maxRecDepth 100000 in
set_option maxHeartbeats 0 in
theorem PySem.Challenge.cw_chancebits_s01_answers_holds : PySem.Challenge.rw_chancebits_s01_answers.Holds := by
  w_on; k_headS; (case hw => exact ⟨[.list [.int 10]], by decide +kernel, by decide +kernel⟩)
  k_fillS
  refine L2.walk_specK (r := PySem.Challenge.rw_chancebits_s01_answers) (k := 8) (CX := L2.CX0) (ps := ["calls"]) (sp := Cb.spAns) (by decide +kernel) rfl rfl ⟨rfl, by decide, by decide⟩ (fun w h Y => PySem.W.kIn_of Y) ?F ?S (fun _ _ _ _ z => z)
  case F =>
    intro w mg fa h Y KX G hmg
    refine' Cb.all_mk KX G hmg ?n_cC ?n_cR ?n_cW ?n_cD ?n_part ?d_part ?n_wb ?d_wb ?n_ln ?d_ln ?n_es ?d_es ?n_tt ?d_tt ?n_icc ?d_icc ?n_ic ?d_ic ?n_iec ?d_iec ?n_it ?d_it ?n_a0 ?d_a0 ?n_a1 ?d_a1 ?n_a2 ?d_a2 ?n_a3 ?d_a3 ?n_a4 ?d_a4 ?n_a5 ?d_a5 ?n_a6 ?d_a6 ?n_a7 ?d_a7 ?n_a8 ?d_a8 ?n_a9 ?d_a9 ?n_a10 ?d_a10 ?n_en ?d_en ?m_ca ?d_ca ?m_nw ?d_nw ?m_wi ?d_wi ?m_tl ?d_tl ?m_lb ?d_lb ?m_ts ?d_ts ?m_sk ?d_sk ?m_cy ?d_cy ?m_gr ?d_gr ?m_wt ?d_wt ?m_ri ?d_ri ?m_tk ?d_tk ?m_un ?d_un ?m_nb ?d_nb ?m_ne ?d_ne ?m_nt ?d_nt ?m_di ?d_di ?m_ws ?d_ws ?m_dt ?d_dt ?mr_ca ?mr_nw ?cm_t ?cm_ci ?d_ci ?cl_W ?mk_W ?kc_W ?no_W_chances ?no_W_width ?no_W_higher ?no_W_lowest ?cl_R ?mk_R ?kc_R ?no_R_chances ?no_R_width ?no_R_given ?no_R_taken ?no_R_number ?cl_D ?mk_D ?kc_D ?no_D_coder ?ty_W ?ty_R ?kt1 ?kt2 ?kt3 ?kt4 ?i_SCALE ?i_FIRST_CHANCE ?i_FIRST_WIDTH ?i_LEAST_WIDTH ?i_FIRST_BYTES ?i_MOST_BYTES ?i_LOWEST_BYTES ?i_LOWEST_END ?i_DONE ?i_NO_ROOM ?i_REFUSED ?i_MOST_CHANCES ?i_MOST_GIVEN ?i_MOST_EVEN_BITS ?i_MOST_EVEN_NUMBER ?i_MOST_TREE_BITS ?i_OPEN_CALL ?z_len ?z_range ?z_isinstance ?z_all ?n_tL ?n_tA ?s_tL ?s_tA ?n_ans ?l_ans ?c_ans ?k_ans
    (case n_cC => k_is)
    (case n_cR => k_is)
    (case n_cW => k_is)
    (case n_cD => k_is)
    (case n_part => k_is)
    (case d_part => refine' Cb.def_mk ?l ?c ?k ?b; (case l => k_is); (case c => k_is); (case k => k_is); (case b => exact Cb.bind2 fun _ _ _ _ _ _ _ _ => rfl))
    (case n_wb => k_is)
    (case d_wb => refine' Cb.def_mk ?l ?c ?k ?b; (case l => k_is); (case c => k_is); (case k => k_is); (case b => exact Cb.bind3 fun _ _ _ _ _ _ _ _ _ => rfl))
    (case n_ln => k_is)
    (case d_ln => refine' Cb.def_mk ?l ?c ?k ?b; (case l => k_is); (case c => k_is); (case k => k_is); (case b => exact Cb.bind2 fun _ _ _ _ _ _ _ _ => rfl))
    (case n_es => k_is)
    (case d_es => refine' Cb.def_mk ?l ?c ?k ?b; (case l => k_is); (case c => k_is); (case k => k_is); (case b => exact Cb.bind2 fun _ _ _ _ _ _ _ _ => rfl))
    (case n_tt => k_is)
    (case d_tt => refine' Cb.def_mk ?l ?c ?k ?b; (case l => k_is); (case c => k_is); (case k => k_is); (case b => exact Cb.bind3 fun _ _ _ _ _ _ _ _ _ => rfl))
    (case n_icc => k_is)
    (case d_icc => refine' Cb.def_mk ?l ?c ?k ?b; (case l => k_is); (case c => k_is); (case k => k_is); (case b => exact Cb.bind1 fun _ _ _ _ _ _ _ => rfl))
    (case n_ic => k_is)
    (case d_ic => refine' Cb.def_mk ?l ?c ?k ?b; (case l => k_is); (case c => k_is); (case k => k_is); (case b => exact Cb.bind2 fun _ _ _ _ _ _ _ _ => rfl))
    (case n_iec => k_is)
    (case d_iec => refine' Cb.def_mk ?l ?c ?k ?b; (case l => k_is); (case c => k_is); (case k => k_is); (case b => exact Cb.bind1 fun _ _ _ _ _ _ _ => rfl))
    (case n_it => k_is)
    (case d_it => refine' Cb.def_mk ?l ?c ?k ?b; (case l => k_is); (case c => k_is); (case k => k_is); (case b => exact Cb.bind3 fun _ _ _ _ _ _ _ _ _ => rfl))
    (case n_a0 => k_is)
    (case d_a0 => refine' Cb.def_mk ?l ?c ?k ?b; (case l => k_is); (case c => k_is); (case k => k_is); (case b => exact Cb.bind2 fun _ _ _ _ _ _ _ _ => rfl))
    (case n_a1 => k_is)
    (case d_a1 => refine' Cb.def_mk ?l ?c ?k ?b; (case l => k_is); (case c => k_is); (case k => k_is); (case b => exact Cb.bind2 fun _ _ _ _ _ _ _ _ => rfl))
    (case n_a2 => k_is)
    (case d_a2 => refine' Cb.def_mk ?l ?c ?k ?b; (case l => k_is); (case c => k_is); (case k => k_is); (case b => exact Cb.bind2 fun _ _ _ _ _ _ _ _ => rfl))
    (case n_a3 => k_is)
    (case d_a3 => refine' Cb.def_mk ?l ?c ?k ?b; (case l => k_is); (case c => k_is); (case k => k_is); (case b => exact Cb.bind2 fun _ _ _ _ _ _ _ _ => rfl))
    (case n_a4 => k_is)
    (case d_a4 => refine' Cb.def_mk ?l ?c ?k ?b; (case l => k_is); (case c => k_is); (case k => k_is); (case b => exact Cb.bind2 fun _ _ _ _ _ _ _ _ => rfl))
    (case n_a5 => k_is)
    (case d_a5 => refine' Cb.def_mk ?l ?c ?k ?b; (case l => k_is); (case c => k_is); (case k => k_is); (case b => exact Cb.bind2 fun _ _ _ _ _ _ _ _ => rfl))
    (case n_a6 => k_is)
    (case d_a6 => refine' Cb.def_mk ?l ?c ?k ?b; (case l => k_is); (case c => k_is); (case k => k_is); (case b => exact Cb.bind2 fun _ _ _ _ _ _ _ _ => rfl))
    (case n_a7 => k_is)
    (case d_a7 => refine' Cb.def_mk ?l ?c ?k ?b; (case l => k_is); (case c => k_is); (case k => k_is); (case b => exact Cb.bind2 fun _ _ _ _ _ _ _ _ => rfl))
    (case n_a8 => k_is)
    (case d_a8 => refine' Cb.def_mk ?l ?c ?k ?b; (case l => k_is); (case c => k_is); (case k => k_is); (case b => exact Cb.bind2 fun _ _ _ _ _ _ _ _ => rfl))
    (case n_a9 => k_is)
    (case d_a9 => refine' Cb.def_mk ?l ?c ?k ?b; (case l => k_is); (case c => k_is); (case k => k_is); (case b => exact Cb.bind2 fun _ _ _ _ _ _ _ _ => rfl))
    (case n_a10 => k_is)
    (case d_a10 => refine' Cb.def_mk ?l ?c ?k ?b; (case l => k_is); (case c => k_is); (case k => k_is); (case b => exact Cb.bind2 fun _ _ _ _ _ _ _ _ => rfl))
    (case n_en => k_is)
    (case d_en => refine' Cb.def_mk ?l ?c ?k ?b; (case l => k_is); (case c => k_is); (case k => k_is); (case b => exact Cb.bind2 fun _ _ _ _ _ _ _ _ => rfl))
    (case m_ca => refine' ⟨?x1, ?x2, ?x3⟩; (case x1 => k_is); (case x2 => k_is); (case x3 => k_is))
    (case d_ca => refine' Cb.def_mk ?l ?c ?k ?b; (case l => k_is); (case c => k_is); (case k => k_is); (case b => exact Cb.bind2 fun _ _ _ _ _ _ _ _ => rfl))
    (case m_nw => refine' ⟨?x1, ?x2, ?x3⟩; (case x1 => k_is); (case x2 => k_is); (case x3 => k_is))
    (case d_nw => refine' Cb.def_mk ?l ?c ?k ?b; (case l => k_is); (case c => k_is); (case k => k_is); (case b => exact Cb.bind3 fun _ _ _ _ _ _ _ _ _ => rfl))
    (case m_wi => refine' ⟨?x1, ?x2, ?x3⟩; (case x1 => k_is); (case x2 => k_is); (case x3 => k_is))
    (case d_wi => refine' Cb.def_mk ?l ?c ?k ?b; (case l => k_is); (case c => k_is); (case k => k_is); (case b => exact Cb.bind2 fun _ _ _ _ _ _ _ _ => rfl))
    (case m_tl => refine' ⟨?x1, ?x2, ?x3⟩; (case x1 => k_is); (case x2 => k_is); (case x3 => k_is))
    (case d_tl => refine' Cb.def_mk ?l ?c ?k ?b; (case l => k_is); (case c => k_is); (case k => k_is); (case b => exact Cb.bind2 fun _ _ _ _ _ _ _ _ => rfl))
    (case m_lb => refine' ⟨?x1, ?x2, ?x3⟩; (case x1 => k_is); (case x2 => k_is); (case x3 => k_is))
    (case d_lb => refine' Cb.def_mk ?l ?c ?k ?b; (case l => k_is); (case c => k_is); (case k => k_is); (case b => exact Cb.bind2 fun _ _ _ _ _ _ _ _ => rfl))
    (case m_ts => refine' ⟨?x1, ?x2, ?x3⟩; (case x1 => k_is); (case x2 => k_is); (case x3 => k_is))
    (case d_ts => refine' Cb.def_mk ?l ?c ?k ?b; (case l => k_is); (case c => k_is); (case k => k_is); (case b => exact Cb.bind3 fun _ _ _ _ _ _ _ _ _ => rfl))
    (case m_sk => refine' ⟨?x1, ?x2, ?x3⟩; (case x1 => k_is); (case x2 => k_is); (case x3 => k_is))
    (case d_sk => refine' Cb.def_mk ?l ?c ?k ?b; (case l => k_is); (case c => k_is); (case k => k_is); (case b => exact Cb.bind2 fun _ _ _ _ _ _ _ _ => rfl))
    (case m_cy => refine' ⟨?x1, ?x2, ?x3⟩; (case x1 => k_is); (case x2 => k_is); (case x3 => k_is))
    (case d_cy => refine' Cb.def_mk ?l ?c ?k ?b; (case l => k_is); (case c => k_is); (case k => k_is); (case b => exact Cb.bind1 fun _ _ _ _ _ _ _ => rfl))
    (case m_gr => refine' ⟨?x1, ?x2, ?x3⟩; (case x1 => k_is); (case x2 => k_is); (case x3 => k_is))
    (case d_gr => refine' Cb.def_mk ?l ?c ?k ?b; (case l => k_is); (case c => k_is); (case k => k_is); (case b => exact Cb.bind1 fun _ _ _ _ _ _ _ => rfl))
    (case m_wt => refine' ⟨?x1, ?x2, ?x3⟩; (case x1 => k_is); (case x2 => k_is); (case x3 => k_is))
    (case d_wt => refine' Cb.def_mk ?l ?c ?k ?b; (case l => k_is); (case c => k_is); (case k => k_is); (case b => exact Cb.bind1 fun _ _ _ _ _ _ _ => rfl))
    (case m_ri => refine' ⟨?x1, ?x2, ?x3⟩; (case x1 => k_is); (case x2 => k_is); (case x3 => k_is))
    (case d_ri => refine' Cb.def_mk ?l ?c ?k ?b; (case l => k_is); (case c => k_is); (case k => k_is); (case b => exact Cb.bind3 fun _ _ _ _ _ _ _ _ _ => rfl))
    (case m_tk => refine' ⟨?x1, ?x2, ?x3⟩; (case x1 => k_is); (case x2 => k_is); (case x3 => k_is))
    (case d_tk => refine' Cb.def_mk ?l ?c ?k ?b; (case l => k_is); (case c => k_is); (case k => k_is); (case b => exact Cb.bind1 fun _ _ _ _ _ _ _ => rfl))
    (case m_un => refine' ⟨?x1, ?x2, ?x3⟩; (case x1 => k_is); (case x2 => k_is); (case x3 => k_is))
    (case d_un => refine' Cb.def_mk ?l ?c ?k ?b; (case l => k_is); (case c => k_is); (case k => k_is); (case b => exact Cb.bind1 fun _ _ _ _ _ _ _ => rfl))
    (case m_nb => refine' ⟨?x1, ?x2, ?x3⟩; (case x1 => k_is); (case x2 => k_is); (case x3 => k_is))
    (case d_nb => refine' Cb.def_mk ?l ?c ?k ?b; (case l => k_is); (case c => k_is); (case k => k_is); (case b => exact Cb.bind2 fun _ _ _ _ _ _ _ _ => rfl))
    (case m_ne => refine' ⟨?x1, ?x2, ?x3⟩; (case x1 => k_is); (case x2 => k_is); (case x3 => k_is))
    (case d_ne => refine' Cb.def_mk ?l ?c ?k ?b; (case l => k_is); (case c => k_is); (case k => k_is); (case b => exact Cb.bind2 fun _ _ _ _ _ _ _ _ => rfl))
    (case m_nt => refine' ⟨?x1, ?x2, ?x3⟩; (case x1 => k_is); (case x2 => k_is); (case x3 => k_is))
    (case d_nt => refine' Cb.def_mk ?l ?c ?k ?b; (case l => k_is); (case c => k_is); (case k => k_is); (case b => exact Cb.bind3 fun _ _ _ _ _ _ _ _ _ => rfl))
    (case m_di => refine' ⟨?x1, ?x2, ?x3⟩; (case x1 => k_is); (case x2 => k_is); (case x3 => k_is))
    (case d_di => refine' Cb.def_mk ?l ?c ?k ?b; (case l => k_is); (case c => k_is); (case k => k_is); (case b => exact Cb.bind1 fun _ _ _ _ _ _ _ => rfl))
    (case m_ws => refine' ⟨?x1, ?x2, ?x3⟩; (case x1 => k_is); (case x2 => k_is); (case x3 => k_is))
    (case d_ws => refine' Cb.def_mk ?l ?c ?k ?b; (case l => k_is); (case c => k_is); (case k => k_is); (case b => exact Cb.bind1 fun _ _ _ _ _ _ _ => rfl))
    (case m_dt => refine' ⟨?x1, ?x2, ?x3⟩; (case x1 => k_is); (case x2 => k_is); (case x3 => k_is))
    (case d_dt => refine' Cb.def_mk ?l ?c ?k ?b; (case l => k_is); (case c => k_is); (case k => k_is); (case b => exact Cb.bind2 fun _ _ _ _ _ _ _ _ => rfl))
    (case mr_ca => refine' ⟨?x1, ?x2, ?x3⟩; (case x1 => k_is); (case x2 => k_is); (case x3 => k_is))
    (case mr_nw => refine' ⟨?x1, ?x2, ?x3⟩; (case x1 => k_is); (case x2 => k_is); (case x3 => k_is))
    (case cm_t => k_is)
    (case cm_ci => refine' ⟨?x1, ?x2, ?x3, ?x4⟩; (case x1 => k_is); (case x2 => k_is); (case x3 => k_is); (case x4 => k_is))
    (case d_ci => refine' Cb.def_mk ?l ?c ?k ?b; (case l => k_is); (case c => k_is); (case k => k_is); (case b => exact Cb.bind2 fun _ _ _ _ _ _ _ _ => rfl))
    (case cl_W => refine' ⟨?x1, ?x2, ?x3, ?x4⟩; (case x1 => k_is); (case x2 => k_is); (case x3 => k_is); (case x4 => k_is))
    (case mk_W => k_is)
    (case kc_W => k_is)
    (case no_W_chances => k_is)
    (case no_W_width => k_is)
    (case no_W_higher => k_is)
    (case no_W_lowest => k_is)
    (case cl_R => refine' ⟨?x1, ?x2, ?x3, ?x4⟩; (case x1 => k_is); (case x2 => k_is); (case x3 => k_is); (case x4 => k_is))
    (case mk_R => k_is)
    (case kc_R => k_is)
    (case no_R_chances => k_is)
    (case no_R_width => k_is)
    (case no_R_given => k_is)
    (case no_R_taken => k_is)
    (case no_R_number => k_is)
    (case cl_D => refine' ⟨?x1, ?x2, ?x3, ?x4⟩; (case x1 => k_is); (case x2 => k_is); (case x3 => k_is); (case x4 => k_is))
    (case mk_D => k_is)
    (case kc_D => k_is)
    (case no_D_coder => k_is)
    (case ty_W => refine' ⟨?x1, ?x2, ?x3, ?x4⟩; (case x1 => k_is); (case x2 => k_is); (case x3 => k_is); (case x4 => k_is))
    (case ty_R => refine' ⟨?x1, ?x2, ?x3, ?x4⟩; (case x1 => k_is); (case x2 => k_is); (case x3 => k_is); (case x4 => k_is))
    (case kt1 => k_is)
    (case kt2 => k_is)
    (case kt3 => k_is)
    (case kt4 => decide +kernel)
    (case i_SCALE => k_is)
    (case i_FIRST_CHANCE => k_is)
    (case i_FIRST_WIDTH => k_is)
    (case i_LEAST_WIDTH => k_is)
    (case i_FIRST_BYTES => k_is)
    (case i_MOST_BYTES => k_is)
    (case i_LOWEST_BYTES => k_is)
    (case i_LOWEST_END => k_is)
    (case i_DONE => k_is)
    (case i_NO_ROOM => k_is)
    (case i_REFUSED => k_is)
    (case i_MOST_CHANCES => k_is)
    (case i_MOST_GIVEN => k_is)
    (case i_MOST_EVEN_BITS => k_is)
    (case i_MOST_EVEN_NUMBER => k_is)
    (case i_MOST_TREE_BITS => k_is)
    (case i_OPEN_CALL => k_is)
    (case z_len => k_is)
    (case z_range => k_is)
    (case z_isinstance => k_is)
    (case z_all => k_is)
    (case n_tL => k_is)
    (case n_tA => k_is)
    (case s_tL => refine' Cb.tup_mk ?l ?z ?v; (case l => k_is); (case z => exact Cb.small_arr (by decide +kernel)); (case v => repeat (first | exact .nil | refine .cons ⟨_, rfl⟩ ?_)))
    (case s_tA => refine' Cb.tup_mk ?l ?z ?v; (case l => k_is); (case z => exact Cb.small_arr (by decide +kernel)); (case v => repeat (first | exact .nil | refine .cons rfl ?_)))
    (case n_ans => k_is)
    (case l_ans => k_is)
    (case c_ans => k_is)
    (case k_ans => k_is)
  case S =>
    intro K H xs a hO hwi hask hx
    cases hx with
    | cons h1 h2 =>
      cases h2
      cases h1 with
      | lst hs ha =>
        have e := L2.ints_dw a.1 _ ha
        subst e
        exact ⟨_, a.1, rfl, hs, hask, fun H' p hp => .lst (L2.SqL.of hp) (L2.dw_ints _)⟩
#print axioms PySem.Challenge.cw_chancebits_s01_answers_holds
